import PyProof.Rows.All
import Wide.All
import OpenK.AllK
import Wide.FinOn
import Lean
import PyProof.EqAt
import PyProof.EqKinds
import PyProof.TupleCall
import PySem.Challenge.RW_formturn_k09_whole_lists
set_option Elab.async false
set_option linter.all false
set_option maxRecDepth 100000
/-! THE HAND LAYER, for ints, bools, texts, own classes, LISTS and tuples (index, slices, in, append, pop ..), calls, loops. Paste it whole ahead of your own text; what your proof does not reach may be deleted. -/
namespace L2
open PySem PySem.Spec PyProof.Rows

/-- a key: an int or a str -/
abbrev Key := Sum Int Str
def keyIs : Key → Value → Bool
  | .inl k, v => Value.isInt k v
  | .inr x, v => Value.isStrOf x v
def keyH (w : World) : Key → Int
  | .inl k => hashInt k
  | .inr x => hashStr w x
theorem keyIs_shape : ∀ {k : Key} {v : Value}, keyIs k v = true → (∃ i t, k = Sum.inl i ∧ v = Value.int i t) ∨ (∃ x t, k = Sum.inr x ∧ v = Value.str x t)
  | .inl i, v, h => by
    obtain ⟨t, e⟩ := Value.isInt_shape (k := i) (v := v) h
    exact .inl ⟨i, t, rfl, e⟩
  | .inr x, v, h => by
    obtain ⟨t, e⟩ := Value.isStrOf_shape (x := x) (v := v) h
    exact .inr ⟨x, t, rfl, e⟩
theorem key_ll (a b : Int) : decide ((Sum.inl a : Key) = Sum.inl b) = (a == b) := by
  by_cases e : a = b
  · subst e; simp
  · have h : ¬ (Sum.inl a : Key) = Sum.inl b := fun q => e (Sum.inl.inj q)
    rw [decide_eq_false h]
    exact (beq_eq_false_iff_ne.mpr e).symm
theorem key_rr (a b : Str) : decide ((Sum.inr a : Key) = Sum.inr b) = decide (a = b) := by
  by_cases e : a = b
  · subst e; simp
  · have h : ¬ (Sum.inr a : Key) = Sum.inr b := fun q => e (Sum.inr.inj q)
    rw [decide_eq_false h, decide_eq_false e]
theorem key_lr (a : Int) (b : Str) : decide ((Sum.inl a : Key) = Sum.inr b) = false := decide_eq_false (fun q => nomatch q)
theorem key_rl (a : Str) (b : Int) : decide ((Sum.inr a : Key) = Sum.inl b) = false := decide_eq_false (fun q => nomatch q)

def mixKind (prog : Program) (w : World) : PySem.KeyKind prog w Key where
  is := keyIs
  hash := keyH w
  inj := fun v a b ha hb => by
    rcases keyIs_shape ha with ⟨i, t, rfl, rfl⟩ | ⟨x, t, rfl, rfl⟩
    · rcases keyIs_shape hb with ⟨j, u, rfl, e⟩ | ⟨y, u, rfl, e⟩
      · injection e with e1 _; rw [e1]
      · exact nomatch e
    · rcases keyIs_shape hb with ⟨j, u, rfl, e⟩ | ⟨y, u, rfl, e⟩
      · exact nomatch e
      · injection e with e1 _; rw [e1]
  byValue := fun k v h => by
    rcases keyIs_shape h with ⟨i, t, rfl, rfl⟩ | ⟨x, t, rfl, rfl⟩ <;> rfl
  pyHash := fun hv h => by
    rcases keyIs_shape hv with ⟨i, t, rfl, rfl⟩ | ⟨x, t, rfl, rfl⟩
    · exact wpAny_pyHash_int h
    · exact wpAny_pyHash_str h
  eqBool := fun hu hv h => by
    rcases keyIs_shape hu with ⟨i, t, rfl, rfl⟩ | ⟨x, t, rfl, rfl⟩
    · rcases keyIs_shape hv with ⟨j, u, rfl, rfl⟩ | ⟨y, u, rfl, rfl⟩
      · rw [key_ll] at h; exact wpAny_eqBool_int h
      · rw [key_lr] at h; exact SeqAt.EqAt.int_str i t y u _ _ _ _ h
    · rcases keyIs_shape hv with ⟨j, u, rfl, rfl⟩ | ⟨y, u, rfl, rfl⟩
      · rw [key_rl] at h; exact SeqAt.EqAt.str_int x t j u _ _ _ _ h
      · rw [key_rr] at h; exact wpAny_eqBool_str h
  «strs» := fun k x t v h => by
    rcases keyIs_shape h with ⟨i, u, rfl, e⟩ | ⟨y, u, rfl, e⟩
    · exact nomatch e
    · injection e with e1 _
      subst e1
      cases v <;> rfl

end L2

namespace L2
open PySem PySem.Spec PyProof.Rows

/-- a value, without the heap -/
inductive V where
  | non | bl (b : Bool) | int (i : Int) | str (x : Str) | byt (b : Array UInt8) | flt (b : UInt64) | ref (a : Addr) | ty (n : String)
  deriving DecidableEq

def RelV : V → Value → Prop
  | .non, u => u = Value.none
  | .bl b, u => u = Value.bool b
  | .int i, u => ∃ t, u = Value.int i t
  | .str x, u => ∃ t, u = Value.str x t
  | .byt b, u => ∃ t, u = Value.bytes b t
  | .flt b, u => ∃ t, u = Value.float b t
  | .ref a, u => u = Value.ref a
  | .ty n, u => u = Value.type n

abbrev Vals : List V → List Value → Prop := Paired RelV
theorem Vals.length {xs : List V} {us : List Value} (r : Vals xs us) : xs.length = us.length := Paired.length r
theorem Vals.get : ∀ {xs : List V} {us : List Value} {i : Nat} {x : V}, Vals xs us → xs[i]? = some x → ∃ u, us[i]? = some u ∧ RelV x u
  | _, _, _, _, .nil, e => by simp at e
  | _, _, 0, _, .cons r _, e => by simp at e; subst e; exact ⟨_, rfl, r⟩
  | _, _, i + 1, x, .cons _ t, e => by
    obtain ⟨u, h1, h2⟩ := Vals.get (i := i) (x := x) t (by simpa using e)
    exact ⟨u, by simpa using h1, h2⟩
theorem Vals.append : ∀ {xs ys : List V} {us ws : List Value}, Vals xs us → Vals ys ws → Vals (xs ++ ys) (us ++ ws)
  | _, _, _, _, .nil, s => s
  | _, _, _, _, .cons r t, s => .cons r (Vals.append t s)
theorem Vals.take : ∀ {xs : List V} {us : List Value} (n : Nat), Vals xs us → Vals (xs.take n) (us.take n)
  | _, _, 0, _ => .nil
  | _, _, _ + 1, .nil => .nil
  | _, _, n + 1, .cons r t => .cons r (Vals.take n t)
theorem Vals.drop : ∀ {xs : List V} {us : List Value} (n : Nat), Vals xs us → Vals (xs.drop n) (us.drop n)
  | _, _, 0, r => r
  | _, _, _ + 1, .nil => .nil
  | _, _, n + 1, .cons _ t => Vals.drop n t
def RelO : Option V → Option Value → Prop
  | some v, some u => RelV v u
  | none, none => True
  | _, _ => False
def KV {κ : Type} : List (κ × V) → List (κ × Value) → Prop := Paired fun (p : κ × V) (q : κ × Value) => p.1 = q.1 ∧ RelV p.2 q.2

/-- a key of a dict (00_mix): an int or a text -/
def kV : Key → V
  | .inl i => .int i
  | .inr x => .str x

/-- what stands at a tracked address -/
inductive HO where
  /-- a list -/
  | lst (xs : List V)
  /-- a tuple (never changes) -/
  | tup (xs : List V)
  /-- a dict whose keys are ints and texts; one whose keys are tuples of ints and texts (the empty one is both) -/
  | dK (kvs : List (Key × V)) | dT (kvs : List (List Key × V))
  /-- a set of ints: its members, its size -/
  | set (S : Int → Bool) (n : Nat)
  /-- an instance of the class at C, its dict at dx, its attributes -/
  | ins (C dx : Addr) (fs : List (Str × V))
  /-- the dict of the instance at x -/
  | own (x : Addr)
  /-- the dict of an exception -/
  | xd (fs : List (Str × V))
  /-- a bound method, f of x -/
  | met (f x : Addr)
  /-- a range object lo, lo + 1, .. below hi -/
  | rng (lo hi : Int)
  /-- a thing that is known to the object (the script; a dict while a loop walks it): read, never written while it is so -/
  | frz (o : Obj) (u : HO)
  /-- a code object's table -/
  | tbl (ps : Array Value)
  /-- any other thing, by what is true of its one object (a def of one's own: SetO a S n := HO.ext fun h => ..) -/
  | ext (φ : Heap → Prop)

abbrev Hp := Addr → Option HO
def upd (H : Hp) (a : Addr) (o : HO) : Hp := fun b => if b = a then some o else H b
theorem upd_same {H : Hp} {a : Addr} {o : HO} : upd H a o a = some o := by unfold upd; rw [if_pos rfl]
theorem upd_ne {H : Hp} {a b : Addr} {o : HO} (h : b ≠ a) : upd H a o b = H b := by unfold upd; rw [if_neg h]
/-- two objects of different content stand apart -/
theorem ne_of {H : Hp} {a b : Addr} {o u : HO} (h : H a = some o) (h' : H b = some u) (d : o ≠ u) : a ≠ b := by
  intro e; subst e; rw [h] at h'; exact d (Option.some.inj h')
theorem ne_of_none {H : Hp} {a b : Addr} {o : HO} (h : H a = some o) (h' : H b = none) : a ≠ b := by
  intro e; subst e; rw [h] at h'; cases h'

section
variable (P : Program) (w : World)
def ObjOk (H : Hp) (h : Heap) (a : Addr) : HO → Prop
  | .lst xs => xs.length ≤ sizeLine ∧ ∃ (its : List Value) (n : Nat), Vals xs its ∧ h.get? a = some { cls := .type "list", data := .seq its.toArray n }
  | .tup xs => xs.length ≤ sizeLine ∧ ∃ its : List Value, Vals xs its ∧ IsTup h a its.toArray
  | .dK kvs => kvs.length ≤ sizeLine ∧ (a == sysModules) = false ∧ ∃ vs, KV kvs vs ∧ h.DictOf (mixKind P w) a vs
  | .dT kvs => kvs.length ≤ sizeLine ∧ (a == sysModules) = false ∧ ∃ xs : List (List Key × Addr × Value),
      Paired (fun (p : List Key × V) (q : List Key × Addr × Value) => p.1 = q.1 ∧ H q.2.1 = some (.tup (p.1.map kV)) ∧ RelV p.2 q.2.2) kvs xs ∧
      ∃ o es ep, h.get? a = some o ∧ o.ExactDict ∧ o.data = .dict es ep ∧ es.toList = xs.map (entryOfKey (tupleKind (mixKind P w))) ∧ (xs.map (·.1)).Nodup
  | .set S n => h.SetOf (intKind P w) a S n
  | .ins C dx fs => H dx = some (.own a) ∧ fs.length ≤ 1000 ∧ dx ≠ a ∧ h.get? a = some (PySem.W.instObj C dx) ∧
      ∃ mA, h.Ns1 dx mA ∧ (∀ f, RelO (fs.lookup f) (mA f)) ∧ PySem.Within mA (fs.map (·.1))
  | .own _ => ∃ o, h.get? a = some o
  | .xd fs => ∃ mA, h.Ns1 a mA ∧ ∀ f, RelO (fs.lookup f) (mA f)
  | .rng lo hi => ∃ t u v, h.get? a = some { cls := .type "range", data := .fields #[.int lo t, .int hi u, .int 1 v] }
  | .frz o u => h.get? a = some o ∧ ObjOk H h a u
  | .tbl ps => h.get? a = some { cls := .none, data := .fields ps }
  | .met f x => h.get? a = some (PySem.W.methodObj (.ref f) (.ref x))
  | .ext φ => φ h ∧ (∃ o, h.get? a = some o) ∧ ∀ h1 h2 : Heap, φ h1 → (∀ o, h1.get? a = some o → h2.get? a = some o) → φ h2
/-- the abstract heap is held -/
def HOk (H : Hp) (h : Heap) : Prop := ∀ a o, H a = some o → ObjOk P w H h a o
end

section
variable {P : Program} {w : World} {H H' : Hp} {h h' : Heap} {a : Addr} {o : HO}
theorem ObjOk.lt (x : ObjOk P w H h a o) : a < h.objs.size := by
  cases o with
  | lst xs => obtain ⟨_, _, _, _, e⟩ := x; exact Heap.lt_size e
  | tup xs => obtain ⟨_, _, _, p⟩ := x; exact p.lt
  | dK kvs => obtain ⟨_, _, _, _, o, _, _, e, _⟩ := x; exact Heap.lt_size e
  | dT kvs => obtain ⟨_, _, _, _, o, _, _, e, _⟩ := x; exact Heap.lt_size e
  | set S n => obtain ⟨o, _, _, _, e, _⟩ := x; exact Heap.lt_size e
  | ins C dx fs => obtain ⟨_, _, _, e, _⟩ := x; exact Heap.lt_size e
  | own y => obtain ⟨_, e⟩ := x; exact Heap.lt_size e
  | xd fs => obtain ⟨_, ⟨_, _, _, e, _⟩, _⟩ := x; exact Heap.lt_size e
  | rng lo hi => obtain ⟨_, _, _, e⟩ := x; exact Heap.lt_size e
  | frz ob u => obtain ⟨e, _⟩ := x; exact Heap.lt_size e
  | tbl ps => exact Heap.lt_size (show h.get? a = some _ from x)
  | met f y => exact Heap.lt_size (show h.get? a = some _ from x)
  | ext φ => obtain ⟨_, ⟨_, e⟩, _⟩ := x; exact Heap.lt_size e
theorem Paired.mapP {α β : Type} {F G : α → β → Prop} : ∀ {l₁ : List α} {l₂ : List β}, Paired F l₁ l₂ → (∀ a b, F a b → G a b) → Paired G l₁ l₂
  | _, _, .nil, _ => .nil
  | _, _, .cons r t, f => .cons (f _ _ r) (Paired.mapP t f)
/-- what an object's description leans on: its own object, its own dict, the tuples -/
theorem ObjOk.stay (x : ObjOk P w H h a o) (k : ∀ b u, (b = a ∨ H b = some (.own a)) → h.get? b = some u → h'.get? b = some u)
    (ho : ∀ b, H b = some (.own a) → H' b = some (.own a)) (ht : ∀ b xs, H b = some (.tup xs) → H' b = some (.tup xs)) : ObjOk P w H' h' a o := by
  induction o with
  | lst xs => obtain ⟨z, its, n, r, e⟩ := x; exact ⟨z, its, n, r, k _ _ (.inl rfl) e⟩
  | tup xs => obtain ⟨z, its, r, ob, e, c⟩ := x; exact ⟨z, its, r, ob, k _ _ (.inl rfl) e, c⟩
  | dK kvs => obtain ⟨z, y, vs, r, ob, es, ep, e, c⟩ := x; exact ⟨z, y, vs, r, ob, es, ep, k _ _ (.inl rfl) e, c⟩
  | dT kvs =>
    obtain ⟨z, y, xs, r, ob, es, ep, e, c⟩ := x
    exact ⟨z, y, xs, Paired.mapP r fun p q z => ⟨z.1, ht _ _ z.2.1, z.2.2⟩, ob, es, ep, k _ _ (.inl rfl) e, c⟩
  | set S n => obtain ⟨ob, es, ep, t, e, c⟩ := x; exact ⟨ob, es, ep, t, k _ _ (.inl rfl) e, c⟩
  | ins C dx fs =>
    obtain ⟨d, z, ne, e, mA, ⟨od, es, ep, e2, c⟩, r⟩ := x
    exact ⟨ho _ d, z, ne, k _ _ (.inl rfl) e, mA, ⟨od, es, ep, k _ _ (.inr d) e2, c⟩, r⟩
  | own y => obtain ⟨ob, e⟩ := x; exact ⟨ob, k _ _ (.inl rfl) e⟩
  | xd fs => obtain ⟨mA, ⟨od, es, ep, e, c⟩, r⟩ := x; exact ⟨mA, ⟨od, es, ep, k _ _ (.inl rfl) e, c⟩, r⟩
  | rng lo hi => obtain ⟨t, u, v, e⟩ := x; exact ⟨t, u, v, k _ _ (.inl rfl) e⟩
  | frz ob u ih => obtain ⟨e, q⟩ := x; exact ⟨k _ _ (.inl rfl) e, ih q⟩
  | tbl ps =>
    have e : h.get? a = some { cls := .none, data := .fields ps } := x
    show h'.get? a = some { cls := .none, data := .fields ps }
    exact k a _ (.inl rfl) e
  | met f y =>
    have e : h.get? a = some (PySem.W.methodObj (.ref f) (.ref y)) := x
    show h'.get? a = some (PySem.W.methodObj (.ref f) (.ref y))
    exact k a _ (.inl rfl) e
  | ext φ => obtain ⟨p, ⟨o, e⟩, st⟩ := x; exact ⟨st _ _ p fun o q => k _ _ (.inl rfl) q, ⟨o, k _ _ (.inl rfl) e⟩, st⟩
theorem HOk.lt (x : HOk P w H h) (e : H a = some o) : a < h.objs.size := (x a o e).lt
theorem HOk.fresh (x : HOk P w H h) (e : h.objs.size ≤ a) : H a = none := by
  cases q : H a with
  | none => rfl
  | some u => exact absurd (Nat.lt_of_lt_of_le (x.lt q) e) (Nat.lt_irrefl _)
/-- every object of the heap is kept -/
theorem HOk.kept (x : HOk P w H h) (k : ∀ b u, h.get? b = some u → h'.get? b = some u) : HOk P w H h' := fun a o e =>
  (x a o e).stay (fun b u _ q => k b u q) (fun _ q => q) fun _ _ q => q
/-- a new object is laid and tracked -/
theorem HOk.laid (x : HOk P w H h) (k : ∀ b u, h.get? b = some u → h'.get? b = some u) (hp : h.objs.size ≤ a) (new : ObjOk P w (upd H a o) h' a o) : HOk P w (upd H a o) h' := fun b u e => by
  have hn := x.fresh hp
  by_cases hb : b = a
  · subst hb; rw [upd_same] at e; cases e; exact new
  · rw [upd_ne hb] at e
    exact (x b u e).stay (fun c v _ q => k c v q) (fun c q => by rw [upd_ne (ne_of_none q hn)]; exact q) fun c xs q => by rw [upd_ne (ne_of_none q hn)]; exact q
end

/-- what may be read as u: it is u, or a known u -/
def Rd (H : Hp) (a : Addr) (u : HO) : Prop := H a = some u ∨ ∃ o, H a = some (.frz o u)
theorem Rd.ok {P : Program} {w : World} {H : Hp} {h : Heap} {a : Addr} {u : HO} (r : Rd H a u) (x : HOk P w H h) : ObjOk P w H h a u := by
  rcases r with r | ⟨o, r⟩
  · exact x a u r
  · obtain ⟨_, q⟩ := x a _ r
    exact q
/-- what may be written -/
def Mut : Option HO → Prop
  | some (.lst _) => True
  | some (.dK _) => True
  | some (.dT _) => True
  | some (.set _ _) => True
  | some (.ins _ _ _) => True
  | some (.ext _) => True
  | _ => False
section
variable {P : Program} {w : World} {H : Hp} {h h' : Heap} {x e : Addr} {o' : HO}
/-- the object at e is changed: x itself, or the dict of the instance x -/
theorem HOk.write (ok : HOk P w H h) (mu : Mut (H x)) (he : e = x ∨ H e = some (.own x)) (k : ∀ b u, b ≠ e → h.get? b = some u → h'.get? b = some u) (heo : ∃ u, h'.get? e = some u)
    (new : ObjOk P w (upd H x o') h' x o') : HOk P w (upd H x o') h' := fun b u q => by
  have nown : ∀ c y, H c = some (.own y) → c ≠ x := fun c y r z => by subst z; rw [r] at mu; exact mu
  have ntup : ∀ c xs, H c = some (.tup xs) → c ≠ x := fun c xs r z => by subst z; rw [r] at mu; exact mu
  by_cases hb : b = x
  · subst hb; rw [upd_same] at q; cases q; exact new
  · rw [upd_ne hb] at q
    by_cases hbe : b = e
    · have q' : H b = some (.own x) := by
        rcases he with z | z
        · exact absurd (hbe.trans z) hb
        · rw [hbe]; exact z
      rw [q] at q'; cases q'
      obtain ⟨v, hv⟩ := heo
      exact ⟨v, by rw [hbe]; exact hv⟩
    · refine (ok b u q).stay (fun c v hc r => k c v ?_ r) (fun c r => by rw [upd_ne (nown c b r)]; exact r) fun c xs r => by rw [upd_ne (ntup c xs r)]; exact r
      rcases hc with rfl | hc
      · exact hbe
      · rintro rfl
        rcases he with z | z
        · exact nown c b hc z
        · rw [hc] at z; cases z; exact hb rfl
end

/-! ### kept unless tracked; of the frames at fs (the callers') the slots may change (an exception that passes writes there); of the records at ex (iterators) nothing is said -/
structure Un (fs ex : List Addr) (H H' : Hp) (h h' : Heap) : Prop where
  keep : ∀ b o, h.get? b = some o → H b = none → b ∉ fs → b ∉ ex → h'.get? b = some o
  slot : ∀ b o, h.get? b = some o → H b = none → b ∈ fs → b ∉ ex → ∃ sl, h'.get? b = some { o with slots := sl }
  free : ∀ b o, h.get? b = some o → H b = none → b ∉ ex → H' b = none
  there : ∀ b o, h.get? b = some o → b ∉ ex → ∃ o', h'.get? b = some o'
  tups : ∀ b xs, H b = some (.tup xs) → H' b = some (.tup xs)
  frzs : ∀ b o u, H b = some (.frz o u) → H' b = some (.frz o u)
  tbls : ∀ b ps, H b = some (.tbl ps) → ∃ more, H' b = some (.tbl (ps ++ more))
section
variable {fs fs' ex ex' : List Addr} {H H1 H2 : Hp} {h h1 h2 h' : Heap} {a x e : Addr} {o : HO}
theorem Un.any (u : Un fs ex H H1 h h1) {b : Addr} {ob : Obj} (q : h.get? b = some ob) (n : H b = none) (hx : b ∉ ex) : ∃ sl, h1.get? b = some { ob with slots := sl } := by
  by_cases hb : b ∈ fs
  · exact u.slot b ob q n hb hx
  · exact ⟨ob.slots, u.keep b ob q n hb hx⟩
theorem Un.kept (k : ∀ b u, h.get? b = some u → h'.get? b = some u) : Un fs ex H H h h' :=
  ⟨fun b ob q _ _ _ => k b ob q, fun b ob q _ _ _ => ⟨ob.slots, k b ob q⟩, fun _ _ _ n _ => n, fun b ob q _ => ⟨ob, k b ob q⟩, fun _ _ q => q, fun _ _ _ q => q, fun _ ps q => ⟨#[], by rw [q]; simp⟩⟩
theorem Un.refl : Un fs ex H H h h := Un.kept fun _ _ q => q
theorem Un.laid (k : ∀ b u, h.get? b = some u → h'.get? b = some u) (hp : h.objs.size ≤ a) (hn : H a = none) : Un fs ex H (upd H a o) h h' where
  keep := fun b u q _ _ _ => k b u q
  slot := fun b u q _ _ _ => ⟨u.slots, k b u q⟩
  free := fun b u q n _ => by rw [upd_ne (Nat.ne_of_lt (Nat.lt_of_lt_of_le (Heap.lt_size q) hp))]; exact n
  there := fun b u q _ => ⟨u, k b u q⟩
  tups := fun b xs q => by rw [upd_ne (ne_of_none q hn)]; exact q
  frzs := fun b u xs q => by rw [upd_ne (ne_of_none q hn)]; exact q
  tbls := fun b ps q => ⟨#[], by rw [upd_ne (ne_of_none q hn), q]; simp⟩
theorem Un.write (mu : Mut (H x)) (he : e = x ∨ H e = some (.own x)) (k : ∀ b u, b ≠ e → h.get? b = some u → h'.get? b = some u) (heo : ∃ u, h'.get? e = some u) : Un fs ex H (upd H x o) h h' := by
  have hx : ∀ b, H b = none → b ≠ x := fun b n z => by subst z; rw [n] at mu; exact mu
  have hb : ∀ b, H b = none → b ≠ e := fun b n z => by
    subst z
    rcases he with r | r
    · exact hx b n r
    · rw [n] at r; cases r
  have hm : ∀ b u, H b = some u → ¬ Mut (some u) → b ≠ x := fun b u q nm z => by subst z; rw [q] at mu; exact nm mu
  refine ⟨fun b u q n _ _ => k b u (hb b n) q, fun b u q n _ _ => ⟨u.slots, k b u (hb b n) q⟩, fun b u q n _ => by rw [upd_ne (hx b n)]; exact n, fun b u q _ => ?_,
    fun b xs q => by rw [upd_ne (hm b _ q fun z => z)]; exact q, fun b u xs q => by rw [upd_ne (hm b _ q fun z => z)]; exact q, fun b ps q => ⟨#[], by rw [upd_ne (hm b _ q fun z => z), q]; simp⟩⟩
  by_cases hbe : b = e
  · subst hbe; exact heo
  · exact ⟨u, k b u hbe q⟩
theorem Un.mono (u : Un fs ex H H1 h h1) (hs : ∀ b ∈ fs, b ∈ fs') (hx : ∀ b ∈ ex, b ∈ ex') : Un fs' ex' H H1 h h1 :=
  ⟨fun b ob q n hb he => u.keep b ob q n (fun z => hb (hs b z)) fun z => he (hx b z), fun _ _ q n _ he => u.any q n fun z => he (hx _ z), fun b ob q n he => u.free b ob q n fun z => he (hx b z), fun b ob q he => u.there b ob q fun z => he (hx b z), u.tups, u.frzs, u.tbls⟩
end

/-! ### the heap without what is tracked -/
def trk (h : Heap) (H : Hp) : List Addr := (List.range h.objs.size).filter fun a => (H a).isSome
def hidT (h : Heap) (H : Hp) : Heap := PySem.W.hideAll h (trk h H)
theorem hidT_size (h : Heap) (H : Hp) : (hidT h H).objs.size = h.objs.size := PySem.W.hideAll_size _ _
theorem hidT_get {h : Heap} {H : Hp} {b : Addr} {o : Obj} (e : h.get? b = some o) (n : H b = none) : (hidT h H).get? b = some o :=
  PySem.W.hideAll_get _ e fun hm => by
    have q : (H b).isSome = true := (List.mem_filter.mp hm).2
    rw [n] at q; simp at q
theorem of_hidT {h : Heap} {H : Hp} {b : Addr} {o : Obj} (e : (hidT h H).get? b = some o) : h.get? b = some o ∧ H b = none := by
  have e' : h.get? b = some o := PySem.W.of_hideAll (trk h H) e
  refine ⟨e', ?_⟩
  cases q : H b with
  | none => rfl
  | some x =>
    have hm : b ∈ trk h H := List.mem_filter.mpr ⟨List.mem_range.mpr (Heap.lt_size e'), by simp [q]⟩
    have z : (hidT h H).get? b = none := PySem.W.hideAll_none (trk h H) hm
    rw [z] at e; cases e

/-! ### OpenK's ledger, filled with every new object but one -/
end L2

namespace L2
open PySem PySem.Spec PyProof.Rows

/-- the module's facts, over the base: the heap at the law's entry without what is tracked there -/
structure Mod (K : PySem.W.Frag) (mg : Str → Option Value) (base : Heap) : Prop where
  kin : K.In base
  glob : base.Ns mainGlobals mg
  blt : ∃ mb, base.Ns builtinsNs mb ∧ ∀ x : Str, x ≠ "__name__" → mb x = bootBuiltins x
  nolimit : base.NoLimit

/-- the context: a def's body (or a comprehension's block) running. base: fixed through the whole law; s₀, H₀: the entry; outer: the frames whose slots others may change (a def's callers); stack: all frames that run;
   ex: iterators that were made ahead of the entry and are walked here (a comprehension's); fn: the names whose cells were made at the entry (a def: all; a comprehension's block: its own); calm: not within an except suite; pn: pins that every state bears; xe: what is wanted of an exception that leaves the code -/
structure Cx where
  prog : Program
  w : World
  K : PySem.W.Frag
  mg : Str → Option Value
  base : Heap
  A : Around
  N : List Str
  s₀ : Shared
  H₀ : Hp
  env : Env
  outer : List Env
  stack : List Env
  ex : List Addr
  fn : Str → Bool
  calm : Bool
  pn : List (Addr × Obj)
  xe : Value → Shared → Prop
/-- the callers' frames -/
def frs (l : List Env) : List Addr := l.filterMap (·.frame)
abbrev Cx.fs (X : Cx) : List Addr := frs X.outer

def Vis (sc : Scope) (x : Str) : Prop := sc.names.lookup x = some .local ∨ sc.names.lookup x = some .cell ∨ sc.names.lookup x = some .free
def Loc (sc : Scope) (x : Str) : Prop := sc.names.lookup x = some .local ∨ sc.names.lookup x = some .cell
def Look (env : Env) (h : Heap) (m : Str → Option Value) (x : Str) (u : Value) : Prop :=
  (env.kindOf x = some .local ∧ m x = some u) ∨ ((env.kindOf x = some .cell ∨ env.kindOf x = some .free) ∧ ∃ c, env.cells.lookup x = some c ∧ h.IsCell c (some u))

structure Cx.Ok (X : Cx) : Prop where
  mod : Mod X.K X.mg X.base
  kind : X.env.scope.kind = .function
  glob : X.env.globals = mainGlobals
  blt : X.env.builtins = builtinsNs
  above : X.s₀.heap.objs.size ≤ X.env.locals
  inj : ∀ x y c, X.env.cells.lookup x = some c → X.env.cells.lookup y = some c → x = y
  has : ∀ x, (X.env.kindOf x = some .cell ∨ X.env.kindOf x = some .free) → ∃ c, X.env.cells.lookup x = some c
  cab : ∀ x c, X.fn x = true → X.env.cells.lookup x = some c → X.s₀.heap.objs.size ≤ c
  hd : X.calm = true → X.A.handled = none
  frames : X.A.frames = some X.stack
  stk : X.stack = X.outer ∨ (X.stack = X.env :: X.outer ∧ X.env.frame = some X.env.locals)
  exf : ∀ b ∈ X.ex, b ≠ X.env.locals ∧ ∀ x c, X.env.cells.lookup x = some c → c ≠ b
  bs : ∀ b o, X.base.get? b = some o → X.s₀.heap.get? b = some o ∧ X.H₀ b = none
  bsz : X.base.objs.size ≤ X.s₀.heap.objs.size
  noex : ∀ b o, X.base.get? b = some o → b ∉ X.ex
  exfs : ∀ b ∈ X.ex, b ∉ X.fs
  funs : X.s₀.heap.FunFrames X.base X.outer
  frf : ∀ b ∈ X.fs, X.H₀ b = none

structure Inv (X : Cx) (pins : List (Addr × Obj)) (σ : List (Option V)) (H : Hp) (s : Shared) : Prop where
  ok : X.Ok
  os : s.os = X.s₀.os
  bare : AllBare s.gens
  base : Un X.fs X.ex X.H₀ H X.s₀.heap s.heap
  loc : ∃ m, s.heap.Ns X.env.locals m ∧ ∀ (i : Nat) (x : Str) (v : V), X.N[i]? = some x → σ[i]? = some (some v) → Vis X.env.scope x → ∃ u, RelV v u ∧ Look X.env s.heap m x u
  cell : ∀ x c, X.env.cells.lookup x = some c → ∃ v, s.heap.IsCell c v
  free : H X.env.locals = none
  freeC : ∀ x c, X.env.cells.lookup x = some c → H c = none
  pin : ∀ p ∈ X.pn ++ pins, s.heap.get? p.1 = some p.2 ∧ H p.1 = none ∧ p.1 ≠ X.env.locals ∧ p.1 ∉ X.fs ∧ ∀ v, p.2.data ≠ .cell v
  hok : HOk X.prog X.w H s.heap
  len : σ.length = X.N.length

section
variable {X : Cx} {pins : List (Addr × Obj)} {σ : List (Option V)} {H H' : Hp} {s : Shared} {h' : Heap}

theorem Cx.Ok.nofr (ok : X.Ok) {b : Addr} {o : Obj} (e : X.base.get? b = some o) : b ∉ X.fs := fun hb => by
  have := (ok.funs.mem hb).1
  rw [e] at this; cases this
theorem Inv.bs (I : Inv X pins σ H s) : ∀ b o, X.base.get? b = some o → s.heap.get? b = some o ∧ H b = none := fun b o e =>
  ⟨I.base.keep b o (I.ok.bs b o e).1 (I.ok.bs b o e).2 (I.ok.nofr e) (I.ok.noex b o e), I.base.free b o (I.ok.bs b o e).1 (I.ok.bs b o e).2 (I.ok.noex b o e)⟩
theorem Inv.bk (I : Inv X pins σ H s) : ∀ b o, X.base.get? b = some o → s.heap.get? b = some o := fun b o e => (I.bs b o e).1
theorem Inv.mod (I : Inv X pins σ H s) : Mod X.K X.mg X.base := I.ok.mod
theorem Inv.kIn (I : Inv X pins σ H s) : X.K.In s.heap := I.ok.mod.kin.keeps I.bk
theorem Inv.lt (I : Inv X pins σ H s) : X.env.locals < s.heap.objs.size := let ⟨_, hn, _⟩ := I.loc; hn.lt
theorem Inv.sz (I : Inv X pins σ H s) : X.s₀.heap.objs.size ≤ s.heap.objs.size := Nat.le_trans I.ok.above (Nat.le_of_lt I.lt)
theorem Inv.nofs (I : Inv X pins σ H s) {a : Addr} (h : s.heap.objs.size ≤ a) : a ∉ X.fs := fun hb => by
  obtain ⟨_, o, ho, _⟩ := I.ok.funs.mem hb
  exact absurd (Nat.lt_of_lt_of_le (Heap.lt_size ho) (Nat.le_trans I.sz h)) (Nat.lt_irrefl _)
theorem Inv.cne (I : Inv X pins σ H s) : ∀ x c, X.env.cells.lookup x = some c → c ≠ X.env.locals := fun x c e z => by
  obtain ⟨v, o, ho, hd⟩ := I.cell x c e
  obtain ⟨m, ⟨o', es, ep, ho', hd', _⟩, _⟩ := I.loc
  rw [z, ho'] at ho; cases ho; rw [hd'] at hd; cases hd
theorem Inv.funs (I : Inv X pins σ H s) : s.heap.FunFrames X.base X.outer := by
  have all : ∀ (l : List Env), (∀ b ∈ frs l, b ∈ X.fs) → X.s₀.heap.FunFrames X.base l → s.heap.FunFrames X.base l := by
    intro l
    induction l with
    | nil => intro _ _; trivial
    | cons env r ih =>
      intro hs hl
      obtain ⟨hk, ⟨L, o, hf, hn, ho, hd⟩, hr⟩ := hl
      have hL : L ∈ X.fs := hs L (by unfold frs; rw [List.filterMap_cons, hf]; exact List.mem_cons_self)
      obtain ⟨sl, e⟩ := I.base.slot L o ho (I.ok.frf L hL) hL fun z => I.ok.exfs L z hL
      exact ⟨hk, ⟨L, _, hf, hn, e, hd⟩, ih (fun b hb => hs b (by unfold frs; rw [List.filterMap_cons, hf]; exact List.mem_cons_of_mem _ hb)) hr⟩
  exact all X.outer (fun _ hb => hb) I.ok.funs

/-- the frames that run, for a call -/
theorem Inv.stack (I : Inv X pins σ H s) : s.heap.FunFrames X.base X.stack := by
  rcases I.ok.stk with e | ⟨e, hf⟩
  · rw [e]; exact I.funs
  · rw [e]
    obtain ⟨m, hn, _⟩ := I.loc
    refine .cons (by rw [I.ok.kind]; decide) hf hn ?_ I.funs
    exact Heap.get?_none_of_le (Nat.le_trans I.ok.bsz I.ok.above)
theorem Inv.stkSub (I : Inv X pins σ H s) : ∀ b ∈ frs X.stack, b ∈ X.env.locals :: X.fs := fun b hb => by
  rcases I.ok.stk with e | ⟨e, hf⟩
  · rw [e] at hb; exact List.mem_cons_of_mem _ hb
  · rw [e] at hb
    unfold frs at hb
    rw [List.filterMap_cons, hf] at hb
    exact hb
theorem Inv.stkFree (I : Inv X pins σ H s) : ∀ b ∈ frs X.stack, H b = none := fun b hb => by
  rcases List.mem_cons.mp (I.stkSub b hb) with e | hb
  · rw [e]; exact I.free
  · obtain ⟨_, o, ho, _⟩ := I.ok.funs.mem hb
    exact I.base.free b o ho (I.ok.frf b hb) fun z => I.ok.exfs b z hb

/-- THE STEP: the untracked objects but the frame and the records at ch are kept (the callers' frames up to slots), the frame's map is kept, the new abstract heap is held -/
theorem Inv.step {g' : Array GenState} {t' : Nat} {d' : Drawn} {ch : List Addr} (I : Inv X pins σ H s)
    (hch : ∀ b ∈ ch, (b ∈ X.ex ∨ X.s₀.heap.objs.size ≤ b) ∧ b ≠ X.env.locals ∧ (∀ x c, X.env.cells.lookup x = some c → c ≠ b) ∧ ∀ p ∈ X.pn ++ pins, p.1 ≠ b)
    (keep : ∀ b o, b ≠ X.env.locals → b ∉ X.fs → b ∉ ch → s.heap.get? b = some o → H b = none → h'.get? b = some o)
    (slot : ∀ b o, b ≠ X.env.locals → b ∈ X.fs → b ∉ ch → s.heap.get? b = some o → H b = none → ∃ sl, h'.get? b = some { o with slots := sl }) (free : ∀ b o, b ∉ ch → s.heap.get? b = some o → H b = none → H' b = none)
    (there : ∀ b o, b ∉ ch → s.heap.get? b = some o → ∃ o', h'.get? b = some o')
    (tups : ∀ b xs, H b = some (.tup xs) → H' b = some (.tup xs)) (frzs : ∀ b o u, H b = some (.frz o u) → H' b = some (.frz o u)) (tbls : ∀ b ps, H b = some (.tbl ps) → ∃ more, H' b = some (.tbl (ps ++ more)))
    (ns : ∀ m, s.heap.Ns X.env.locals m → h'.Ns X.env.locals m) (hok : HOk X.prog X.w H' h') (hg : AllBare g') :
    Inv X pins σ H' { s with heap := h', gens := g', drawn := d', toks := t' } := by
  have neL : ∀ b o, X.s₀.heap.get? b = some o → b ≠ X.env.locals := fun b o e => Nat.ne_of_lt (Nat.lt_of_lt_of_le (Heap.lt_size e) I.ok.above)
  have neC : ∀ b o, X.s₀.heap.get? b = some o → b ∉ X.ex → b ∉ ch := fun b o e hx hb => by
    rcases (hch b hb).1 with z | z
    · exact hx z
    · exact absurd (Nat.lt_of_lt_of_le (Heap.lt_size e) z) (Nat.lt_irrefl _)
  have cellK : ∀ x c, X.env.cells.lookup x = some c → ∀ v, s.heap.IsCell c v → h'.IsCell c v := fun x c e v ⟨o, ho, hd⟩ => by
    have nch : c ∉ ch := fun z => (hch c z).2.2.1 x c e rfl
    by_cases hc : c ∈ X.fs
    · obtain ⟨sl, q⟩ := slot c o (I.cne x c e) hc nch ho (I.freeC x c e)
      exact ⟨_, q, hd⟩
    · exact ⟨o, keep c o (I.cne x c e) hc nch ho (I.freeC x c e), hd⟩
  refine ⟨I.ok, I.os, hg, ⟨fun b o e n hb hx => ?_, fun b o e n hb hx => ?_, fun b o e n hx => ?_, fun b o e hx => ?_, fun b xs e => tups b xs (I.base.tups b xs e), fun b o xs e => frzs b o xs (I.base.frzs b o xs e), fun b ps e => ?_⟩, ?_, fun x c e => ?_, ?_, fun x c e => ?_, fun p hp => ?_, hok, I.len⟩
  · exact keep b o (neL b o e) hb (neC b o e hx) (I.base.keep b o e n hb hx) (I.base.free b o e n hx)
  · obtain ⟨sl, e1⟩ := I.base.slot b o e n hb hx
    obtain ⟨sl', e2⟩ := slot b _ (neL b o e) hb (neC b o e hx) e1 (I.base.free b o e n hx)
    exact ⟨sl', e2⟩
  · obtain ⟨o', e1⟩ := I.base.there b o e hx
    exact free b o' (neC b o e hx) e1 (I.base.free b o e n hx)
  · obtain ⟨o', e1⟩ := I.base.there b o e hx
    exact there b o' (neC b o e hx) e1
  · obtain ⟨m1, e1⟩ := I.base.tbls b ps e
    obtain ⟨m2, e2⟩ := tbls b _ e1
    exact ⟨m1 ++ m2, by rw [e2, Array.append_assoc]⟩
  · obtain ⟨m, hn, hl⟩ := I.loc
    refine ⟨m, ns m hn, fun i x v e1 e2 e3 => ?_⟩
    obtain ⟨u, r, l⟩ := hl i x v e1 e2 e3
    refine ⟨u, r, ?_⟩
    rcases l with l | ⟨k, c, e, z⟩
    · exact .inl l
    · exact .inr ⟨k, c, e, cellK x c e _ z⟩
  · obtain ⟨v, z⟩ := I.cell x c e
    exact ⟨v, cellK x c e v z⟩
  · obtain ⟨m, ⟨o, _, _, ho, _⟩, _⟩ := I.loc
    exact free _ o (fun z => (hch _ z).2.1 rfl) ho I.free
  · obtain ⟨v, o, ho, hd⟩ := I.cell x c e
    exact free c o (fun z => (hch c z).2.2.1 x c e rfl) ho (I.freeC x c e)
  · obtain ⟨e, n, ne, nf, d⟩ := I.pin p hp
    have nch : p.1 ∉ ch := fun z => (hch p.1 z).2.2.2 p hp rfl
    exact ⟨keep p.1 p.2 ne nf nch e n, free p.1 p.2 nch e n, ne, nf, d⟩
/-- .. where the frame's own object is kept too -/
theorem Inv.un {t' : Nat} (I : Inv X pins σ H s) (u : Un X.fs [] H H' s.heap h') (hok : HOk X.prog X.w H' h') : Inv X pins σ H' { s with heap := h', toks := t' } := by
  obtain ⟨m, ⟨o, es, ep, ho, r⟩, _⟩ := id I.loc
  obtain ⟨sl, hL⟩ := u.any ho I.free (by simp)
  exact I.step (g' := s.gens) (d' := s.drawn) (ch := []) (fun _ z => nomatch z) (fun b o _ hb _ e n => u.keep b o e n hb (by simp)) (fun b o _ hb _ e n => u.slot b o e n hb (by simp)) (fun b o _ e n => u.free b o e n (by simp)) (fun b o _ e => u.there b o e (by simp)) u.tups u.frzs u.tbls (fun m' hm => by
    obtain ⟨o', es', ep', ho', r'⟩ := hm
    rw [ho] at ho'; cases ho'
    exact ⟨_, es', ep', hL, r'⟩) hok I.bare
/-- behind a call (or a comprehension's block): the slots of this frame may have changed too, the records at ch may have turned -/
theorem Inv.call {g' : Array GenState} {t' : Nat} {d' : Drawn} {ch : List Addr} (I : Inv X pins σ H s) (u : Un (frs X.stack) ch H H' s.heap h') (hok : HOk X.prog X.w H' h') (hg : AllBare g')
    (hch : ∀ b ∈ ch, (b ∈ X.ex ∨ X.s₀.heap.objs.size ≤ b) ∧ b ≠ X.env.locals ∧ (∀ x c, X.env.cells.lookup x = some c → c ≠ b) ∧ ∀ p ∈ X.pn ++ pins, p.1 ≠ b) :
    Inv X pins σ H' { s with heap := h', gens := g', drawn := d', toks := t' } := by
  obtain ⟨m, ⟨o, es, ep, ho, r⟩, _⟩ := id I.loc
  obtain ⟨sl, hL⟩ := u.any ho I.free fun z => (hch _ z).2.1 rfl
  exact I.step (ch := ch) hch (fun b o hL hb hc e n => u.keep b o e n (fun z => (List.mem_cons.mp (I.stkSub b z)).elim hL hb) hc) (fun b o _ _ hc e n => u.any e n hc) (fun b o hc e n => u.free b o e n hc) (fun b o hc e => u.there b o e hc) u.tups u.frzs u.tbls (fun m' hm => by
    obtain ⟨o', es', ep', ho', r'⟩ := hm
    rw [ho] at ho'; cases ho'
    exact ⟨_, es', ep', hL, r'⟩) hok hg
/-- an untracked record of ours (an iterator) has turned -/
theorem Inv.turned {t' : Nat} {it : Addr} (I : Inv X pins σ H s) (k : ∀ b o, b ≠ it → s.heap.get? b = some o → h'.get? b = some o) (hn : H it = none) (hL : it ≠ X.env.locals)
    (h1 : it ∈ X.ex ∨ X.s₀.heap.objs.size ≤ it) (h2 : ∀ x c, X.env.cells.lookup x = some c → c ≠ it) (h3 : ∀ p ∈ X.pn ++ pins, p.1 ≠ it) : Inv X pins σ H { s with heap := h', toks := t' } := by
  have nit : ∀ b u, H b = some u → b ≠ it := fun b u e z => by rw [z, hn] at e; cases e
  refine I.step (g' := s.gens) (d' := s.drawn) (ch := [it]) (fun b hb => ?_) (fun b o _ _ hc e _ => k b o (fun z => hc (by simp [z])) e) (fun b o _ _ hc e _ => ⟨o.slots, k b o (fun z => hc (by simp [z])) e⟩) (fun _ _ _ _ n => n)
    (fun b o hc e => ⟨o, k b o (fun z => hc (by simp [z])) e⟩) (fun _ _ e => e) (fun _ _ _ e => e) (fun b ps e => ⟨#[], by rw [e]; simp⟩) (fun m hm => ?_) (fun b u e => ?_) I.bare
  · have e : b = it := by simpa using hb
    subst e
    exact ⟨h1, hL, h2, h3⟩
  · obtain ⟨o, es, ep, ho, r⟩ := hm
    exact ⟨o, es, ep, k _ o (Ne.symm hL) ho, r⟩
  · refine (I.hok b u e).stay (fun c v hc q => k c v ?_ q) (fun _ q => q) fun _ _ q => q
    rcases hc with z | z
    · rw [z]; exact nit b u e
    · exact nit c _ z
theorem Inv.tok (I : Inv X pins σ H s) (t : Nat) : Inv X pins σ H { s with toks := t } := I.un (h' := s.heap) (t' := t) Un.refl I.hok
/-- all objects kept -/
theorem Inv.kept {t' : Nat} (I : Inv X pins σ H s) (k : ∀ b u, s.heap.get? b = some u → h'.get? b = some u) : Inv X pins σ H { s with heap := h', toks := t' } := I.un (Un.kept k) (I.hok.kept k)
/-- a new object laid and tracked -/
theorem Inv.laid {a : Addr} {o : HO} {t' : Nat} (I : Inv X pins σ H s) (k : ∀ b u, s.heap.get? b = some u → h'.get? b = some u) (hp : s.heap.objs.size ≤ a) (new : ObjOk X.prog X.w (upd H a o) h' a o) :
    Inv X pins σ (upd H a o) { s with heap := h', toks := t' } := I.un (Un.laid k hp (I.hok.fresh hp)) (I.hok.laid k hp new)
/-- an object written -/
theorem Inv.write {x e : Addr} {o : HO} {t' : Nat} (I : Inv X pins σ H s) (mu : Mut (H x)) (he : e = x ∨ H e = some (.own x)) (k : ∀ b u, b ≠ e → s.heap.get? b = some u → h'.get? b = some u) (heo : ∃ u, h'.get? e = some u)
    (new : ObjOk X.prog X.w (upd H x o) h' x o) : Inv X pins σ (upd H x o) { s with heap := h', toks := t' } := I.un (Un.write mu he k heo) (I.hok.write mu he k heo new)
theorem Inv.pins_of {pins' : List (Addr × Obj)} (I : Inv X pins σ H s) (h : ∀ p ∈ pins', s.heap.get? p.1 = some p.2 ∧ H p.1 = none ∧ p.1 ≠ X.env.locals ∧ p.1 ∉ X.fs ∧ ∀ v, p.2.data ≠ .cell v) : Inv X pins' σ H s :=
  ⟨I.ok, I.os, I.bare, I.base, I.loc, I.cell, I.free, I.freeC, fun p hp => (List.mem_append.mp hp).elim (fun z => I.pin p (List.mem_append_left _ z)) (h p), I.hok, I.len⟩

theorem nodup_ix {N : List Str} (hN : N.Nodup) {i j : Nat} {x : Str} (a : N[i]? = some x) (b : N[j]? = some x) : i = j := by
  obtain ⟨h1, e1⟩ := List.getElem?_eq_some_iff.mp a
  obtain ⟨h2, e2⟩ := List.getElem?_eq_some_iff.mp b
  exact (List.getElem_inj hN).mp (e1.trans e2.symm)

/-- a name is stored; what changed -/
theorem store_ok2 {M : Model} {A : Around} {E : Value → Shared → Prop} {i : Nat} {x : Str} {v : V} {u : Value} {Q : Unit → Shared → Prop} (I : Inv X pins σ H s) (hN : X.N.Nodup) (hi : X.N[i]? = some x) (hx : Loc X.env.scope x) (r : RelV v u)
    (h : ∀ s', Inv X pins (σ.set i (some v)) H s' → (∃ a, Heap.SameBut a s.heap s'.heap ∧ (a = X.env.locals ∨ X.env.cells.lookup x = some a)) → Q () s') (hf : X.fn x = true ∨ X.env.scope.names.lookup x = some .local := by first | exact .inl rfl | exact .inr rfl | assumption) : wpAny M A (storeName X.env x u) Q E s := by
  obtain ⟨m, hn, hl⟩ := id I.loc
  have hcls : (X.env.scope.kind == .class || (X.env.scope.kind == .module && X.env.locals != X.env.globals)) = false := by rw [I.ok.kind]; rfl
  have hiσ : i < σ.length := by rw [I.len]; exact (List.getElem?_eq_some_iff.mp hi).1
  have cne := I.cne
  have tracked : ∀ {a : Addr} {h' : Heap}, (∃ o, s.heap.get? a = some o ∧ H a = none) → Heap.SameBut a s.heap h' → HOk X.prog X.w H h' := fun {a h'} ha hs b ob e => by
    obtain ⟨_, _, hfree⟩ := ha
    refine (I.hok b ob e).stay (fun c w' hc q => (hs.2 c ?_).trans q) (fun _ q => q) fun _ _ q => q
    rintro rfl
    rcases hc with rfl | hc
    · rw [hfree] at e; cases e
    · rw [hfree] at hc; cases hc
  rcases hx with hk | hk
  · refine wpAny_storeName_local hk hn (fun h' hn' hs => ?_) hcls
    obtain ⟨oL, _, _, hoL, _⟩ := id hn
    refine h _ ⟨I.ok, I.os, I.bare, ⟨fun b o e n hb hx => ?_, fun b o e n hb hx => ?_, I.base.free, fun b o e hx => ?_, I.base.tups, I.base.frzs, I.base.tbls⟩, ⟨_, hn', fun j y v' e1 e2 e3 => ?_⟩, fun y c e => ?_, I.free, I.freeC, fun p hp => ?_, tracked ⟨oL, hoL, I.free⟩ hs, by simpa using I.len⟩ ⟨_, hs, .inl rfl⟩
    · exact (hs.2 b (Nat.ne_of_lt (Nat.lt_of_lt_of_le (Heap.lt_size e) I.ok.above))).trans (I.base.keep b o e n hb hx)
    · obtain ⟨sl, e1⟩ := I.base.slot b o e n hb hx
      exact ⟨sl, (hs.2 b (Nat.ne_of_lt (Nat.lt_of_lt_of_le (Heap.lt_size e) I.ok.above))).trans e1⟩
    · obtain ⟨o', e1⟩ := I.base.there b o e hx
      exact ⟨o', (hs.2 b (Nat.ne_of_lt (Nat.lt_of_lt_of_le (Heap.lt_size e) I.ok.above))).trans e1⟩
    · by_cases hj : j = i
      · subst hj
        rw [hi] at e1; cases e1
        rw [List.getElem?_set_self hiσ] at e2
        cases e2
        exact ⟨u, r, .inl ⟨hk, by simp⟩⟩
      · rw [List.getElem?_set_ne (Ne.symm hj)] at e2
        obtain ⟨u', r', q⟩ := hl j y v' e1 e2 e3
        refine ⟨u', r', ?_⟩
        rcases q with ⟨k, e⟩ | ⟨k, c, e, z⟩
        · refine .inl ⟨k, ?_⟩
          have : y ≠ x := fun e => hj (nodup_ix hN e1 (e ▸ hi))
          simp [this, e]
        · exact .inr ⟨k, c, e, z.sameBut hs (cne y c e)⟩
    · obtain ⟨w', z⟩ := I.cell y c e
      exact ⟨w', z.sameBut hs (cne y c e)⟩
    · obtain ⟨e, n, ne, nf, d⟩ := I.pin p hp
      exact ⟨(hs.2 p.1 ne).trans e, n, ne, nf, d⟩
  · have hfn : X.fn x = true := by
      rcases hf with z | z
      · exact z
      · rw [z] at hk; cases hk
    obtain ⟨c, hc⟩ := I.ok.has x (.inl hk)
    obtain ⟨w', z⟩ := I.cell x c hc
    refine wpAny_storeName_cell I.ok.kind hk hc z (fun h' hc' hs => ?_)
    obtain ⟨oc, hoc, hocd⟩ := id z
    refine h { s with heap := h' } ⟨I.ok, I.os, I.bare, ⟨fun b o e n hb hx => ?_, fun b o e n hb hx => ?_, I.base.free, fun b o e hx => ?_, I.base.tups, I.base.frzs, I.base.tbls⟩, ⟨m, hn.sameBut hs (Ne.symm (cne x c hc)), fun j y v' e1 e2 e3 => ?_⟩, fun y c' e => ?_, I.free, I.freeC, fun p hp => ?_, tracked ⟨oc, hoc, I.freeC x c hc⟩ hs, by simpa using I.len⟩ ⟨c, hs, .inr hc⟩
    · exact (hs.2 b (Nat.ne_of_lt (Nat.lt_of_lt_of_le (Heap.lt_size e) (I.ok.cab x c hfn hc)))).trans (I.base.keep b o e n hb hx)
    · obtain ⟨sl, e1⟩ := I.base.slot b o e n hb hx
      exact ⟨sl, (hs.2 b (Nat.ne_of_lt (Nat.lt_of_lt_of_le (Heap.lt_size e) (I.ok.cab x c hfn hc)))).trans e1⟩
    · obtain ⟨o', e1⟩ := I.base.there b o e hx
      exact ⟨o', (hs.2 b (Nat.ne_of_lt (Nat.lt_of_lt_of_le (Heap.lt_size e) (I.ok.cab x c hfn hc)))).trans e1⟩
    · by_cases hj : j = i
      · subst hj
        rw [hi] at e1; cases e1
        rw [List.getElem?_set_self hiσ] at e2
        cases e2
        exact ⟨u, r, .inr ⟨.inl hk, c, hc, hc'⟩⟩
      · rw [List.getElem?_set_ne (Ne.symm hj)] at e2
        obtain ⟨u', r', q⟩ := hl j y v' e1 e2 e3
        refine ⟨u', r', ?_⟩
        rcases q with q | ⟨k, c', e, z'⟩
        · exact .inl q
        · refine .inr ⟨k, c', e, z'.sameBut hs ?_⟩
          rintro rfl
          exact hj (nodup_ix hN e1 (I.ok.inj _ _ _ e hc ▸ hi))
    · by_cases hcc : c' = c
      · subst hcc; exact ⟨_, hc'⟩
      · obtain ⟨w2, z2⟩ := I.cell y c' e
        exact ⟨w2, z2.sameBut hs hcc⟩
    · obtain ⟨e, n, ne, nf, d⟩ := I.pin p hp
      refine ⟨(hs.2 p.1 ?_).trans e, n, ne, nf, d⟩
      intro q
      rw [q, hoc] at e
      have q' : oc = p.2 := Option.some.inj e
      exact d w' (by rw [← q']; exact hocd)
theorem store_ok {M : Model} {A : Around} {E : Value → Shared → Prop} {i : Nat} {x : Str} {v : V} {u : Value} {Q : Unit → Shared → Prop} (I : Inv X pins σ H s) (hN : X.N.Nodup) (hi : X.N[i]? = some x) (hx : Loc X.env.scope x) (r : RelV v u)
    (h : ∀ s', Inv X pins (σ.set i (some v)) H s' → Q () s') (hf : X.fn x = true ∨ X.env.scope.names.lookup x = some .local := by first | exact .inl rfl | exact .inr rfl | assumption) : wpAny M A (storeName X.env x u) Q E s :=
  store_ok2 I hN hi hx r (fun s' I' _ => h s' I') hf
/-- behind a call or a block, the state as it is -/
theorem Inv.call' {s' : Shared} {ch : List Addr} (I : Inv X pins σ H s) (ho : s'.os = s.os) (u : Un (frs X.stack) ch H H' s.heap s'.heap) (hok : HOk X.prog X.w H' s'.heap) (hg : AllBare s'.gens)
    (hch : ∀ b ∈ ch, (b ∈ X.ex ∨ X.s₀.heap.objs.size ≤ b) ∧ b ≠ X.env.locals ∧ (∀ x c, X.env.cells.lookup x = some c → c ≠ b) ∧ ∀ p ∈ X.pn ++ pins, p.1 ≠ b) : Inv X pins σ H' s' := by
  obtain ⟨h', g', d', t', o'⟩ := s'
  have e : o' = s.os := ho
  subst e
  exact I.call (g' := g') (t' := t') (d' := d') u hok hg hch
end

/-! ### the judgements -/
/-- an exception: its class, its own dict's address (where it has one), the abstract heap behind it -/
abbrev XK := Value → Option Addr → Hp → Prop
abbrev St := List (Option V)
abbrev VK := V → Hp → Prop
/-- an expression's reading; a test's; an argument list's -/
abbrev TE := St → Hp → VK → Prop
abbrev TT := St → Hp → (Bool → Hp → Prop) → Prop
abbrev TA := St → Hp → (List V → Hp → Prop) → Prop
/-- what is wanted behind a statement -/
structure Ends where
  nx : St → Hp → Prop
  rt : VK
  bk : St → Hp → Prop := fun _ _ => False
  ct : St → Hp → Prop := fun _ _ => False
abbrev TS := Ends → St → Hp → Prop

def EP (X : Cx) (pins : List (Addr × Obj)) (σ : St) (Q : VK) (u : Value) (s' : Shared) : Prop := ∃ v H', Inv X pins σ H' s' ∧ RelV v u ∧ Q v H'
def TP (X : Cx) (pins : List (Addr × Obj)) (σ : St) (Q : Bool → Hp → Prop) (b : Bool) (s' : Shared) : Prop := ∃ H', Inv X pins σ H' s' ∧ Q b H'
def AP (X : Cx) (pins : List (Addr × Obj)) (σ : St) (Q : List V → Hp → Prop) (us : List Value) (s' : Shared) : Prop := ∃ vs H', Inv X pins σ H' s' ∧ Vals vs us ∧ Q vs H'
def SP (X : Cx) (pins : List (Addr × Obj)) (D : Ends) (f : Flow) (s' : Shared) : Prop :=
  match f with
  | .next => ∃ σ' H', Inv X pins σ' H' s' ∧ D.nx σ' H'
  | .brk => ∃ σ' H', Inv X pins σ' H' s' ∧ D.bk σ' H'
  | .cont => ∃ σ' H', Inv X pins σ' H' s' ∧ D.ct σ' H'
  | .ret u => ∃ v σ' H', Inv X pins σ' H' s' ∧ RelV v u ∧ D.rt v H'

def PE (X : Cx) (e : Expr) (t : TE) : Prop :=
  ∀ (pins : List (Addr × Obj)) (s : Shared) (σ : St) (H : Hp) (Q : VK), Inv X pins σ H s → t σ H Q → wpAny (model X.prog X.w) X.A (eval e X.env) (EP X pins σ Q) X.xe s
def PT (X : Cx) (e : Expr) (t : TT) : Prop :=
  ∀ (pins : List (Addr × Obj)) (s : Shared) (σ : St) (H : Hp) (Q : Bool → Hp → Prop), Inv X pins σ H s → t σ H Q → wpAny (model X.prog X.w) X.A (isTrue e X.env (eval e X.env)) (TP X pins σ Q) X.xe s
/-- a test whatever its 'whole' is (and, or) -/
def PW (X : Cx) (e : Expr) (t : TT) : Prop :=
  ∀ (whole : Sem Value) (pins : List (Addr × Obj)) (s : Shared) (σ : St) (H : Hp) (Q : Bool → Hp → Prop), Inv X pins σ H s → t σ H Q → wpAny (model X.prog X.w) X.A (isTrue e X.env whole) (TP X pins σ Q) X.xe s
theorem PW.pt {X : Cx} {e : Expr} {t : TT} (h : PW X e t) : PT X e t := h _
/-- an argument list (no star), from the left -/
def PA (X : Cx) (es : List Expr) (t : TA) : Prop :=
  ∀ (pos : Pos) (pins : List (Addr × Obj)) (s : Shared) (σ : St) (H : Hp) (Q : List V → Hp → Prop), Inv X pins σ H s → t σ H Q → wpAny (model X.prog X.w) X.A (spliced (backTo pos (starEach es X.env))) (AP X pins σ Q) X.xe s
def PS (X : Cx) (st : Stmt) (t : TS) : Prop :=
  ∀ (pins : List (Addr × Obj)) (s : Shared) (σ : St) (H : Hp) (D : Ends), Inv X pins σ H s → t D σ H → wpAny (model X.prog X.w) X.A (exec st X.env) (SP X pins D) X.xe s
def PSs (X : Cx) (st : List Stmt) (t : TS) : Prop :=
  ∀ (pins : List (Addr × Obj)) (s : Shared) (σ : St) (H : Hp) (D : Ends), Inv X pins σ H s → t D σ H → wpAny (model X.prog X.w) X.A (execs st X.env) (SP X pins D) X.xe s
/-- weaken the end -/
theorem thn {α : Type} {t : Sem α} {Q Q' : α → Shared → Prop} {M : Model} {A : Around} {E : Value → Shared → Prop} {s : Shared} (h : wpAny M A t Q E s) (hQ : ∀ a s, Q a s → Q' a s) : wpAny M A t Q' E s := wpAny_mono h hQ fun _ _ x => x
end L2

namespace L2
open PySem PySem.Spec PyProof.Rows
section
variable {X : Cx}

/-- two expressions in a row -/
theorem bin {a b : Expr} {ta tb : TE} (ha : PE X a ta) (hb : PE X b tb) {pins : List (Addr × Obj)} {s : Shared} {σ : St} {H : Hp} {R : V → V → Hp → Prop} (I : Inv X pins σ H s) (h : ta σ H fun x H1 => tb σ H1 fun y H2 => R x y H2)
    {α : Type} {Q : α → Shared → Prop} {f : Value → Value → Sem α}
    (hf : ∀ v u s2 x y H2, Inv X pins σ H2 s2 → RelV x v → RelV y u → R x y H2 → wpAny (model X.prog X.w) X.A (f v u) Q X.xe s2) :
    wpAny (model X.prog X.w) X.A (eval a X.env) (fun v s₁ => wpAny (model X.prog X.w) X.A (eval b X.env) (fun u s₂ => wpAny (model X.prog X.w) X.A (f v u) Q X.xe s₂) X.xe s₁) X.xe s := by
  refine thn (ha pins s σ H _ I h) fun v s1 ⟨x, H1, I1, r1, q1⟩ => ?_
  refine thn (hb pins s1 σ H1 _ I1 q1) fun u s2 ⟨y, H2, I2, r2, q2⟩ => ?_
  exact hf v u s2 x y H2 I2 r1 r2 q2

/-! ### names and constants -/
def tVar (i : Nat) : TE := fun σ H Q => ∃ v, σ[i]? = some (some v) ∧ Q v H
def tC (v : V) : TE := fun _ H Q => Q v H
theorem pe_var {i : Nat} {x : Str} {pos : Pos} (hN : X.N[i]? = some x) (hv : Vis X.env.scope x) (hd : (x == ("__debug__" : Str)) = false := by decide) (hcd : (x == ("__classdict__" : Str)) = false := by decide) : PE X (.Name x pos) (tVar i) := by
  intro pins s σ H Q I h
  obtain ⟨v, e, h⟩ := h
  obtain ⟨m, hn, hl⟩ := I.loc
  obtain ⟨u, r, l⟩ := hl i x v hN e hv
  have fin : EP X pins σ Q u s := ⟨v, H, I, r, h⟩
  rcases l with ⟨hk, hm⟩ | ⟨hk, c, hc, hcell⟩
  · exact wpAny_Name (wpAny_loadName_local I.ok.kind hk hn hm fin) hd
  · rcases hk with hk | hk
    · exact wpAny_Name (wpAny_loadName_cell I.ok.kind hk hc hcell fin) hd
    · exact wpAny_Name (wpAny_loadName_free I.ok.kind hk hc hcell fin hcd) hd
theorem pe_int {i j pos} : PE X (.Constant (.int i) j pos) (tC (.int i)) := fun _ _ _ H _ I h => wpAny_Constant_int ⟨.int i, H, I.tok _, ⟨_, rfl⟩, h⟩
theorem pe_bl {b j pos} : PE X (.Constant (.bool b) j pos) (tC (.bl b)) := fun _ _ _ H _ I h => Constant_bool ⟨.bl b, H, I, rfl, h⟩
/-- a global name of the def -/
def Gl (X : Cx) (x : Str) : Prop := X.env.kindOf x = some .globalImplicit
theorem ld_glob {E : Value → Shared → Prop} {pins : List (Addr × Obj)} {s : Shared} {σ : St} {H : Hp} {x : Str} {u : Value} {pos : Pos} {Q : Value → Shared → Prop} (I : Inv X pins σ H s) (hg : Gl X x) (hm : X.mg x = some u) (h : Q u s)
    (hd : (x == ("__debug__" : Str)) = false := by decide) : wpAny (model X.prog X.w) X.A (eval (.Name x pos) X.env) Q E s :=
  Calls.Name_function_global I.ok.kind hg (Calls.loadGlobal_global (by rw [I.ok.glob]; exact I.mod.glob.keeps I.bk) hm h) hd
theorem ld_blt {E : Value → Shared → Prop} {pins : List (Addr × Obj)} {s : Shared} {σ : St} {H : Hp} {x : Str} {u : Value} {pos : Pos} {Q : Value → Shared → Prop} (I : Inv X pins σ H s) (hg : Gl X x) (hm : X.mg x = none) (hv : bootBuiltins x = some u) (h : Q u s)
    (hn : x ≠ "__name__" := by decide) (hd : (x == ("__debug__" : Str)) = false := by decide) : wpAny (model X.prog X.w) X.A (eval (.Name x pos) X.env) Q E s := by
  obtain ⟨mb, h1, h2⟩ := I.mod.blt
  exact Calls.Name_function_global I.ok.kind hg (Calls.loadGlobal_builtin (by rw [I.ok.glob]; exact I.mod.glob.keeps I.bk) hm (by rw [I.ok.blt]; exact h1.keeps I.bk) ((h2 x hn).trans hv) h) hd
/-- a module's constant, a class, a function, as a value -/
theorem pe_glob {x : Str} {v : V} {u : Value} {pos : Pos} (hg : Gl X x) (hm : X.mg x = some u) (r : RelV v u) (hd : (x == ("__debug__" : Str)) = false := by decide) : PE X (.Name x pos) (tC v) :=
  fun _ _ _ H _ I h => ld_glob I hg hm ⟨v, H, I, r, h⟩ hd
theorem pe_bltn {x : Str} {v : V} {u : Value} {pos : Pos} (hg : Gl X x) (hm : X.mg x = none) (hv : bootBuiltins x = some u) (r : RelV v u) (hn : x ≠ "__name__" := by decide) (hd : (x == ("__debug__" : Str)) = false := by decide) : PE X (.Name x pos) (tC v) :=
  fun _ _ _ H _ I h => ld_blt I hg hm hv ⟨v, H, I, r, h⟩ hn hd

/-! ### arithmetic -/
variable {a b : Expr} {ta tb : TE} {pos : Pos}
/-! ### comparisons -/
def PC (X : Cx) (op : CmpOp) (a b : Expr) (t : TE) : Prop :=
  ∀ (pins : List (Addr × Obj)) (s : Shared) (σ : St) (H : Hp) (Q : VK), Inv X pins σ H s → t σ H Q →
    wpAny (model X.prog X.w) X.A (eval a X.env) (fun v s₁ => wpAny (model X.prog X.w) X.A (eval b X.env) (fun u s₂ => wpAny (model X.prog X.w) X.A (compareOp op v u) (EP X pins σ Q) X.xe s₂) X.xe s₁) X.xe s
/-- a comparison as a value, as a test -/
def tB (t : TE) : TT := fun σ H Q => t σ H fun x H1 => ∃ c, x = .bl c ∧ Q c H1
theorem pt_cmp {op : CmpOp} {t : TE} (h : PC X op a b t) (h1 : behindInMarks op b = false := by first | exact nobehind _ (by decide) (by decide) | rfl) : PT X (.Compare a [op] [b] pos) (tB t) := by
  intro pins s σ H Q I hw
  refine wpAny_isTrue_Compare1 (thn (h pins s σ H _ I hw) fun v s1 h1 => thn h1 fun u s2 h2 => thn h2 fun c s3 ⟨x, H1, I1, r1, q1⟩ => ?_) h1
  obtain ⟨d, rfl, q⟩ := q1
  cases r1
  exact wpAny_truthy_bool ⟨H1, I1, q⟩
/-- an expression whose value is a bool, as a test -/
theorem pt_val {e : Expr} {t : TE} (h : PE X e t) (he : ∀ whole, isTrue e X.env whole = (do let v ← whole; standAt e.pos; holding [v] (truthy v)) := by intro _; rfl) : PT X e (tB t) := by
  intro pins s σ H Q I hw
  refine isTrue_plain (thn (h pins s σ H _ I hw) fun v s1 ⟨x, H1, I1, r1, q1⟩ => ?_) (he _)
  obtain ⟨d, rfl, q⟩ := q1
  cases r1
  exact wpAny_truthy_bool ⟨H1, I1, q⟩

/-! ### and, or, not -/
variable {tA tB' : TT} {rest : List Expr}
def tAnd (t u : TT) : TT := fun σ H Q => t σ H fun c H1 => if c = true then u σ H1 Q else Q false H1
def tOr (t u : TT) : TT := fun σ H Q => t σ H fun c H1 => if c = true then Q true H1 else u σ H1 Q
def tNot (t : TT) : TT := fun σ H Q => t σ H fun c H1 => Q (!c) H1
theorem pw_and1 (ha : PT X a tA) : PW X (.BoolOp .And [a] pos) tA := by
  intro wh pins s σ H Q I h
  refine isTrue_and (thn (ha pins s σ H Q I h) fun c s1 e => ?_)
  cases c with
  | true => exact isTrue_and_nil e
  | false => exact e
theorem pw_or1 (ha : PT X a tA) : PW X (.BoolOp .Or [a] pos) tA := by
  intro wh pins s σ H Q I h
  refine isTrue_or (thn (ha pins s σ H Q I h) fun c s1 e => ?_)
  cases c with
  | false => exact isTrue_or_nil e
  | true => exact e
theorem pw_and (ha : PT X a tA) (hb : PW X (.BoolOp .And (b :: rest) pos) tB') : PW X (.BoolOp .And (a :: b :: rest) pos) (tAnd tA tB') := by
  intro wh pins s σ H Q I h
  refine isTrue_and (thn (ha pins s σ H _ I h) fun c s1 ⟨H1, I1, q1⟩ => ?_)
  cases c with
  | true => exact hb wh pins s1 σ H1 Q I1 q1
  | false => exact ⟨H1, I1, q1⟩
theorem pw_or (ha : PT X a tA) (hb : PW X (.BoolOp .Or (b :: rest) pos) tB') : PW X (.BoolOp .Or (a :: b :: rest) pos) (tOr tA tB') := by
  intro wh pins s σ H Q I h
  refine isTrue_or (thn (ha pins s σ H _ I h) fun c s1 ⟨H1, I1, q1⟩ => ?_)
  cases c with
  | true => exact ⟨H1, I1, q1⟩
  | false => exact hb wh pins s1 σ H1 Q I1 q1
theorem pt_not (ha : PT X a tA) : PT X (.UnaryOp .Not a pos) (tNot tA) := by
  intro pins s σ H Q I h
  exact isTrue_not (ha pins s σ H (fun c H1 => Q (!c) H1) I h)
/-- .. as values (bools) -/
def tAndV (ta tb : TE) : TE := fun σ H Q => ta σ H fun x H1 => ∃ c, x = .bl c ∧ if c = true then tb σ H1 Q else Q (.bl false) H1
def tOrV (ta tb : TE) : TE := fun σ H Q => ta σ H fun x H1 => ∃ c, x = .bl c ∧ if c = true then Q (.bl true) H1 else tb σ H1 Q
def tNotV (ta : TE) : TE := fun σ H Q => ta σ H fun x H1 => ∃ c, x = .bl c ∧ Q (.bl (!c)) H1
theorem pe_one {op} {t : TE} (h : PE X a t) : PE X (.BoolOp op [a] pos) t := fun pins s σ H Q I hw => BoolOp_one (h pins s σ H Q I hw)
theorem pe_and (ha : PE X a ta) (hb : PE X (.BoolOp .And (b :: rest) pos) tb) : PE X (.BoolOp .And (a :: b :: rest) pos) (tAndV ta tb) := by
  intro pins s σ H Q I h
  refine BoolOp_and (thn (ha pins s σ H _ I h) fun v s1 ⟨x, H1, I1, r1, q1⟩ => ?_)
  obtain ⟨c, rfl, q1⟩ := q1
  cases r1
  refine wpAny_truthy_bool ?_
  cases c with
  | true => exact hb pins s1 σ H1 Q I1 q1
  | false => exact ⟨.bl false, H1, I1, rfl, q1⟩
theorem pe_or (ha : PE X a ta) (hb : PE X (.BoolOp .Or (b :: rest) pos) tb) : PE X (.BoolOp .Or (a :: b :: rest) pos) (tOrV ta tb) := by
  intro pins s σ H Q I h
  refine BoolOp_or (thn (ha pins s σ H _ I h) fun v s1 ⟨x, H1, I1, r1, q1⟩ => ?_)
  obtain ⟨c, rfl, q1⟩ := q1
  cases r1
  refine wpAny_truthy_bool ?_
  cases c with
  | false => exact hb pins s1 σ H1 Q I1 q1
  | true => exact ⟨.bl true, H1, I1, rfl, q1⟩
theorem pe_not (ha : PE X a ta) : PE X (.UnaryOp .Not a pos) (tNotV ta) := by
  intro pins s σ H Q I h
  refine UnaryOp_ (thn (ha pins s σ H _ I h) fun v s1 ⟨x, H1, I1, r1, q1⟩ => ?_)
  obtain ⟨c, rfl, q1⟩ := q1
  cases r1
  exact not_of (wpAny_truthy_bool ⟨.bl (!c), H1, I1, rfl, q1⟩)
end
end L2

namespace L2
open PySem PySem.Spec PyProof.Rows

/-! ### a list, a tuple that is read: tracked, frozen, or an object of the module -/
def SqL (K : PySem.W.Frag) (H : Hp) (a : Addr) (xs : List V) : Prop :=
  Rd H a (.lst xs) ∨
    ∃ (o : Obj) (its : Array Value) (n : Nat), K.lookup a = some o ∧ o.cls = .type "list" ∧ o.dict = none ∧ o.data = .seq its n ∧ its.size ≤ sizeLine ∧ Vals xs its.toList
def SqT (K : PySem.W.Frag) (H : Hp) (a : Addr) (xs : List V) : Prop :=
  Rd H a (.tup xs) ∨
    ∃ (o : Obj) (its : Array Value) (n : Nat), K.lookup a = some o ∧ o.cls = .type "tuple" ∧ o.data = .seq its n ∧ its.size ≤ sizeLine ∧ Vals xs its.toList
def absV : Value → Option V
  | .none => some .non
  | .bool b => some (.bl b)
  | .int i _ => some (.int i)
  | .str x _ => some (.str x)
  | .bytes b _ => some (.byt b)
  | .float b _ => some (.flt b)
  | .ref a => some (.ref a)
  | .type n => some (.ty n)
  | _ => none
theorem RelV.abs {x : V} {u : Value} (r : RelV x u) : absV u = some x := by
  cases x with
  | non => cases r; rfl
  | bl _ => cases r; rfl
  | int _ => obtain ⟨t, rfl⟩ := r; rfl
  | str _ => obtain ⟨t, rfl⟩ := r; rfl
  | byt _ => obtain ⟨t, rfl⟩ := r; rfl
  | flt _ => obtain ⟨t, rfl⟩ := r; rfl
  | ref _ => cases r; rfl
  | ty _ => cases r; rfl
theorem RelV.inj {x y : V} {u : Value} (r : RelV x u) (q : RelV y u) : x = y := Option.some.inj (r.abs.symm.trans q.abs)
theorem Vals.inj : ∀ {xs ys : List V} {us : List Value}, Vals xs us → Vals ys us → xs = ys
  | _, _, _, .nil, .nil => rfl
  | _, _, _, .cons r t, .cons r' t' => by rw [r.inj r', Vals.inj t t']
section
variable {X : Cx} {pins : List (Addr × Obj)} {σ : St} {H : Hp} {s : Shared} {a : Addr} {xs ys : List V}
theorem SqL.of {K : PySem.W.Frag} (h : H a = some (.lst xs)) : SqL K H a xs := .inl (.inl h)
theorem SqT.of {K : PySem.W.Frag} (h : H a = some (.tup xs)) : SqT K H a xs := .inl (.inl h)
theorem Inv.list (I : Inv X pins σ H s) (h : SqL X.K H a xs) : ∃ its : List Value, Vals xs its ∧ PlainL s.heap a its.toArray ∧ xs.length ≤ sizeLine := by
  rcases h with h | ⟨o, its, n, hk, hc, hd, hs, hz, r⟩
  · obtain ⟨z, its, n, r, e⟩ := h.ok I.hok
    exact ⟨its, r, ⟨_, n, e, rfl, rfl, rfl⟩, z⟩
  · refine ⟨its.toList, r, ⟨o, n, I.kIn a o hk, hc, hd, by simpa using hs⟩, ?_⟩
    have e := r.length
    simp only [Array.length_toList] at e
    omega
theorem Inv.tuple (I : Inv X pins σ H s) (h : SqT X.K H a xs) : ∃ its : List Value, Vals xs its ∧ IsTup s.heap a its.toArray ∧ xs.length ≤ sizeLine := by
  rcases h with h | ⟨o, its, n, hk, hc, hs, hz, r⟩
  · obtain ⟨z, its, r, p⟩ := h.ok I.hok
    exact ⟨its, r, p, z⟩
  · refine ⟨its.toList, r, ⟨o, I.kIn a o hk, hc, n, by simpa using hs⟩, ?_⟩
    have e := r.length
    simp only [Array.length_toList] at e
    omega
theorem Inv.list_inj (I : Inv X pins σ H s) (h : SqL X.K H a xs) (h' : SqL X.K H a ys) : xs = ys := by
  obtain ⟨its, r, ⟨o, n, e, _, _, d⟩, _⟩ := I.list h
  obtain ⟨its', r', ⟨o', n', e', _, _, d'⟩, _⟩ := I.list h'
  rw [e] at e'; cases e'
  rw [d] at d'
  injection d' with d1 _
  have : its = its' := by simpa using congrArg Array.toList d1
  subst this
  exact r.inj r'
theorem Inv.tuple_inj (I : Inv X pins σ H s) (h : SqT X.K H a xs) (h' : SqT X.K H a ys) : xs = ys := by
  obtain ⟨its, r, ⟨o, e, _, n, d⟩, _⟩ := I.tuple h
  obtain ⟨its', r', ⟨o', e', _, n', d'⟩, _⟩ := I.tuple h'
  rw [e] at e'; cases e'
  rw [d] at d'
  injection d' with d1 _
  have : its = its' := by simpa using congrArg Array.toList d1
  subst this
  exact r.inj r'
end

/-! ### another wish about exceptions -/
abbrev Cx.wish (X : Cx) (E : Value → Shared → Prop) : Cx := { X with xe := E }
/-- no exception leaves -/
abbrev Cx.nox (X : Cx) : Cx := X.wish fun _ _ => False
theorem Cx.Ok.wish {X : Cx} (ok : X.Ok) (E : Value → Shared → Prop) : (X.wish E).Ok :=
  ⟨ok.mod, ok.kind, ok.glob, ok.blt, ok.above, ok.inj, ok.has, ok.cab, ok.hd, ok.frames, ok.stk, ok.exf, ok.bs, ok.bsz, ok.noex, ok.exfs, ok.funs, ok.frf⟩
theorem Cx.Ok.unwish {X : Cx} {E : Value → Shared → Prop} (ok : (X.wish E).Ok) : X.Ok :=
  ⟨ok.mod, ok.kind, ok.glob, ok.blt, ok.above, ok.inj, ok.has, ok.cab, ok.hd, ok.frames, ok.stk, ok.exf, ok.bs, ok.bsz, ok.noex, ok.exfs, ok.funs, ok.frf⟩
section
variable {X : Cx} {pins : List (Addr × Obj)} {σ : St} {H : Hp} {s : Shared} {E : Value → Shared → Prop}
theorem Inv.wish (I : Inv X pins σ H s) (E : Value → Shared → Prop) : Inv (X.wish E) pins σ H s := ⟨I.ok.wish E, I.os, I.bare, I.base, I.loc, I.cell, I.free, I.freeC, I.pin, I.hok, I.len⟩
theorem Inv.unwish (I : Inv (X.wish E) pins σ H s) : Inv X pins σ H s := ⟨I.ok.unwish, I.os, I.bare, I.base, I.loc, I.cell, I.free, I.freeC, I.pin, I.hok, I.len⟩
theorem SP.unwish {D : Ends} {f : Flow} {s' : Shared} (h : SP (X.wish E) pins D f s') : SP X pins D f s' := by
  cases f with
  | next => obtain ⟨σ', H', I, q⟩ := h; exact ⟨σ', H', I.unwish, q⟩
  | brk => obtain ⟨σ', H', I, q⟩ := h; exact ⟨σ', H', I.unwish, q⟩
  | cont => obtain ⟨σ', H', I, q⟩ := h; exact ⟨σ', H', I.unwish, q⟩
  | ret u => obtain ⟨v, σ', H', I, r, q⟩ := h; exact ⟨v, σ', H', I.unwish, r, q⟩
theorem PSs.nox {st : List Stmt} {t : TS} (h : PSs X.nox st t) : PSs X st t := fun pins s σ H D I hw =>
  wpAny_mono (h pins s σ H D (I.wish _) hw) (fun _ _ q => q.unwish) fun _ _ z => False.elim z
end

/-! ### blocks and small statements -/
section
variable {X : Cx} {st : Stmt} {rest : List Stmt} {t u : TS} {e : Expr} {te : TE} {pos : Pos}
def tNext : TS := fun D σ H => D.nx σ H
def tSeq (t u : TS) : TS := fun D σ H => t { D with nx := u D } σ H
theorem pss_nil : PSs X [] tNext := fun _ _ σ H _ I h => wpAny_execs_nil ⟨σ, H, I, h⟩
theorem pss_cons (h1 : PS X st t) (h2 : PSs X rest u) : PSs X (st :: rest) (tSeq t u) := by
  intro pins s σ H D I h
  refine wpAny_execs_cons (thn (h1 pins s σ H { D with nx := u D } I h) fun f s1 q => ?_)
  cases f with
  | next =>
    obtain ⟨σ', H', I', q⟩ := q
    exact h2 pins s1 σ' H' D I' q
  | ret v => exact q
  | brk => exact q
  | cont => exact q
/-- in a def's body nothing is shown -/
theorem Inv.quiet {pins : List (Addr × Obj)} {σ : St} {H : Hp} {s : Shared} (I : Inv X pins σ H s) : interactive X.env = false := by simp [interactive, I.ok.kind]
/-- an expression whose value is dropped -/
def tDrop (te : TE) : TS := fun D σ H => te σ H fun _ H1 => D.nx σ H1
theorem ps_expr (he : PE X e te) (hs : swapsWith e none pos.line X.env = pure false := by rfl) : PS X (.Expr e pos) (tDrop te) := by
  intro pins s σ H D I h
  exact wpAny_Expr_any (thn (he pins s σ H _ I h) fun v s1 ⟨x, H1, I1, r1, q1⟩ => ⟨σ, H1, I1, q1⟩) I.quiet hs
def tRet (te : TE) : TS := fun D σ H => te σ H D.rt
theorem ps_ret (he : PE X e te) : PS X (.Return (some e) pos) (tRet te) := by
  intro pins s σ H D I h
  exact wpAny_Return_some (thn (he pins s σ H _ I h) fun v s1 ⟨x, H1, I1, r1, q1⟩ => ⟨x, σ, H1, I1, r1, q1⟩)
def tIfS (c : TT) (t u : TS) : TS := fun D σ H => c σ H fun b H1 => if b = true then t D σ H1 else u D σ H1
theorem ps_if {c : Expr} {a b : List Stmt} {tc : TT} (hc : PT X c tc) (ha : PSs X a t) (hb : PSs X b u) : PS X (.If c a b pos) (tIfS tc t u) := by
  intro pins s σ H D I h
  refine wpAny_If (thn (hc pins s σ H _ I h) fun d s1 ⟨H1, I1, q1⟩ => ?_)
  cases d with
  | true => exact ha pins s1 σ H1 D I1 q1
  | false => exact hb pins s1 σ H1 D I1 q1
/-- code that the proof never comes to -/
def tNever : TS := fun _ _ _ => False
theorem pss_never {sts : List Stmt} : PSs X sts tNever := fun _ _ _ _ _ _ h => h.elim
end

/-! ### targets -/
abbrev TG := V → St → Hp → (St → Hp → Prop) → Prop
def PG (X : Cx) (target : Expr) (t : TG) : Prop :=
  ∀ (pins : List (Addr × Obj)) (s : Shared) (σ : St) (H : Hp) (v : V) (u : Value) (Q : St → Hp → Prop), Inv X pins σ H s → RelV v u → t v σ H Q →
    wpAny (model X.prog X.w) X.A (assign target X.env u) (fun _ s' => ∃ σ' H', Inv X pins σ' H' s' ∧ Q σ' H') X.xe s
/-- a op= b, by values -/
abbrev TIp := V → V → Hp → VK → Prop
def PIp (X : Cx) (op : Operator) (t : TIp) : Prop :=
  ∀ (pins : List (Addr × Obj)) (s : Shared) (σ : St) (H : Hp) (x y : V) (v u : Value) (Q : VK), Inv X pins σ H s → RelV x v → RelV y u → t x y H Q →
    wpAny (model X.prog X.w) X.A (inplaceOp op v u) (EP X pins σ Q) X.xe s
section
variable {X : Cx} {pos : Pos}
def gName (i : Nat) : TG := fun v σ H Q => Q (σ.set i (some v)) H
theorem pg_name {i : Nat} {x : Str} (hN : X.N.Nodup) (hi : X.N[i]? = some x) (hx : Loc X.env.scope x) (hf : X.fn x = true ∨ X.env.scope.names.lookup x = some .local := by first | exact .inl rfl | exact .inr rfl | assumption) : PG X (.Name x pos) (gName i) := by
  intro pins s σ H v u Q I r h
  exact wpAny_assign_Name (store_ok I hN hi hx r (fun s' I' => ⟨_, H, I', h⟩) hf)
/-- target = value -/
def tAsg (te : TE) (g : TG) : TS := fun D σ H => te σ H fun x H1 => g x σ H1 D.nx
/-- name = value -/
theorem ps_set {i : Nat} {x : Str} {e : Expr} {te : TE} {pos' : Pos} (hN : X.N.Nodup) (hi : X.N[i]? = some x) (hx : Loc X.env.scope x) (he : PE X e te) (hs : swapsWith e (some (.Name x pos')) pos.line X.env = pure false := by rfl) (hf : X.fn x = true ∨ X.env.scope.names.lookup x = some .local := by first | exact .inl rfl | exact .inr rfl | assumption) :
    PS X (.Assign [.Name x pos'] e pos) (tAsg te (gName i)) := by
  intro pins s σ H D I h
  refine wpAny_Assign_Name (thn (he pins s σ H _ I h) fun v s1 ⟨y, H1, I1, r1, q1⟩ => ?_) hs
  exact store_ok I1 hN hi hx r1 (fun s2 I2 => ⟨_, H1, I2, q1⟩) hf
/-- name op= e -/
def tAug (i : Nat) (te : TE) (ti : TIp) : TS := fun D σ H => ∃ x, σ[i]? = some (some x) ∧ te σ H fun y H1 => ti x y H1 fun z H2 => D.nx (σ.set i (some z)) H2
theorem ps_aug {i : Nat} {x : Str} {e : Expr} {te : TE} {op : Operator} {ti : TIp} {pos' : Pos} (hN : X.N.Nodup) (hi : X.N[i]? = some x) (hx : Loc X.env.scope x) (he : PE X e te) (ho : PIp X op ti) (hf : X.fn x = true ∨ X.env.scope.names.lookup x = some .local := by first | exact .inl rfl | exact .inr rfl | assumption) :
    PS X (.AugAssign (.Name x pos') op e pos) (tAug i te ti) := by
  intro pins s σ H D I h
  obtain ⟨v, e1, h⟩ := h
  obtain ⟨m, hn, hl⟩ := I.loc
  have vis : Vis X.env.scope x := by rcases hx with k | k; exact .inl k; exact .inr (.inl k)
  obtain ⟨u, r, l⟩ := hl i x v hi e1 vis
  refine wpAny_AugAssign_Name ?_
  have go : wpAny (model X.prog X.w) X.A (eval e X.env) (fun w s₂ => wpAny (model X.prog X.w) X.A (inplaceOp op u w) (fun r s₃ => wpAny (model X.prog X.w) X.A (storeName X.env x r) (fun _ => SP X pins D .next) X.xe s₃) X.xe s₂) X.xe s := by
    refine thn (he pins s σ H _ I h) fun w s1 ⟨y, H1, I1, r1, q1⟩ => ?_
    refine thn (ho pins s1 σ H1 v y u w _ I1 r r1 q1) fun z s2 ⟨zv, H2, I2, r2, q2⟩ => ?_
    exact store_ok I2 hN hi hx r2 (fun s3 I3 => ⟨_, H2, I3, q2⟩) hf
  rcases l with ⟨hk, hm⟩ | ⟨hk, c, hc, hcell⟩
  · exact wpAny_loadName_local I.ok.kind hk hn hm go
  · rcases hk with hk | hk
    · exact wpAny_loadName_cell I.ok.kind hk hc hcell go
    · rcases hx with k | k
      · have : X.env.scope.names.lookup x = some .free := hk
        rw [k] at this; cases this
      · have : X.env.scope.names.lookup x = some .free := hk
        rw [k] at this; cases this
/-- ints -/
def ipI (f : Int → Int → Int) : TIp := fun x y H Q => ∃ i j, x = .int i ∧ y = .int j ∧ Q (.int (f i j)) H
theorem ip_add : PIp X .Add (ipI fun i j => i + j) := by
  intro pins s σ H x y v u Q I r1 r2 h
  obtain ⟨i, j, e1, e2, q⟩ := h
  subst e1; subst e2
  obtain ⟨t, rfl⟩ := r1
  obtain ⟨t', rfl⟩ := r2
  exact iadd_int ⟨.int _, H, I.tok _, ⟨_, rfl⟩, q⟩
end

/-! ### while -/
section
variable {X : Cx} {pos : Pos}
/-- the invariant W with its measure -/
def tWhile (c : TT) (tb : TS) : TS := fun D σ H => ∃ W : Nat → St → Hp → Prop, (∃ m, W m σ H) ∧ ∀ m σ H, W m σ H →
  c σ H fun b H1 => if b = true then ∃ N : St → Hp → Prop, (∀ σ' H', N σ' H' → ∃ m', m' < m ∧ W m' σ' H') ∧ tb { D with nx := N, ct := N, bk := D.nx } σ H1 else D.nx σ H1
theorem ps_while {c : Expr} {body : List Stmt} {tc : TT} {tb : TS} (hp : PassesOwn (model X.prog X.w) X.A X.env X.xe) (hc : PT X c tc) (hb : PSs X body tb) : PS X (.While c body [] pos) (tWhile tc tb) := by
  intro pins s σ H D I h
  obtain ⟨W, ⟨m0, w0⟩, turn⟩ := h
  refine wpAny_While (codeAny_whileLoop (fun n s' => ∃ σ' H', Inv X pins σ' H' s' ∧ W n σ' H') ?_ m0 ⟨σ, H, I, w0⟩)
  rintro n s1 ⟨σ1, H1, I1, w1⟩
  refine wpAny_passesOwn hp (thn (hc pins s1 σ1 H1 _ I1 (turn n σ1 H1 w1)) fun b s2 ⟨H2, I2, q2⟩ => ?_)
  cases b with
  | true =>
    obtain ⟨N, hN, q2⟩ := q2
    rw [if_pos rfl]
    refine wpAny_passesOwn hp (thn (hb pins s2 σ1 H2 _ I2 q2) fun f s3 q3 => ?_)
    cases f with
    | next =>
      obtain ⟨σ3, H3, I3, n3⟩ := q3
      obtain ⟨m', hm, w3⟩ := hN σ3 H3 n3
      exact ⟨m', hm, σ3, H3, I3, w3⟩
    | cont =>
      obtain ⟨σ3, H3, I3, n3⟩ := q3
      obtain ⟨m', hm, w3⟩ := hN σ3 H3 n3
      exact ⟨m', hm, σ3, H3, I3, w3⟩
    | brk => exact q3
    | ret v => exact q3
  | false =>
    rw [if_neg Bool.false_ne_true]
    exact wpAny_execs_nil ⟨σ1, H2, I2, q2⟩
end

/-! ### what a loop or a comprehension walks -/
/-- at turn i: it yields x (the heap may grow), or it stops -/
structure It where
  go : Nat → Hp → Prop
  yld : Nat → Hp → V → Hp → Prop
  stop : Nat → Hp → Prop
/-- the iterator's own objects may turn: they are not the frame's, not pinned, younger than the entry (or a comprehension's own) -/
def FpOk (X : Cx) (pins : List (Addr × Obj)) (H : Hp) (b : Addr) : Prop :=
  H b = none ∧ b ≠ X.env.locals ∧ b ∉ X.fs ∧ (b ∈ X.ex ∨ X.s₀.heap.objs.size ≤ b) ∧ (∀ x c, X.env.cells.lookup x = some c → c ≠ b) ∧ ∀ p ∈ X.pn ++ pins, p.1 ≠ b
theorem Inv.fpOk {X : Cx} {pins : List (Addr × Obj)} {σ : St} {H H' : Hp} {s : Shared} {b : Addr} (I : Inv X pins σ H s) (hb : s.heap.objs.size ≤ b) (hn : H' b = none) : FpOk X pins H' b := by
  refine ⟨hn, Nat.ne_of_gt (Nat.lt_of_lt_of_le I.lt hb), I.nofs hb, .inr (Nat.le_trans I.sz hb), fun x c e z => ?_, fun p hp z => ?_⟩
  · obtain ⟨v, q⟩ := I.cell x c e
    exact absurd (Nat.lt_of_lt_of_le q.lt (by rw [z]; exact hb)) (Nat.lt_irrefl _)
  · exact absurd (Nat.lt_of_lt_of_le (Heap.lt_size (I.pin p hp).1) (by rw [z]; exact hb)) (Nat.lt_irrefl _)
structure Turn (P : Program) (w : World) (K : PySem.W.Frag) (tg : Expr) (J : It) (fp : List Addr) (it : Addr) (tn : Nat → Heap → Prop) : Prop where
  mem : it ∈ fp
  obj : ∀ i h, tn i h → ∀ b ∈ fp, ∃ o, h.get? b = some o ∧ ∀ v, o.data ≠ .cell v
  keep : ∀ i h h', tn i h → (∀ b ∈ fp, ∀ o, h.get? b = some o → h'.get? b = some o) → tn i h'
  item : ∀ (X : Cx), X.prog = P → X.w = w → X.K = K → X.calm = true → ∀ (i : Nat) (pins : List (Addr × Obj)) (s : Shared) (σ : St) (H : Hp) (E : Value → Shared → Prop), Inv X pins σ H s → (∀ b ∈ fp, FpOk X pins H b) → tn i s.heap → J.go i H →
    wpAny (model P w) X.A (pyNext (.ref it)) (fun r s1 => ∃ u, r = some u ∧
      wpAny (model P w) X.A (letOwnedTupleGo tg (.ref it) u) (fun _ s2 => ∃ x H', Inv X pins σ H' s2 ∧ RelV x u ∧ J.yld i H x H' ∧ tn (i + 1) s2.heap ∧ ∀ b ∈ fp, H' b = none) E s1) E s
  done : ∀ (X : Cx), X.prog = P → X.w = w → X.K = K → X.calm = true → ∀ (i : Nat) (pins : List (Addr × Obj)) (s : Shared) (σ : St) (H : Hp) (E : Value → Shared → Prop), Inv X pins σ H s → (∀ b ∈ fp, FpOk X pins H b) → tn i s.heap → J.stop i H →
    wpAny (model P w) X.A (pyNext (.ref it)) (fun r s1 => r = none ∧ Inv X pins σ H s1) E s
  self : ∀ (A : Around) (i : Nat) (s : Shared) (Q : Value → Shared → Prop) (E : Value → Shared → Prop), tn i s.heap → Q (.ref it) s → wpAny (model P w) A (pyIter (.ref it)) Q E s
abbrev TI := St → Hp → (It → Hp → Prop) → Prop
/-- an iterator has come -/
def PIE (X : Cx) (pins : List (Addr × Obj)) (σ : St) (tg : Expr) (R : It → Hp → Prop) (itv : Value) (s2 : Shared) : Prop :=
  ∃ (it : Addr) (fp : List Addr) (tn : Nat → Heap → Prop) (J : It) (H' : Hp), itv = .ref it ∧ Inv X pins σ H' s2 ∧ Turn X.prog X.w X.K tg J fp it tn ∧ tn 0 s2.heap ∧ (∀ b ∈ fp, FpOk X pins H' b) ∧ R J H'
def PI (X : Cx) (tg iter : Expr) (wi : TI) : Prop :=
  ∀ (pins : List (Addr × Obj)) (s : Shared) (σ : St) (H : Hp) (R : It → Hp → Prop), Inv X pins σ H s → wi σ H R →
    wpAny (model X.prog X.w) X.A (eval iter X.env) (fun v s1 => wpAny (model X.prog X.w) X.A (pyIter v) (PIE X pins σ tg R) X.xe s1) X.xe s

/-- the step ahead of the store is nothing for an iterator that keeps no tuple -/
theorem go_of {M : Model} {A : Around} {E : Value → Shared → Prop} {s : Shared} {tg : Expr} {it : Addr} {u : Value} {o : Obj} {n : String} {vs : Array Value} {Q : Unit → Shared → Prop} (ho : s.heap.get? it = some o) (hc : o.cls = .type n) (hd : o.data = .fields vs)
    (hn : ["enumerate", "zip", "dict_itemiterator", "dict_reverseitemiterator", "odict_iterator", "itertools.zip_longest", "itertools.pairwise"].contains n = false) (hQ : Q () s) : wpAny M A (letOwnedTupleGo tg (.ref it) u) Q E s := by
  unfold letOwnedTupleGo
  cases tg <;> first
    | exact wpAny_pure hQ
    | (cases u <;> first
        | exact wpAny_pure hQ
        | (refine wpAny_bind (wpAny_load ho ?_)
           rw [hc, hd]
           show wpAny M A (if (["enumerate", "zip", "dict_itemiterator", "dict_reverseitemiterator", "odict_iterator", "itertools.zip_longest", "itertools.pairwise"].contains n && vs[0]? == some (rawInt _)) = true then _ else _) Q E s
           rw [if_neg (by intro h; rw [hn, Bool.false_and] at h; cases h)]
           exact wpAny_pure hQ))

/-- the list at a, as it stands at each turn (a loop may append to it) -/
def Itl (K : PySem.W.Frag) (a : Addr) : It :=
  ⟨fun i H => ∃ xs x, SqL K H a xs ∧ xs[i]? = some x, fun i H x H' => H' = H ∧ ∀ xs, SqL K H a xs → xs[i]? = some x, fun i H => ∃ xs, SqL K H a xs ∧ xs.length ≤ i⟩
def Itt (K : PySem.W.Frag) (a : Addr) : It :=
  ⟨fun i H => ∃ xs x, SqT K H a xs ∧ xs[i]? = some x, fun i H x H' => H' = H ∧ ∀ xs, SqT K H a xs → xs[i]? = some x, fun i H => ∃ xs, SqT K H a xs ∧ xs.length ≤ i⟩
/-- lo, lo + 1, .. (n of them) -/
def Itr (lo : Int) (n : Nat) : It := ⟨fun i _ => i < n, fun i H x H' => H' = H ∧ x = .int (lo + i), fun i _ => n ≤ i⟩
theorem turn_list {P : Program} {w : World} {K : PySem.W.Frag} {tg : Expr} (a it : Addr) : Turn P w K tg (Itl K a) [it] it (fun i h => h.IsListIter it a i) where
  mem := by simp
  obj := fun i h st b hb => by
    have e : b = it := by simpa using hb
    subst e
    obtain ⟨o, e, c, d⟩ := st
    exact ⟨o, e, fun v z => by rw [d] at z; cases z⟩
  keep := fun i h h' st k => st.at fun o e => k it (by simp) o e
  item := by
    intro X hP hw hK hc i pins s σ H E I hf st hg
    subst hP hw hK
    obtain ⟨xs, x, hq, hx⟩ := hg
    obtain ⟨its, rv, p, hz⟩ := I.list hq
    obtain ⟨u, hu, ru⟩ := rv.get hx
    obtain ⟨f0, f1, f2, f3, f4, f5⟩ := hf it (by simp)
    refine wpAny_pyNext_list_item st p.isList (x := u) (by simpa using hu) fun h' st' sb => ?_
    have I1 : Inv X pins σ H { s with heap := h' } := I.turned (t' := s.toks) (fun b o hb e => (sb.2 b hb).trans e) f0 f1 f3 f4 f5
    obtain ⟨o, e, c, d⟩ := id st'
    exact ⟨u, rfl, go_of (s := { s with heap := h' }) e c d (by decide) ⟨x, H, I1, ru, ⟨rfl, fun ys hy => by rw [I.list_inj hy hq]; exact hx⟩, st', fun b hb => (hf b hb).1⟩⟩
  done := by
    intro X hP hw hK hc i pins s σ H E I hf st hg
    subst hP hw hK
    obtain ⟨xs, hq, hx⟩ := hg
    obtain ⟨its, rv, p, hz⟩ := I.list hq
    obtain ⟨f0, f1, f2, f3, f4, f5⟩ := hf it (by simp)
    have hl := rv.length
    exact wpAny_pyNext_list_end (I.ok.hd hc) st p.isList (by simp; omega) fun h' eb => ⟨rfl, I.turned (t' := s.toks) (fun b o hb e => eb b o hb e) f0 f1 f3 f4 f5⟩
  self := fun _ _ _ _ _ st h => wpAny_pyIter_listiter st h
theorem turn_tuple {P : Program} {w : World} {K : PySem.W.Frag} {tg : Expr} (a it : Addr) : Turn P w K tg (Itt K a) [it] it (fun i h => h.IsTupleIter it a i) where
  mem := by simp
  obj := fun i h st b hb => by
    have e : b = it := by simpa using hb
    subst e
    obtain ⟨o, e, c, d⟩ := st
    exact ⟨o, e, fun v z => by rw [d] at z; cases z⟩
  keep := fun i h h' st k => st.at fun o e => k it (by simp) o e
  item := by
    intro X hP hw hK hc i pins s σ H E I hf st hg
    subst hP hw hK
    obtain ⟨xs, x, hq, hx⟩ := hg
    obtain ⟨its, rv, p, hz⟩ := I.tuple hq
    obtain ⟨u, hu, ru⟩ := rv.get hx
    obtain ⟨f0, f1, f2, f3, f4, f5⟩ := hf it (by simp)
    refine wpAny_pyNext_tuple_item st (show s.heap.IsTuple a its.toArray from p) (x := u) (by simpa using hu) fun h' st' sb => ?_
    have I1 : Inv X pins σ H { s with heap := h' } := I.turned (t' := s.toks) (fun b o hb e => (sb.2 b hb).trans e) f0 f1 f3 f4 f5
    obtain ⟨o, e, c, d⟩ := id st'
    exact ⟨u, rfl, go_of (s := { s with heap := h' }) e c d (by decide) ⟨x, H, I1, ru, ⟨rfl, fun ys hy => by rw [I.tuple_inj hy hq]; exact hx⟩, st', fun b hb => (hf b hb).1⟩⟩
  done := by
    intro X hP hw hK hc i pins s σ H E I hf st hg
    subst hP hw hK
    obtain ⟨xs, hq, hx⟩ := hg
    obtain ⟨its, rv, p, hz⟩ := I.tuple hq
    obtain ⟨f0, f1, f2, f3, f4, f5⟩ := hf it (by simp)
    have hl := rv.length
    exact wpAny_pyNext_tuple_end (I.ok.hd hc) st (show s.heap.IsTuple a its.toArray from p) (by simp; omega) fun h' eb => ⟨rfl, I.turned (t' := s.toks) (fun b o hb e => eb b o hb e) f0 f1 f3 f4 f5⟩
  self := fun _ _ _ _ _ st h => wpAny_pyIter_tupleiter st h
theorem turn_range {P : Program} {w : World} {K : PySem.W.Frag} {tg : Expr} (it : Addr) (lo : Int) (n : Nat) : Turn P w K tg (Itr lo n) [it] it (fun i h => IsRangeIter h it (lo + (i : Nat) * 1) ((n : Int) - (i : Nat)) 1) where
  mem := by simp
  obj := fun i h st b hb => by
    have e : b = it := by simpa using hb
    subst e
    exact ⟨_, st, fun v z => by
      have z' : Data.fields _ = Data.cell v := z
      cases z'⟩
  keep := fun i h h' st k => k it (by simp) _ st
  item := by
    intro X hP hw hK hc i pins s σ H E I hf st hg
    subst hP hw hK
    obtain ⟨f0, f1, f2, f3, f4, f5⟩ := hf it (by simp)
    have W := Walks.range (prog := X.prog) (w := X.w) (I.ok.hd hc) it lo 1 n
    refine W.item i s _ _ hg st fun v h' tk hv st' kk => ?_
    obtain ⟨t, rfl⟩ := hv
    have I1 : Inv X pins σ H { s with heap := h', toks := tk } := I.turned (fun b o hb e => kk b o (by simpa using hb) e) f0 f1 f3 f4 f5
    refine ⟨_, rfl, go_of (s := { s with heap := h', toks := tk }) (n := "range_iterator") st' rfl rfl (by decide) ⟨.int (lo + i), H, I1, ⟨t, ?_⟩, ⟨rfl, rfl⟩, st', fun b hb => (hf b hb).1⟩⟩
    rw [Int.mul_one]
  done := by
    intro X hP hw hK hc i pins s σ H E I hf st hg
    subst hP hw hK
    obtain ⟨f0, f1, f2, f3, f4, f5⟩ := hf it (by simp)
    exact wpAny_pyNext_range_end (I.ok.hd hc) st (by have : n ≤ i := hg; omega) fun h' eb => ⟨rfl, I.turned (t' := s.toks) (fun b o hb e => eb b o hb e) f0 f1 f3 f4 f5⟩
  self := fun _ _ _ _ _ st h => wpAny_pyIter_rangeiter st h
end L2

namespace L2
open PySem PySem.Spec PyProof.Rows
section
variable {X : Cx} {tg : Expr}
def iList (K : PySem.W.Frag) (tl : TE) : TI := fun σ H R => tl σ H fun x H1 => ∃ a, x = .ref a ∧ (∃ xs, SqL K H1 a xs) ∧ R (Itl K a) H1
def iTup (K : PySem.W.Frag) (tl : TE) : TI := fun σ H R => tl σ H fun x H1 => ∃ a, x = .ref a ∧ (∃ xs, SqT K H1 a xs) ∧ R (Itt K a) H1
theorem pi_list {l : Expr} {tl : TE} (hl : PE X l tl) : PI X tg l (iList X.K tl) := by
  intro pins s σ H R I h
  refine thn (hl pins s σ H _ I h) fun v s1 ⟨x, H1, I1, r1, q1⟩ => ?_
  obtain ⟨a, e, ⟨xs, hq⟩, q⟩ := q1
  subst e
  cases r1
  obtain ⟨its, rv, p, hz⟩ := I1.list hq
  refine wpAny_pyIter_list p.isList ?_
  refine ⟨s1.heap.objs.size, [s1.heap.objs.size], _, _, H1, rfl, I1.kept (t' := s1.toks) fun b o e => Heap.get?_push_of_some _ e, turn_list a _, ⟨_, Heap.get?_push_size _ rfl, rfl, rfl⟩, fun b hb => ?_, q⟩
  have e : b = s1.heap.objs.size := by simpa using hb
  subst e
  exact I1.fpOk (Nat.le_refl _) (I1.hok.fresh (Nat.le_refl _))
theorem pi_tup {l : Expr} {tl : TE} (hl : PE X l tl) : PI X tg l (iTup X.K tl) := by
  intro pins s σ H R I h
  refine thn (hl pins s σ H _ I h) fun v s1 ⟨x, H1, I1, r1, q1⟩ => ?_
  obtain ⟨a, e, ⟨xs, hq⟩, q⟩ := q1
  subst e
  cases r1
  obtain ⟨its, rv, p, hz⟩ := I1.tuple hq
  refine wpAny_pyIter_tuple (show s1.heap.IsTuple a its.toArray from p) ?_
  refine ⟨s1.heap.objs.size, [s1.heap.objs.size], _, _, H1, rfl, I1.kept (t' := s1.toks) fun b o e => Heap.get?_push_of_some _ e, turn_tuple a _, ⟨_, Heap.get?_push_size _ rfl, rfl, rfl⟩, fun b hb => ?_, q⟩
  have e : b = s1.heap.objs.size := by simpa using hb
  subst e
  exact I1.fpOk (Nat.le_refl _) (I1.hok.fresh (Nat.le_refl _))
/-- a range object just made, walked -/
theorem range_it {pins : List (Addr × Obj)} {σ : St} {H : Hp} {s : Shared} {R : It → Hp → Prop} {E : Value → Shared → Prop} {lo hi : Int} {t u v : Tok} {tk : Nat} (I : Inv X pins σ H s) (h1 : -(2 ^ 62) ≤ lo) (h2 : lo < 2 ^ 62) (h3 : -(2 ^ 62) ≤ hi) (h4 : hi < 2 ^ 62)
    (q : R (Itr lo (hi - lo).toNat) H) : wpAny (model X.prog X.w) X.A (pyIter (.ref s.heap.objs.size)) (PIE X pins σ tg R) E { s with heap := s.heap.push { cls := .type "range", data := .fields #[.int lo t, .int hi u, .int 1 v] }, toks := tk } := by
  refine wpAny_pyIter_range (IsRange.new ..) (small_one h1 h2 h3 h4) ?_
  have I1 : Inv X pins σ H { s with heap := s.heap.push { cls := .type "range", data := .fields #[.int lo t, .int hi u, .int 1 v] }, toks := tk } := I.kept fun b o e => Heap.get?_push_of_some _ e
  refine ⟨(s.heap.push { cls := .type "range", data := .fields #[.int lo t, .int hi u, .int 1 v] }).objs.size, [(s.heap.push { cls := .type "range", data := .fields #[.int lo t, .int hi u, .int 1 v] }).objs.size], _, _, H, rfl,
    I1.kept (t' := tk) fun b o e => Heap.get?_push_of_some _ e, turn_range _ lo (hi - lo).toNat, ?_, fun b hb => ?_, q⟩
  · have e1 : lo + ((0 : Nat) : Int) * 1 = lo := by simp
    have e2 : (((hi - lo).toNat : Nat) : Int) - ((0 : Nat) : Int) = Builtin.Range.rangeSize lo hi 1 := by rw [rangeSize_one]; split <;> omega
    show IsRangeIter _ _ (lo + ((0 : Nat) : Int) * 1) ((((hi - lo).toNat : Nat) : Int) - ((0 : Nat) : Int)) 1
    rw [e1, e2]
    exact Heap.get?_push_size _ rfl
  · have e : b = (s.heap.push { cls := .type "range", data := .fields #[.int lo t, .int hi u, .int 1 v] }).objs.size := by simpa using hb
    subst e
    exact I1.fpOk (Nat.le_refl _) (I1.hok.fresh (Nat.le_refl _))
def iRng1 (ta : TA) : TI := fun σ H R => ta σ H fun vs H1 => ∃ j : Int, vs = [.int j] ∧ -(2 ^ 62) ≤ j ∧ j < 2 ^ 62 ∧ R (Itr 0 j.toNat) H1
def iRng2 (ta : TA) : TI := fun σ H R => ta σ H fun vs H1 => ∃ i j : Int, vs = [.int i, .int j] ∧ (-(2 ^ 62) ≤ i ∧ i < 2 ^ 62 ∧ -(2 ^ 62) ≤ j ∧ j < 2 ^ 62) ∧ R (Itr i (j - i).toNat) H1
theorem pi_range1 {a : Expr} {ta : TA} {p pos : Pos} (hg : Gl X "range") (hm : X.mg "range" = none) (ha : PA X [a] ta) (hs : starEach [a] X.env = [(false, eval a X.env)] := by rfl) : PI X tg (.Call (.Name "range" p) [a] [] pos) (iRng1 ta) := by
  intro pins s σ H R I h
  refine Call_ (ld_blt I hg hm boot_range (PyProof.Rows.callWith_type1 (thn (ha pos pins s σ H _ I h) fun us s1 ⟨vs, H1, I1, r1, q1⟩ => ?_) hs rfl))
  obtain ⟨j, e, q1, q2, q⟩ := q1
  subst e
  cases r1 with
  | cons r rr =>
    cases rr
    obtain ⟨t, rfl⟩ := r
    exact call_range_1 (range_it I1 (by omega) (by omega) q1 q2 (by simpa using q))
theorem pi_range2 {a b : Expr} {ta : TA} {p pos : Pos} (hg : Gl X "range") (hm : X.mg "range" = none) (ha : PA X [a, b] ta) (hs : starEach [a, b] X.env = [(false, eval a X.env), (false, eval b X.env)] := by rfl) (hs2 : starEach [b] X.env = [(false, eval b X.env)] := by rfl) :
    PI X tg (.Call (.Name "range" p) [a, b] [] pos) (iRng2 ta) := by
  intro pins s σ H R I h
  refine Call_ (ld_blt I hg hm boot_range (PyProof.Rows.callWith_type1 (thn (ha pos pins s σ H _ I h) fun us s1 ⟨vs, H1, I1, r1, q1⟩ => ?_) (by rw [hs, hs2]) (by rw [hs2]; rfl)))
  obtain ⟨i, j, e, ⟨q1, q2, q3, q4⟩, q⟩ := q1
  subst e
  cases r1 with
  | cons r rr =>
    cases rr with
    | cons r' rr =>
      cases rr
      obtain ⟨t, rfl⟩ := r
      obtain ⟨t', rfl⟩ := r'
      exact call_range_2 (range_it I1 q1 q2 q3 q4 q)

/-! ### for -/
/-- W: the invariant by the turn and a measure; N: what the body is to reach -/
def tFor (wi : TI) (g : TG) (tb : TS) : TS := fun D σ H => wi σ H fun J H1 => ∃ W : Nat → Nat → St → Hp → Prop, (∃ m, W 0 m σ H1) ∧ ∀ i m σ H, W i m σ H →
  (J.stop i H ∧ D.nx σ H) ∨ (J.go i H ∧ ∃ N : St → Hp → Prop, (∀ σ' H', N σ' H' → ∃ m', m' < m ∧ W (i + 1) m' σ' H') ∧ ∀ x H', J.yld i H x H' → g x σ H' fun σ2 H2 => tb { D with nx := N, ct := N, bk := D.nx } σ2 H2)
/-- the records at fp as they stand -/
def pinsAt (fp : List Addr) (h : Heap) : List (Addr × Obj) := fp.filterMap fun b => (h.get? b).map fun o => (b, o)
theorem mem_pinsAt {fp : List Addr} {h : Heap} {b : Addr} {o : Obj} (hb : b ∈ fp) (e : h.get? b = some o) : (b, o) ∈ pinsAt fp h := List.mem_filterMap.mpr ⟨b, hb, by rw [e]; rfl⟩
theorem of_pinsAt {fp : List Addr} {h : Heap} {p : Addr × Obj} (hp : p ∈ pinsAt fp h) : p.1 ∈ fp ∧ h.get? p.1 = some p.2 := by
  obtain ⟨b, hb, e⟩ := List.mem_filterMap.mp hp
  cases q : h.get? b with
  | none => rw [q] at e; cases e
  | some o =>
    rw [q] at e
    have e' : (b, o) = p := Option.some.inj e
    subst e'
    exact ⟨hb, q⟩
theorem Inv.pinned {pins : List (Addr × Obj)} {σ : St} {H : Hp} {s : Shared} {fp : List Addr} (I : Inv X pins σ H s) (hf : ∀ b ∈ fp, FpOk X pins H b) (ho : ∀ b ∈ fp, ∃ o, s.heap.get? b = some o ∧ ∀ v, o.data ≠ .cell v) : Inv X (pins ++ pinsAt fp s.heap) σ H s :=
  I.pins_of fun p hp => (List.mem_append.mp hp).elim (fun z => I.pin p (List.mem_append_right _ z)) fun z => by
    obtain ⟨hb, e⟩ := of_pinsAt z
    obtain ⟨f0, f1, f2, _⟩ := hf p.1 hb
    obtain ⟨o, e', d⟩ := ho p.1 hb
    rw [e] at e'; cases e'
    exact ⟨e, f0, f1, f2, d⟩
theorem Inv.unpinned {pins pl : List (Addr × Obj)} {σ : St} {H : Hp} {s : Shared} (I : Inv X (pins ++ pl) σ H s) : Inv X pins σ H s := I.pins_of fun p hp => I.pin p (List.mem_append_right _ (List.mem_append_left _ hp))
theorem ps_for {iter : Expr} {body : List Stmt} {wi : TI} {g : TG} {tb : TS} {pos : Pos} (hp : PassesOwn (model X.prog X.w) X.A X.env X.xe) (hc : X.calm = true) (hi : PI X tg iter wi) (hg : PG X tg g) (hb : PSs X body tb)
    (hs : ∀ x, foldedSetIterable iter X.env x = pure x := by intro _; rfl) : PS X (.For tg iter body [] pos) (tFor wi g tb) := by
  intro pins s σ H D I h
  refine wpAny_For (thn (hi pins s σ H _ I h) fun v s1 h1 => thn h1 fun itv s2 h2 => ?_) hs
  obtain ⟨it, fp, tn, J, H2, e, I2, T, st2, f2, W, ⟨m0, w0⟩, turn⟩ := h2
  subst e
  -- what stays true of the iterator's objects through the loop
  have stat : ∀ {H' : Hp}, (∀ b ∈ fp, H' b = none) → ∀ b ∈ fp, FpOk X pins H' b := fun hn b hb => ⟨hn b hb, (f2 b hb).2⟩
  refine codeAny_forLoop_any (fun n s' => ∃ i σ' H', Inv X pins σ' H' s' ∧ tn i s'.heap ∧ (∀ b ∈ fp, H' b = none) ∧ W i n σ' H') ?_ m0 ⟨0, σ, H2, I2, st2, fun b hb => (f2 b hb).1, w0⟩
  rintro n s3 ⟨i, σ3, H3, I3, st3, fr3, w3⟩
  rcases turn i n σ3 H3 w3 with ⟨stop, qn⟩ | ⟨go, N, hN, step⟩
  · refine wpAny_passesOwn hp (thn (T.done X rfl rfl rfl hc i pins s3 σ3 H3 X.xe I3 (stat fr3) st3 stop) fun r s4 ⟨hr, I4⟩ => ?_)
    subst hr
    exact wpAny_execs_nil ⟨σ3, H3, I4, qn⟩
  · refine wpAny_passesOwn hp (thn (T.item X rfl rfl rfl hc i pins s3 σ3 H3 X.xe I3 (stat fr3) st3 go) fun r s4 ⟨u, hr, h4⟩ => ?_)
    subst hr
    refine wpAny_passesOwn hp (thn h4 fun _ s5 ⟨x, H5, I5, r5, y5, st5, fr5⟩ => ?_)
    have I5' := I5.pinned (stat fr5) (T.obj _ _ st5)
    refine wpAny_passesOwn hp (thn (hg _ s5 σ3 H5 x u _ I5' r5 (step x H5 y5)) fun _ s6 ⟨σ6, H6, I6, q6⟩ => ?_)
    refine wpAny_passesOwn hp (thn (hb _ s6 σ6 H6 _ I6 q6) fun f s7 q7 => ?_)
    have again : ∀ {σ7 : St} {H7 : Hp}, Inv X (pins ++ pinsAt fp s5.heap) σ7 H7 s7 → N σ7 H7 → ∃ m, m < n ∧ ∃ i σ' H', Inv X pins σ' H' s7 ∧ tn i s7.heap ∧ (∀ b ∈ fp, H' b = none) ∧ W i m σ' H' := fun {σ7 H7} I7 n7 => by
      obtain ⟨m', hm, w7⟩ := hN σ7 H7 n7
      refine ⟨m', hm, i + 1, σ7, H7, I7.unpinned, T.keep _ _ _ st5 fun b hb o e => (I7.pin (b, o) (List.mem_append_right _ (List.mem_append_right _ (mem_pinsAt hb e)))).1, fun b hb => ?_, w7⟩
      obtain ⟨o, e, d⟩ := T.obj _ _ st5 b hb
      exact (I7.pin (b, o) (List.mem_append_right _ (List.mem_append_right _ (mem_pinsAt hb e)))).2.1
    cases f with
    | next => obtain ⟨σ7, H7, I7, n7⟩ := q7; exact again I7 n7
    | cont => obtain ⟨σ7, H7, I7, n7⟩ := q7; exact again I7 n7
    | brk => obtain ⟨σ7, H7, I7, q7⟩ := q7; exact ⟨σ7, H7, I7.unpinned, q7⟩
    | ret v => obtain ⟨x7, σ7, H7, I7, r7, q7⟩ := q7; exact ⟨x7, σ7, H7, I7.unpinned, r7, q7⟩
end

/-! ### the forms one uses -/
end L2

namespace L2
open PySem PySem.Spec PyProof.Rows

abbrev R2 := V → V → Hp → VK → Prop
/-- a two-place operation on values: f is binaryOp op, inplaceOp op or compareOp op -/
def OpR (X : Cx) (f : Value → Value → Sem Value) (r : R2) : Prop :=
  ∀ (pins : List (Addr × Obj)) (s : Shared) (σ : St) (H : Hp) (x y : V) (v u : Value) (Q : VK), Inv X pins σ H s → RelV x v → RelV y u → r x y H Q →
    wpAny (model X.prog X.w) X.A (f v u) (EP X pins σ Q) X.xe s
/-- a one-place operation -/
def UnR (X : Cx) (f : Value → Sem Value) (r : V → Hp → VK → Prop) : Prop :=
  ∀ (pins : List (Addr × Obj)) (s : Shared) (σ : St) (H : Hp) (x : V) (v : Value) (Q : VK), Inv X pins σ H s → RelV x v → r x H Q →
    wpAny (model X.prog X.w) X.A (f v) (EP X pins σ Q) X.xe s
/-- a call of a value that is known (a builtin, a type) with values -/
def CallR (X : Cx) (f : Value) (r : List V → Hp → VK → Prop) : Prop :=
  ∀ (pins : List (Addr × Obj)) (s : Shared) (σ : St) (H : Hp) (xs : List V) (us : List Value) (Q : VK), Inv X pins σ H s → Vals xs us → r xs H Q →
    wpAny (model X.prog X.w) X.A (call f us) (EP X pins σ Q) X.xe s
/-- a value's truth -/
def TruR (X : Cx) (r : V → Hp → (Bool → Hp → Prop) → Prop) : Prop :=
  ∀ (pins : List (Addr × Obj)) (s : Shared) (σ : St) (H : Hp) (x : V) (v : Value) (Q : Bool → Hp → Prop), Inv X pins σ H s → RelV x v → r x H Q →
    wpAny (model X.prog X.w) X.A (truthy v) (TP X pins σ Q) X.xe s

def tOp (r : R2) (ta tb : TE) : TE := fun σ H Q => ta σ H fun x H1 => tb σ H1 fun y H2 => r x y H2 Q
def tUn (r : V → Hp → VK → Prop) (ta : TE) : TE := fun σ H Q => ta σ H fun x H1 => r x H1 Q
/-- ints in, under C, and a value out -/
def rI (C : Int → Int → Prop) (g : Int → Int → V) : R2 := fun x y H Q => ∃ i j, x = .int i ∧ y = .int j ∧ C i j ∧ Q (g i j) H
def rI0 (g : Int → Int → V) : R2 := fun x y H Q => ∃ i j, x = .int i ∧ y = .int j ∧ Q (g i j) H
def rU (g : Int → V) : V → Hp → VK → Prop := fun x H Q => ∃ i, x = .int i ∧ Q (g i) H

section
variable {X : Cx} {a b c : Expr} {ta tb tc : TE} {pos : Pos}

theorem binT (ha : PE X a ta) (hb : PE X b tb) {pins : List (Addr × Obj)} {s : Shared} {σ : St} {H : Hp} {R : V → V → Hp → Prop} (I : Inv X pins σ H s)
    (h : ta σ H fun x H1 => tb σ H1 fun y H2 => R x y H2) {Q : Value → Shared → Prop} {f : Value → Value → Sem Value}
    (hf : ∀ v u s2 x y H2, Inv X pins σ H2 s2 → RelV x v → RelV y u → R x y H2 → wpAny (model X.prog X.w) X.A (f v u) Q X.xe s2) :
    wpAny (model X.prog X.w) X.A (eval a X.env) (fun v s₁ => wpAny (model X.prog X.w) X.A (eval b X.env) (fun u s₂ => wpAny (model X.prog X.w) X.A (f v u) Q X.xe s₂) X.xe s₁) X.xe s := by
  refine thn (ha pins s σ H _ I h) fun v s1 ⟨x, H1, I1, r1, q1⟩ => ?_
  refine thn (hb pins s1 σ H1 _ I1 q1) fun u s2 ⟨y, H2, I2, r2, q2⟩ => ?_
  exact hf v u s2 x y H2 I2 r1 r2 q2

theorem pe_op {op : Operator} {r : R2} (ho : OpR X (binaryOp op) r) (ha : PE X a ta) (hb : PE X b tb) : PE X (.BinOp a op b pos) (tOp r ta tb) := by
  intro pins s σ H Q I h
  exact wpAny_BinOp (binT ha hb I h fun v u s2 x y H2 I2 rx ry q => ho pins s2 σ H2 x y v u Q I2 rx ry q)
theorem pe_un {op : UnaryOp} {r : V → Hp → VK → Prop} (ho : UnR X (unaryOp op) r) (ha : PE X a ta) : PE X (.UnaryOp op a pos) (tUn r ta) := by
  intro pins s σ H Q I h
  exact UnaryOp_ (thn (ha pins s σ H _ I h) fun v s1 ⟨x, H1, I1, r1, q1⟩ => ho pins s1 σ H1 x v Q I1 r1 q1)
/-! ### ints -/
theorem opI {f : Value → Value → Sem Value} {C : Int → Int → Prop} {g : Int → Int → Int}
    (rule : ∀ (i j : Int) (t u : Tok) (s : Shared) (Q : Value → Shared → Prop) (E : Value → Shared → Prop), C i j → Q (.int (g i j) s.toks) { s with toks := s.toks + 1 } → wpAny (model X.prog X.w) X.A (f (.int i t) (.int j u)) Q E s) :
    OpR X f (rI C fun i j => .int (g i j)) := by
  intro pins s σ H x y v u Q I rx ry h
  obtain ⟨i, j, rfl, rfl, hc, q⟩ := h
  obtain ⟨t, rfl⟩ := rx
  obtain ⟨t', rfl⟩ := ry
  exact rule i j t t' s _ _ hc ⟨.int (g i j), H, I.tok _, ⟨_, rfl⟩, q⟩
theorem opI0 {f : Value → Value → Sem Value} {g : Int → Int → Int}
    (rule : ∀ (i j : Int) (t u : Tok) (s : Shared) (Q : Value → Shared → Prop) (E : Value → Shared → Prop), Q (.int (g i j) s.toks) { s with toks := s.toks + 1 } → wpAny (model X.prog X.w) X.A (f (.int i t) (.int j u)) Q E s) :
    OpR X f (rI0 fun i j => .int (g i j)) := by
  intro pins s σ H x y v u Q I rx ry h
  obtain ⟨i, j, rfl, rfl, q⟩ := h
  obtain ⟨t, rfl⟩ := rx
  obtain ⟨t', rfl⟩ := ry
  exact rule i j t t' s _ _ ⟨.int (g i j), H, I.tok _, ⟨_, rfl⟩, q⟩
theorem opB0 {f : Value → Value → Sem Value} {g : Int → Int → Bool}
    (rule : ∀ (i j : Int) (t u : Tok) (s : Shared) (Q : Value → Shared → Prop) (E : Value → Shared → Prop), Q (.bool (g i j)) s → wpAny (model X.prog X.w) X.A (f (.int i t) (.int j u)) Q E s) :
    OpR X f (rI0 fun i j => .bl (g i j)) := by
  intro pins s σ H x y v u Q I rx ry h
  obtain ⟨i, j, rfl, rfl, q⟩ := h
  obtain ⟨t, rfl⟩ := rx
  obtain ⟨t', rfl⟩ := ry
  exact rule i j t t' s _ _ ⟨.bl (g i j), H, I, rfl, q⟩

theorem op_add : OpR X (binaryOp .Add) (rI0 fun i j => .int (i + j)) := opI0 fun _ _ _ _ _ _ _ q => add_int q
theorem op_sub : OpR X (binaryOp .Sub) (rI0 fun i j => .int (i - j)) := opI0 fun _ _ _ _ _ _ _ q => sub_int q
/-- % by a positive divisor of any size -/
theorem op_mod : OpR X (binaryOp .Mod) (rI (fun _ j => 0 < j) fun i j => .int (i % j)) := opI fun i j _ _ _ _ _ hc q => by
  have h1 : (0 : Int) < j := hc
  exact mod_int' (by omega) (by rw [Int.fmod_eq_emod_of_nonneg i (by omega)]; exact q)
theorem op_modN : OpR X (binaryOp .Mod) (rI (fun _ j => j ≠ 0) fun i j => .int (i.fmod j)) := opI fun _ _ _ _ _ _ _ hc q => mod_int' hc q
theorem unI {f : Value → Sem Value} {g : Int → Int}
    (rule : ∀ (i : Int) (t : Tok) (s : Shared) (Q : Value → Shared → Prop) (E : Value → Shared → Prop), Q (.int (g i) s.toks) { s with toks := s.toks + 1 } → wpAny (model X.prog X.w) X.A (f (.int i t)) Q E s) :
    UnR X f (rU fun i => .int (g i)) := by
  intro pins s σ H x v Q I rx h
  obtain ⟨i, rfl, q⟩ := h
  obtain ⟨t, rfl⟩ := rx
  exact rule i t s _ _ ⟨.int (g i), H, I.tok _, ⟨_, rfl⟩, q⟩
theorem un_neg : UnR X (unaryOp .USub) (rU fun i => .int (-i)) := unI fun _ _ _ _ _ q => neg_int q
/-! ### bools among ints: n += (a < b) -/
end

/-! ### comparisons -/
/-- the scalars that == tells apart as data does -/
def scal : V → V → Bool
  | .non, .non => true | .non, .int _ => true | .int _, .non => true | .non, .bl _ => true | .bl _, .non => true | .non, .str _ => true | .str _, .non => true
  | .int _, .int _ => true | .bl _, .bl _ => true | .str _, .str _ => true | .byt _, .byt _ => true
  | .int _, .str _ => true | .str _, .int _ => true | .bl _, .str _ => true | .str _, .bl _ => true
  | _, _ => false
def rEq : R2 := fun x y H Q => scal x y = true ∧ Q (.bl (decide (x = y))) H
def rNe : R2 := fun x y H Q => scal x y = true ∧ Q (.bl (!decide (x = y))) H

theorem dec_int {i j : Int} : decide (V.int i = V.int j) = (i == j) := by
  rw [Bool.eq_iff_iff]
  simp
theorem dec_bl {i j : Bool} : decide (V.bl i = V.bl j) = (i == j) := by
  rw [Bool.eq_iff_iff]
  simp
theorem dec_str {i j : Str} : decide (V.str i = V.str j) = (i == j) := by
  rw [Bool.eq_iff_iff]
  simp
theorem dec_byt {i j : Array UInt8} : decide (V.byt i = V.byt j) = (i.toList == j.toList) := by
  rw [Bool.eq_iff_iff]
  cases i
  cases j
  simp

section
variable {X : Cx} {a b c : Expr} {ta tb tc : TE} {pos : Pos}
theorem fin_bl {pins : List (Addr × Obj)} {σ : St} {H : Hp} {s : Shared} {Q : VK} {k k' : Bool} (I : Inv X pins σ H s) (q : Q (.bl k) H) (e : k = k') : EP X pins σ Q (.bool k') s := by
  subst e
  exact ⟨.bl k, H, I, rfl, q⟩
theorem op_eq : OpR X (compareOp .Eq) rEq := by
  intro pins s σ H x y v u Q I rx ry h
  obtain ⟨hs, q⟩ := h
  cases x with
  | non =>
    cases rx
    cases y with
    | non => cases ry; exact PySem.EqNone.eq_none_none (fin_bl I q (by simp))
    | bl j => cases ry; exact PySem.EqNone.eq_none_bool (fin_bl I q (by simp))
    | int j => obtain ⟨t', rfl⟩ := ry; exact PySem.EqNone.eq_none_int (fin_bl I q (by simp))
    | str j => obtain ⟨t', rfl⟩ := ry; exact PySem.EqNone.eq_none_str (fin_bl I q (by simp))
    | _ => exact absurd (show false = true from hs) Bool.false_ne_true
  | bl i =>
    cases rx
    cases y with
    | non => cases ry; exact PySem.EqNone.eq_bool_none (fin_bl I q (by simp))
    | bl j => cases ry; exact eq_bool (fin_bl I q dec_bl)
    | str j => obtain ⟨t', rfl⟩ := ry; exact PySem.EqMixed.eq_bool_str (fin_bl I q (by simp))
    | _ => exact absurd (show false = true from hs) Bool.false_ne_true
  | int i =>
    obtain ⟨t, rfl⟩ := rx
    cases y with
    | non => cases ry; exact PySem.EqNone.eq_int_none (fin_bl I q (by simp))
    | int j => obtain ⟨t', rfl⟩ := ry; exact eq_int (fin_bl I q dec_int)
    | str j => obtain ⟨t', rfl⟩ := ry; exact PySem.EqMixed.eq_int_str (fin_bl I q (by simp))
    | _ => exact absurd (show false = true from hs) Bool.false_ne_true
  | str i =>
    obtain ⟨t, rfl⟩ := rx
    cases y with
    | non => cases ry; exact PySem.EqNone.eq_str_none (fin_bl I q (by simp))
    | bl j => cases ry; exact PySem.EqMixed.eq_str_bool (fin_bl I q (by simp))
    | int j => obtain ⟨t', rfl⟩ := ry; exact PySem.EqMixed.eq_str_int (fin_bl I q (by simp))
    | str j => obtain ⟨t', rfl⟩ := ry; exact eq_str (fin_bl I q dec_str)
    | _ => exact absurd (show false = true from hs) Bool.false_ne_true
  | byt i =>
    obtain ⟨t, rfl⟩ := rx
    cases y with
    | byt j => obtain ⟨t', rfl⟩ := ry; exact PySem.W.eq_bytes (fin_bl I q dec_byt)
    | _ => exact absurd (show false = true from hs) Bool.false_ne_true
  | _ => cases y <;> exact absurd (show false = true from hs) Bool.false_ne_true
theorem op_ne : OpR X (compareOp .NotEq) rNe := by
  intro pins s σ H x y v u Q I rx ry h
  obtain ⟨hs, q⟩ := h
  cases x with
  | non =>
    cases rx
    cases y with
    | non => cases ry; exact PySem.EqNone.ne_none_none (fin_bl I q (by simp))
    | bl j => cases ry; exact PySem.EqNone.ne_none_bool (fin_bl I q (by simp))
    | int j => obtain ⟨t', rfl⟩ := ry; exact PySem.EqNone.ne_none_int (fin_bl I q (by simp))
    | str j => obtain ⟨t', rfl⟩ := ry; exact PySem.EqNone.ne_none_str (fin_bl I q (by simp))
    | _ => exact absurd (show false = true from hs) Bool.false_ne_true
  | bl i =>
    cases rx
    cases y with
    | non => cases ry; exact PySem.EqNone.ne_bool_none (fin_bl I q (by simp))
    | bl j => cases ry; exact ne_bool (fin_bl I q (congrArg not dec_bl))
    | str j => obtain ⟨t', rfl⟩ := ry; exact PySem.EqMixed.ne_bool_str (fin_bl I q (by simp))
    | _ => exact absurd (show false = true from hs) Bool.false_ne_true
  | int i =>
    obtain ⟨t, rfl⟩ := rx
    cases y with
    | non => cases ry; exact PySem.EqNone.ne_int_none (fin_bl I q (by simp))
    | int j => obtain ⟨t', rfl⟩ := ry; exact ne_int (fin_bl I q (congrArg not dec_int))
    | str j => obtain ⟨t', rfl⟩ := ry; exact PySem.EqMixed.ne_int_str (fin_bl I q (by simp))
    | _ => exact absurd (show false = true from hs) Bool.false_ne_true
  | str i =>
    obtain ⟨t, rfl⟩ := rx
    cases y with
    | non => cases ry; exact PySem.EqNone.ne_str_none (fin_bl I q (by simp))
    | bl j => cases ry; exact PySem.EqMixed.ne_str_bool (fin_bl I q (by simp))
    | int j => obtain ⟨t', rfl⟩ := ry; exact PySem.EqMixed.ne_str_int (fin_bl I q (by simp))
    | str j => obtain ⟨t', rfl⟩ := ry; exact ne_str (fin_bl I q (congrArg not dec_str))
    | _ => exact absurd (show false = true from hs) Bool.false_ne_true
  | byt i =>
    obtain ⟨t, rfl⟩ := rx
    cases y with
    | byt j => obtain ⟨t', rfl⟩ := ry; exact PySem.W.ne_bytes (fin_bl I q (congrArg not dec_byt))
    | _ => exact absurd (show false = true from hs) Bool.false_ne_true
  | _ => cases y <;> exact absurd (show false = true from hs) Bool.false_ne_true

theorem op_lt : OpR X (compareOp .Lt) (rI0 fun i j => .bl (decide (i < j))) := opB0 fun _ _ _ _ _ _ _ q => lt_int q
theorem op_le : OpR X (compareOp .LtE) (rI0 fun i j => .bl (decide (i ≤ j))) := opB0 fun _ _ _ _ _ _ _ q => le_int q
theorem op_gt : OpR X (compareOp .Gt) (rI0 fun i j => .bl (decide (j < i))) := opB0 fun _ _ _ _ _ _ _ q => gt_int q
theorem op_ge : OpR X (compareOp .GtE) (rI0 fun i j => .bl (decide (j ≤ i))) := opB0 fun _ _ _ _ _ _ _ q => ge_int q
theorem nomark (b : Expr) {op : CmpOp} (h : op ≠ .In := by decide) (h2 : op ≠ .NotIn := by decide) : behindInMarks op b = false := by
  have e1 : (op == CmpOp.In) = false := by cases op <;> first | rfl | exact absurd rfl h
  have e2 : (op == CmpOp.NotIn) = false := by cases op <;> first | rfl | exact absurd rfl h2
  cases b <;> simp [behindInMarks, e1, e2]
/-- a comparison as a value; hm: nomark b, or (for in, not in) by with_unfolding_all rfl -/
theorem pe_cmpR {op : CmpOp} {r : R2} (ho : OpR X (compareOp op) r) (ha : PE X a ta) (hb : PE X b tb) (hm : behindInMarks op b = false) : PE X (.Compare a [op] [b] pos) (tOp r ta tb) := by
  intro pins s σ H Q I h
  exact wpAny_Compare1 (binT ha hb I h fun v u s2 x y H2 I2 rx ry q => ho pins s2 σ H2 x y v u Q I2 rx ry q) hm
/-- a reading of a value as a test -/
def tTest (t : TE) : TT := fun σ H Q => t σ H fun x H' => ∃ k, x = .bl k ∧ Q k H'
theorem pt_cmpR {op : CmpOp} {r : R2} (ho : OpR X (compareOp op) r) (ha : PE X a ta) (hb : PE X b tb) (hm : behindInMarks op b = false) : PT X (.Compare a [op] [b] pos) (tTest (tOp r ta tb)) := by
  intro pins s σ H Q I h
  refine wpAny_isTrue_Compare1 (thn (ha pins s σ H _ I h) fun v s1 ⟨x, H1, I1, r1, q1⟩ => thn (hb pins s1 σ H1 _ I1 q1) fun u s2 ⟨y, H2, I2, r2, q2⟩ =>
    thn (ho pins s2 σ H2 x y v u _ I2 r1 r2 q2) fun c s3 ⟨z, H3, I3, r3, k, e, q3⟩ => ?_) hm
  subst e
  cases r3
  exact wpAny_truthy_bool ⟨H3, I3, q3⟩
/-! ### truth -/
/-- a value's truth by the abstract heap -/
def TruV (K : PySem.W.Frag) (x : V) (H : Hp) (k : Bool) : Prop :=
  match x with
  | .non => k = false
  | .bl b => k = b
  | .int i => k = (i != 0)
  | .str y => y.length ≤ sizeLine ∧ k = ((y.length : Int) != 0)
  | .byt y => y.size ≤ sizeLine ∧ k = ((y.size : Int) != 0)
  | .ref p => (∃ xs, SqL K H p xs ∧ k = !xs.isEmpty) ∨ (∃ xs, SqT K H p xs ∧ k = !xs.isEmpty) ∨ ∃ kvs, H p = some (.dK kvs) ∧ k = !kvs.isEmpty
  | _ => False
theorem isEmpty_kv {κ : Type} {kvs : List (κ × V)} {vs : List (κ × Value)} (r : KV kvs vs) : (!vs.isEmpty) = !kvs.isEmpty := by
  cases r <;> rfl
theorem isEmpty_of {xs : List V} {its : List Value} (r : Vals xs its) : (!its.toArray.isEmpty) = !xs.isEmpty := by
  cases r <;> simp
theorem line63 : (sizeLine : Nat) < 2 ^ 63 := by rw [sizeLine_eq]; decide
theorem tru_ok : TruR X (fun x H Q => ∃ k, TruV X.K x H k ∧ Q k H) := by
  intro pins s σ H x v Q I rx h
  obtain ⟨k, e, q⟩ := h
  have hl := line63
  have hs : sizeLine = 16777216 := sizeLine_eq
  cases x with
  | non =>
    cases rx
    have e' : k = false := e
    subst e'
    exact truthy_none ⟨H, I, q⟩
  | bl b =>
    cases rx
    have e' : k = b := e
    subst e'
    exact wpAny_truthy_bool ⟨H, I, q⟩
  | int i =>
    obtain ⟨t, rfl⟩ := rx
    have e' : k = (i != 0) := e
    subst e'
    exact PySem.P.truthy_int ⟨H, I, q⟩
  | str y =>
    obtain ⟨t, rfl⟩ := rx
    obtain ⟨hy, e'⟩ : y.length ≤ sizeLine ∧ k = ((y.length : Int) != 0) := e
    subst e'
    exact PySem.P.truthy_str (by omega) ⟨H, I.tok _, q⟩
  | byt y =>
    obtain ⟨t, rfl⟩ := rx
    obtain ⟨hy, e'⟩ : y.size ≤ sizeLine ∧ k = ((y.size : Int) != 0) := e
    subst e'
    exact PySem.W.truthy_bytes (by omega) ⟨H, I.tok _, q⟩
  | ref p =>
    cases rx
    have e' : (∃ xs, SqL X.K H p xs ∧ k = !xs.isEmpty) ∨ (∃ xs, SqT X.K H p xs ∧ k = !xs.isEmpty) ∨ ∃ kvs, H p = some (.dK kvs) ∧ k = !kvs.isEmpty := e
    rcases e' with ⟨xs, hx, e'⟩ | ⟨xs, hx, e'⟩ | ⟨kvs, hx, e'⟩
    · subst e'
      obtain ⟨its, r, pl, hz⟩ := I.list hx
      have hlen := r.length
      exact wpAny_truthy_list pl.isList (by simp only [List.size_toArray]; omega) ⟨H, I.tok _, by rw [isEmpty_of r]; exact q⟩
    · subst e'
      obtain ⟨its, r, pl, hz⟩ := I.tuple hx
      have hlen := r.length
      exact truthy_tuple pl (by simp only [List.size_toArray]; omega) ⟨H, I.tok _, by rw [isEmpty_of r]; exact q⟩
    · subst e'
      obtain ⟨hz, hS, vs, r, m⟩ : kvs.length ≤ sizeLine ∧ (p == sysModules) = false ∧ ∃ vs, KV kvs vs ∧ s.heap.DictOf (mixKind X.prog X.w) p vs := I.hok p _ hx
      have hlen : kvs.length = vs.length := Paired.length r
      exact wpAny_truthy_dict hS m (by omega) ⟨H, I.tok _, by rw [isEmpty_kv r]; exact q⟩
  | _ => exact (show False from e).elim
/-! ### strs and bytes -/
/-! ### scalar builtins, by CallR -/
theorem vals1 {x : V} {us : List Value} (r : Vals [x] us) : ∃ u, us = [u] ∧ RelV x u := by
  cases r with
  | cons r1 r2 => cases r2; exact ⟨_, rfl, r1⟩
theorem vals2 {x y : V} {us : List Value} (r : Vals [x, y] us) : ∃ u w', us = [u, w'] ∧ RelV x u ∧ RelV y w' := by
  cases r with
  | cons r1 r2 =>
    cases r2 with
    | cons r3 r4 => cases r4; exact ⟨_, _, rfl, r1, r3⟩
theorem call_abs : CallR X (.builtin "abs") (fun xs H Q => ∃ i, xs = [.int i] ∧ Q (.int (if i < 0 then -i else i)) H) := by
  intro pins s σ H xs us Q I r h
  obtain ⟨i, rfl, q⟩ := h
  obtain ⟨u, rfl, t, rfl⟩ := vals1 r
  exact call_abs_int fun u tk => ⟨.int (if i < 0 then -i else i), H, I.tok _, ⟨_, rfl⟩, q⟩
theorem call_int1 : CallR X (.type "int") (fun xs H Q => (∃ i, xs = [.int i] ∧ Q (.int i) H) ∨ ∃ k, xs = [.bl k] ∧ Q (.int (if k then 1 else 0)) H) := by
  intro pins s σ H xs us Q I r h
  rcases h with ⟨i, rfl, q⟩ | ⟨k, rfl, q⟩
  · obtain ⟨u, rfl, t, rfl⟩ := vals1 r
    exact call_int_int ⟨.int i, H, I, ⟨_, rfl⟩, q⟩
  · obtain ⟨u, rfl, r1⟩ := vals1 r
    cases r1
    exact call_int_bool ⟨.int (if k then 1 else 0), H, I.tok _, ⟨_, rfl⟩, q⟩
/-- len of a str, a bytes, a list, a tuple -/
def LenV (K : PySem.W.Frag) (x : V) (H : Hp) (n : Nat) : Prop :=
  match x with
  | .str y => y.length ≤ sizeLine ∧ n = y.length
  | .byt y => y.size ≤ sizeLine ∧ n = y.size
  | .ref p => (∃ xs, SqL K H p xs ∧ n = xs.length) ∨ ∃ xs, SqT K H p xs ∧ n = xs.length
  | _ => False
theorem call_len : CallR X (.builtin "len") (fun xs H Q => ∃ x n, xs = [x] ∧ LenV X.K x H n ∧ Q (.int n) H) := by
  intro pins s σ H xs us Q I r h
  obtain ⟨x, n, rfl, e, q⟩ := h
  obtain ⟨u, rfl, rx⟩ := vals1 r
  have hl := line63
  have hs : sizeLine = 16777216 := sizeLine_eq
  cases x with
  | str y =>
    obtain ⟨t, rfl⟩ := rx
    obtain ⟨hy, e'⟩ : y.length ≤ sizeLine ∧ n = y.length := e
    subst e'
    exact len_str (by omega) ⟨.int _, H, I.tok _, ⟨_, rfl⟩, q⟩
  | byt y =>
    obtain ⟨t, rfl⟩ := rx
    obtain ⟨hy, e'⟩ : y.size ≤ sizeLine ∧ n = y.size := e
    subst e'
    exact PySem.W.len_bytes (by omega) ⟨.int _, H, I.tok _, ⟨_, rfl⟩, q⟩
  | ref p =>
    cases rx
    have e' : (∃ xs, SqL X.K H p xs ∧ n = xs.length) ∨ ∃ xs, SqT X.K H p xs ∧ n = xs.length := e
    rcases e' with ⟨xs, hx, e'⟩ | ⟨xs, hx, e'⟩
    · subst e'
      obtain ⟨its, r', pl, hz⟩ := I.list hx
      have hlen := r'.length
      exact Calls.call_len_list pl.isList (by simp only [List.size_toArray]; omega) ⟨.int xs.length, H, I.tok _, ⟨_, by simp only [List.size_toArray]; rw [hlen]⟩, q⟩
    · subst e'
      obtain ⟨its, r', pl, hz⟩ := I.tuple hx
      have hlen := r'.length
      exact len_tuple pl (by simp only [List.size_toArray]; omega) ⟨.int xs.length, H, I.tok _, ⟨_, by simp only [List.size_toArray]; rw [hlen]⟩, q⟩
  | _ => exact (show False from e).elim
end
end L2

namespace L2
open PySem PySem.Spec PyProof.Rows

/-! ### an instance, its attributes a map -/
structure ObjM (h : Heap) (x dx C : Addr) (mA : Str → Option Value) : Prop where
  obj : h.get? x = some (PySem.W.instObj C dx)
  ns : h.Ns1 dx mA
  ne : dx ≠ x

theorem lookIn_ns {h : Heap} {dx : Addr} {mA : Str → Option Value} (n : h.Ns1 dx mA) : ∃ od, h.get? dx = some od ∧ ∀ name, PySem.W.lookIn name od = some (mA name) := by
  obtain ⟨o, es, ep, ho, hd, hk, _, hm⟩ := n
  refine ⟨o, ho, fun name => ?_⟩
  have e := hm name
  unfold nsFind findBy at e
  rw [← Array.find?_toList] at e
  unfold PySem.W.lookIn
  rw [hd]
  dsimp only
  split
  · rename_i y q
    rw [q] at e
    exact congrArg some e
  · rename_i q
    rw [q] at e
    have a : es.toList.any (·.refKey) = false := by
      rw [List.any_eq_false]
      intro y hy
      obtain ⟨z, t, hkey⟩ := hk y (Array.mem_toList_iff.mp hy)
      simp [DictEntry.refKey, hkey]
    have a' : ¬ es.toList.any (·.refKey) = true := by rw [a]; exact Bool.false_ne_true
    rw [if_neg a']
    exact congrArg some e

theorem ObjM.look {h : Heap} {x dx C : Addr} {mA : Str → Option Value} (I : ObjM h x dx C mA) : ∃ od, PySem.W.InstAt h x (PySem.W.instObj C dx) C (some od) ∧ ∀ name, PySem.W.lookIn name od = some (mA name) :=
  let ⟨od, ho, hl⟩ := lookIn_ns I.ns
  ⟨od, ⟨I.obj, rfl, rfl, ho⟩, hl⟩

section
variable {prog : Program} {w : World} {A : Around} {E : Value → Shared → Prop} {s : Shared} {K : PySem.W.Frag} {x dx C f : Addr} {mA : Str → Option Value} {name : Str} {v : Value}

end

/-! ### the attributes as a list of pairs -/
section
variable {P : Program} {w : World} {H H' : Hp} {h h' : Heap} {a C dx : Addr} {fs fs' : List (Str × V)}
theorem ins_get (hok : HOk P w H h) (e : H a = some (.ins C dx fs)) : ∃ mA, ObjM h a dx C mA ∧ (∀ f, RelO (fs.lookup f) (mA f)) ∧ PySem.Within mA (fs.map (·.1)) ∧ fs.length ≤ 1000 ∧ H dx = some (.own a) := by
  obtain ⟨d, z, ne, ob, mA, n, r, q⟩ := (show ObjOk P w H h a (.ins C dx fs) from hok a _ e)
  exact ⟨mA, ⟨ob, n, ne⟩, r, q, z, d⟩
end

/-! ### what of the text a class must have -/
structure Cls (K : PySem.W.Frag) (C : Addr) : Prop where
  pg : PySem.W.plainGet K C Str.empty = true
  hd : PySem.W.hasDictIn K C = true
  po : PySem.W.plainOver K C = true
  sa : PySem.W.findIn K (.ref C) "__setattr__" = some (some (.builtin "object.__setattr__"))
theorem Cls.get {K : PySem.W.Frag} {C : Addr} (c : Cls K C) (f : Str) : PySem.W.plainGet K C f = true := c.pg
section
variable {X : Cx} {pins : List (Addr × Obj)} {σ : St} {H : Hp} {s : Shared} {a C dx : Addr} {fs : List (Str × V)} {f : Str} {v : V} {A : Around} {E : Value → Shared → Prop}

end

/-! ### readings and rules -/
section
variable {X : Cx} {o e value : Expr} {f : Str} {pos pos' tpos : Pos} {ta tv : TE}
end

/-! ### isinstance -/
section
variable {X : Cx} {pins : List (Addr × Obj)} {σ : St} {H : Hp} {s : Shared} {A : Around} {E : Value → Shared → Prop} {Q : Value → Shared → Prop} {c : Value} {b : Bool}
/-- the type of a value, as the fragment's deciders take it; for an instance its class -/
inductive TyOf (K : PySem.W.Frag) (H : Hp) : V → Value → Prop where
  | non : TyOf K H .non (.type "NoneType")
  | bl (x : Bool) : TyOf K H (.bl x) (.type "bool")
  | int (i : Int) : TyOf K H (.int i) (.type "int")
  | str (x : Str) : TyOf K H (.str x) (.type "str")
  | flt (x : UInt64) : TyOf K H (.flt x) (.type "float")
  | lst {a : Addr} {xs : List V} (e : H a = some (.lst xs)) : TyOf K H (.ref a) (.type "list")
  | frz {a : Addr} {o : Obj} {xs : List V} (e : H a = some (.frz o (.lst xs))) : TyOf K H (.ref a) (.type "list")
  | tup {a : Addr} {xs : List V} (e : H a = some (.tup xs)) : TyOf K H (.ref a) (.type "tuple")
  | dK {a : Addr} {kvs : List (Key × V)} (e : H a = some (.dK kvs)) : TyOf K H (.ref a) (.type "dict")
  | dT {a : Addr} {kvs : List (List Key × V)} (e : H a = some (.dT kvs)) : TyOf K H (.ref a) (.type "dict")
  | ins {a C dx : Addr} {fs : List (Str × V)} (e : H a = some (.ins C dx fs)) (cl : Cls K C) (ha : PySem.W.findIn K (.ref C) "__class__" = some (some (.builtin "object.__class__")))
      (hn : PySem.W.specialIn K (.builtin "object.__class__") "__get__" = some (some (.builtin "getset_descriptor.__get__"))) (htk : PySem.W.takesIn K (.builtin "object.__class__") = some true)
      (hm : PySem.W.mroIn K C (.type "object") = some true) : TyOf K H (.ref a) (.ref C)
/-- isinstance(x, c) for one class c, a built-in or an own one: kitOne's answer -/
theorem isinst_ok {x : V} {u t : Value} (I : Inv X pins σ H s) (rx : RelV x u) (ty : TyOf X.K H x t) (e : PySem.W.kitOne X.K t c = some b) (h : ∀ tk, Q (.bool b) { s with toks := tk }) :
    wpAny (model X.prog X.w) A (call (.builtin "isinstance") [u, c]) Q E s := by
  cases ty with
  | non => cases (show u = Value.none from rx); exact PySem.W.kia_one PySem.W.kitx_none I.kIn True.intro e (fun z => nomatch z) h
  | bl y => cases (show u = Value.bool y from rx); exact PySem.W.kia_one PySem.W.kitx_bool I.kIn True.intro e (fun z => nomatch z) h
  | int i => obtain ⟨t, q⟩ := (show ∃ t, u = Value.int i t from rx); cases q; exact PySem.W.kia_one PySem.W.kitx_int I.kIn True.intro e (fun z => nomatch z) h
  | str y => obtain ⟨t, q⟩ := (show ∃ t, u = Value.str y t from rx); cases q; exact PySem.W.kia_one PySem.W.kitx_str I.kIn True.intro e (fun z => nomatch z) h
  | flt y => obtain ⟨t, q⟩ := (show ∃ t, u = Value.float y t from rx); cases q; exact PySem.W.kia_one PySem.W.kitx_float I.kIn True.intro e (fun z => nomatch z) h
  | @lst a xs ea =>
    cases (show u = Value.ref a from rx)
    obtain ⟨_, _, n, _, h1⟩ := (show ObjOk X.prog X.w H s.heap a (.lst xs) from I.hok a _ ea)
    exact PySem.W.kia_one PySem.W.kitx_list I.kIn ⟨_, h1, rfl⟩ e (fun z => nomatch z) h
  | @frz a ob xs ea =>
    cases (show u = Value.ref a from rx)
    obtain ⟨_, _, _, n, _, h1⟩ := (show ObjOk X.prog X.w H s.heap a (.frz ob (.lst xs)) from I.hok a _ ea)
    exact PySem.W.kia_one PySem.W.kitx_list I.kIn ⟨_, h1, rfl⟩ e (fun z => nomatch z) h
  | @tup a xs ea =>
    cases (show u = Value.ref a from rx)
    obtain ⟨_, _, _, p⟩ := (show ObjOk X.prog X.w H s.heap a (.tup xs) from I.hok a _ ea)
    obtain ⟨o, h1, h2, _⟩ := p
    exact PySem.W.kia_one PySem.W.kitx_tuple I.kIn ⟨o, h1, h2⟩ e (fun z => nomatch z) h
  | @dK a kvs ea =>
    cases (show u = Value.ref a from rx)
    obtain ⟨_, _, vs, _, p⟩ := (show ObjOk X.prog X.w H s.heap a (.dK kvs) from I.hok a _ ea)
    obtain ⟨o, es, ep, h1, h2, _⟩ := p
    exact PySem.W.kia_one PySem.W.kitx_dict I.kIn ⟨o, h1, h2.1⟩ e (fun z => nomatch z) h
  | @dT a kvs ea =>
    cases (show u = Value.ref a from rx)
    obtain ⟨_, _, xs, _, o, es, ep, h1, h2, _⟩ := (show ObjOk X.prog X.w H s.heap a (.dT kvs) from I.hok a _ ea)
    exact PySem.W.kia_one PySem.W.kitx_dict I.kIn ⟨o, h1, h2.1⟩ e (fun z => nomatch z) h
  | @ins a C dx fs ea cl ha hn htk hm =>
    cases (show u = Value.ref a from rx)
    obtain ⟨mA, O, _⟩ := ins_get I.hok ea
    obtain ⟨od, J, _⟩ := O.look
    exact PySem.W.kia_one (PySem.W.kitx_own (cl.get _) cl.hd ha hn htk hm) I.kIn J e (fun z => nomatch z) h
end
end L2

namespace L2
open PySem PySem.Spec PyProof.Rows

/-! ### room -/
structure Room (k : Nat) (A : Around) : Prop where
  hd : A.handled = none
  dp : A.depth + 3 * k + 5 < recursionLimit
  un : A.units + 16 * k + 200 < cLine
theorem Room.mono {j k : Nat} {A : Around} (r : Room k A) (h : j ≤ k) : Room j A := ⟨r.hd, by have := r.dp; omega, by have := r.un; omega⟩
theorem Room.deeper {k : Nat} {A : Around} (r : Room (k + 1) A) (env : Env) : Room k (A.deeper env) :=
  ⟨r.hd, by have := r.dp; show A.depth + 1 + 3 * k + 5 < _; omega, by have := r.un; show A.units + 3 + 16 * k + 200 < _; omega⟩
theorem Room.depth {k : Nat} {A : Around} (r : Room k A) : A.depth < recursionLimit := by have := r.dp; omega
theorem Room.units {k : Nat} {A : Around} (r : Room k A) : A.units + 64 < cLine := by have := r.un; omega
/-! ### argument lists and displays -/
def tNil : TA := fun _ H Q => Q [] H
def tCons (ta : TE) (tr : TA) : TA := fun σ H Q => ta σ H fun x H1 => tr σ H1 fun xs H2 => Q (x :: xs) H2
section
variable {X : Cx} {e : Expr} {es : List Expr} {te : TE} {t : TA} {pos : Pos}
theorem pa_nil : PA X [] tNil := fun _ _ _ _ H Q I h => Calls.spliced_nil ⟨[], H, I, .nil, h⟩
theorem pa_cons (ha : PE X e te) (hr : PA X es t) (hs : starEach (e :: es) X.env = (false, eval e X.env) :: starEach es X.env := by rfl) : PA X (e :: es) (tCons te t) := by
  intro pos pins s σ H Q I h
  rw [hs]
  show wpAny _ _ (spliced ((false, eval e X.env) :: backTo pos (starEach es X.env))) _ _ s
  refine Calls.spliced_cons (thn (ha pins s σ H _ I h) fun u s1 ⟨x, H1, I1, r1, q1⟩ => ?_)
  exact thn (hr pos pins s1 σ H1 _ I1 q1) fun us s2 ⟨xs, H2, I2, r2, q2⟩ => ⟨x :: xs, H2, I2, .cons r1 r2, q2⟩

/-- a tuple, a list of written items -/
def tTup (t : TA) : TE := fun σ H Q => t σ H fun xs H1 => xs.length ≤ sizeLine ∧ ∀ p, H1 p = none → Q (.ref p) (upd H1 p (.tup xs))
def tLst (t : TA) : TE := fun σ H Q => t σ H fun xs H1 => xs.length ≤ sizeLine ∧ ∀ p, H1 p = none → Q (.ref p) (upd H1 p (.lst xs))
theorem pe_tup {x1} (h : PA X es t) : PE X (.Tuple es x1 pos) (tTup t) := by
  intro pins s σ H Q I hq
  refine wpAny_Tuple_spliced (thn (h pos pins s σ H _ I hq) fun us s1 ⟨xs, H1, I1, r, z, q⟩ => ⟨by rw [← r.length]; exact z, ?_⟩)
  have hf : H1 s1.heap.objs.size = none := I1.hok.fresh (Nat.le_refl _)
  refine ⟨.ref s1.heap.objs.size, upd H1 s1.heap.objs.size (.tup xs), I1.laid (t' := s1.toks) (fun b u e => Heap.get?_push_of_some _ e) (Nat.le_refl _) ?_, rfl, q _ hf⟩
  exact ⟨z, us, r, ⟨_, Heap.get?_push_size _ rfl, rfl, _, rfl⟩⟩
theorem pe_lst (h : PA X es t) : PE X (.List es pos) (tLst t) := by
  intro pins s σ H Q I hq
  refine wpAny_List_spliced (thn (h pos pins s σ H _ I hq) fun us s1 ⟨xs, H1, I1, r, z, q⟩ => ⟨by rw [← r.length]; exact z, ?_⟩)
  have hf : H1 s1.heap.objs.size = none := I1.hok.fresh (Nat.le_refl _)
  refine ⟨.ref s1.heap.objs.size, upd H1 s1.heap.objs.size (.lst xs), I1.laid (t' := s1.toks) (fun b u e => Heap.get?_push_of_some _ e) (Nat.le_refl _) ?_, rfl, q _ hf⟩
  exact ⟨z, us, 0, r, Heap.get?_push_size _ rfl⟩
end

/-! ### what a def promises -/
/-- a def's promise: the bound arguments in the parameters' order, the heap, the wanted end, the wanted exception -/
abbrev Sp := List V → Hp → VK → XK → Prop
/-- how an exception lies behind a call (file 08 gives it): the callers' frames, abstract heap and state ahead of the call, the wish, the exception, the state -/
abbrev CXT := List Env → Hp → Shared → XK → Value → Shared → Prop

/-- the state at a call -/
structure Env0 (P : Program) (w : World) (K : PySem.W.Frag) (mg : Str → Option Value) (base : Heap) (A : Around) (outer : List Env) (s : Shared) (H : Hp) : Prop where
  frames : A.frames = some outer
  mod : Mod K mg base
  bs : ∀ b o, base.get? b = some o → s.heap.get? b = some o ∧ H b = none
  bsz : base.objs.size ≤ s.heap.objs.size
  funs : s.heap.FunFrames base outer
  frf : ∀ b ∈ frs outer, H b = none
  hok : HOk P w H s.heap
  bare : AllBare s.gens
/-- a call's end -/
def CE (outer : List Env) (P : Program) (w : World) (H : Hp) (s : Shared) (Q : VK) (u : Value) (s' : Shared) : Prop :=
  ∃ v H', s'.os = s.os ∧ AllBare s'.gens ∧ Un (frs outer) [] H H' s.heap s'.heap ∧ HOk P w H' s'.heap ∧ RelV v u ∧ Q v H'
def CR (CX : CXT) (outer : List Env) (P : Program) (w : World) (H : Hp) (s : Shared) (Q : VK) (E : XK) (r : Result) (s' : Shared) : Prop :=
  match r with
  | .ok (.ret u) => CE outer P w H s Q u s'
  | .ok _ => False
  | .error e => CX outer H s E e s'
structure FnOk (P : Program) (w : World) (K : PySem.W.Frag) (mg : Str → Option Value) (base : Heap) (CX : CXT) (k : Nat) (f : Addr) (fd : FuncData) (ps : List Str) (sp : Sp) : Prop where
  len : ∀ vs H Q E, sp vs H Q E → vs.length = ps.length
  run : ∀ (A : Around) (outer : List Env) (s : Shared) (H : Hp) (args : Args) (us : List Value) (vs : List V) (Q : VK) (E : XK), Room k A → Env0 P w K mg base A outer s H → BindsTo s fd args (ps.zip us) → Vals vs us → sp vs H Q E →
    codeAny (model P w) A (.call (.ref f) args) (CR CX outer P w H s Q E) s
section
variable {X : Cx} {pins : List (Addr × Obj)} {σ : St} {H : Hp} {s s' : Shared}
/-- from a body: what a callee wants -/
theorem Inv.env0 (I : Inv X pins σ H s) : Env0 X.prog X.w X.K X.mg X.base X.A X.stack s H :=
  ⟨I.ok.frames, I.ok.mod, I.bs, Nat.le_trans I.ok.bsz I.sz, I.stack, I.stkFree, I.hok, I.bare⟩
/-- behind a call -/
theorem Inv.after {Q : VK} {u : Value} (I : Inv X pins σ H s) (h : CE X.stack X.prog X.w H s Q u s') : EP X pins σ Q u s' := by
  obtain ⟨v, H', os, bare, un, hok, r, q⟩ := h
  obtain ⟨hh, g, d, t, os'⟩ := s'
  obtain rfl : os' = s.os := os
  exact ⟨v, H', I.call (h' := hh) (g' := g) (d' := d) (t' := t) (ch := []) un hok bare (fun b z => absurd z (by simp)), r, q⟩
end

/-! ### calls -/
/-- f(..): the written arguments, then the defaults dvs; E: what is wanted of an exception -/
def tCall (sp : Sp) (dvs : List V) (E : XK) (t : TA) : TE := fun σ H Q => t σ H fun vs H1 => sp (vs ++ dvs) H1 Q E
/-- how the parameters are bound: us the positional arguments, kw the keywords' values by name, ds the defaults that fill up -/
def Binds (K : PySem.W.Frag) (fd : FuncData) (ps : List Str) (ds : List Value) : Prop :=
  ∀ (s : Shared) (us : List Value), K.In s.heap → (us ++ ds).length = ps.length → BindsTo s fd ⟨us, []⟩ (ps.zip (us ++ ds))
/-- every parameter is given -/
theorem Binds.all {K : PySem.W.Frag} {fd : FuncData} {ps : List Str} (h : ∀ us : List Value, us.length = ps.length → bindArgs fd ⟨us, []⟩ = pure (ps.zip us)) : Binds K fd ps [] := fun s us _ hl => by
  rw [List.append_nil] at hl ⊢
  exact .of_eq (h us hl)

/-- an exception of a callee reaches what this body wants of exceptions -/
def Passes (CX : CXT) (X : Cx) (E : XK) : Prop := ∀ (pins : List (Addr × Obj)) (σ : St) (H : Hp) (s : Shared) (e : Value) (s' : Shared), Inv X pins σ H s → CX X.stack H s E e s' → X.xe e s'

section
variable {X : Cx} {CX : CXT} {k : Nat} {f C : Addr} {fd : FuncData} {ps : List Str} {sp : Sp} {dvs : List V} {ds : List Value} {E : XK} {x m : Str} {p pos apos : Pos} {e o : Expr} {es : List Expr} {ta : TE} {t : TA}

/-- the callee runs -/
theorem run_fn {pins : List (Addr × Obj)} {σ : St} {H : Hp} {s : Shared} {Q : VK} {us : List Value} {vs : List V} (F : FnOk X.prog X.w X.K X.mg X.base CX k f fd ps sp) (hr : Room k X.A) (hb : Binds X.K fd ps ds) (hd : Vals dvs ds) (hx : Passes CX X E)
    (I : Inv X pins σ H s) (r : Vals vs us) (h : sp (vs ++ dvs) H Q E) : wpAny (model X.prog X.w) X.A (call (.ref f) us) (EP X pins σ Q) X.xe s := by
  have r2 : Vals (vs ++ dvs) (us ++ ds) := r.append hd
  have hl : (us ++ ds).length = ps.length := by rw [← r2.length]; exact F.len _ _ _ _ h
  refine wpAny_call (codeAny_mono (F.run X.A X.stack s H ⟨us, []⟩ (us ++ ds) (vs ++ dvs) Q E hr I.env0 (hb s us I.kIn hl) r2 h) fun r s' hq => ?_)
  cases r with
  | error e => exact hx pins σ H s e s' I hq
  | ok fl =>
    cases fl with
    | ret u => exact I.after hq
    | next => exact False.elim hq
    | brk => exact False.elim hq
    | cont => exact False.elim hq

theorem pe_call (F : FnOk X.prog X.w X.K X.mg X.base CX k f fd ps sp) (hr : Room k X.A) (hg : Gl X x) (hm : X.mg x = some (.ref f)) (hk : PySem.W.keepIn X.K (.ref f) = true) (hb : Binds X.K fd ps ds) (hd : Vals dvs ds) (hx : Passes CX X E)
    (ha : PA X (e :: es) t) (hdb : (x == ("__debug__" : Str)) = false := by decide) (he : starEach (e :: es) X.env = (false, eval e X.env) :: starEach es X.env := by rfl) (hpl : (backTo pos (starEach es X.env)).any (·.1) = false := by rfl) :
    PE X (.Call (.Name x p) (e :: es) [] pos) (tCall sp dvs E t) := by
  intro pins s σ H Q I h
  refine wpAny_Call_Name_kw (ld_glob I hg hm ?_ hdb)
  refine PySem.W.callWith_K (h₀ := X.base) I.ok.mod.kin hk (thn (ha pos pins s σ H _ I h) fun us s1 ⟨vs, H1, I1, r, q⟩ => ⟨I1.kIn, ?_⟩) he hpl
  exact run_fn F hr hb hd hx I1 r q
end

/-! ### keywords -/
section
variable {X : Cx} {CX : CXT} {k : Nat} {f C : Addr} {fd : FuncData} {ps ks : List Str} {sp : Sp} {E : XK} {x m : Str} {p pos apos kpos : Pos} {e o : Expr} {es : List Expr} {kws : List Keyword} {te ta : TE} {t tk : TA} {nm : Option Str}
variable {g : List Value → List Value → List Value} {gV : List V → List V → List V}
end

/-! ### a def's body keeps its promise -/
/-- names: the parameters first -/
structure FnScope (N P : List Str) (sc : Scope) : Prop where
  kind : sc.kind = .function
  co : sc.isCoroutine = false
  gen : sc.isGenerator = false
  nd : N.Nodup
  pre : N.take P.length = P
  par : ∀ x ∈ P, sc.names.lookup x = some .local ∨ sc.names.lookup x = some .cell
  nofree : ∀ y ∈ sc.names, y.2 ≠ .free

theorem bindL_out {kindOf : Str → Option NameKind} {x : Str} : ∀ {binds : List (Str × Value)} {m : Str → Option Value}, (∀ v, (x, v) ∉ binds) → bindL kindOf binds m x = m x
  | [], _, _ => rfl
  | (n, v) :: r, m, h => by
    unfold bindL
    rw [bindL_out fun w hw => h w (List.mem_cons_of_mem _ hw)]
    split
    · have : x ≠ n := by rintro rfl; exact h v List.mem_cons_self
      simp [this]
    · rfl
theorem bindC_out {kindOf : Str → Option NameKind} {x : Str} : ∀ {binds : List (Str × Value)} {m : Str → Option Value}, (∀ v, (x, v) ∉ binds) → bindC kindOf binds m x = m x
  | [], _, _ => rfl
  | (n, v) :: r, m, h => by
    unfold bindC
    rw [bindC_out fun w hw => h w (List.mem_cons_of_mem _ hw)]
    split
    · rfl
    · have : x ≠ n := by rintro rfl; exact h v List.mem_cons_self
      simp [this]
theorem bindL_get {kindOf : Str → Option NameKind} {x : Str} {v : Value} : ∀ {P : List Str} {vs : List Value} {i : Nat} {m : Str → Option Value}, P.Nodup → P[i]? = some x → vs[i]? = some v → kindOf x = some .local →
    bindL kindOf (P.zip vs) m x = some v
  | [], _, _, _, _, h, _, _ => by simp at h
  | _ :: _, [], _, _, _, _, h, _ => by simp at h
  | p :: P, w :: vs, 0, m, nd, h1, h2, hk => by
    simp at h1 h2; subst h1; subst h2
    show bindL kindOf ((p, w) :: P.zip vs) m p = _
    unfold bindL
    rw [bindL_out fun v hv => (List.nodup_cons.mp nd).1 (List.of_mem_zip hv).1, if_pos hk]
    simp
  | p :: P, w :: vs, i + 1, m, nd, h1, h2, hk => by
    show bindL kindOf ((p, w) :: P.zip vs) m x = _
    unfold bindL
    exact bindL_get (i := i) (List.nodup_cons.mp nd).2 (by simpa using h1) (by simpa using h2) hk
theorem bindC_get {kindOf : Str → Option NameKind} {x : Str} {v : Value} : ∀ {P : List Str} {vs : List Value} {i : Nat} {m : Str → Option Value}, P.Nodup → P[i]? = some x → vs[i]? = some v → kindOf x ≠ some .local →
    bindC kindOf (P.zip vs) m x = some v
  | [], _, _, _, _, h, _, _ => by simp at h
  | _ :: _, [], _, _, _, _, h, _ => by simp at h
  | p :: P, w :: vs, 0, m, nd, h1, h2, hk => by
    simp at h1 h2; subst h1; subst h2
    show bindC kindOf ((p, w) :: P.zip vs) m p = _
    unfold bindC
    rw [bindC_out fun v hv => (List.nodup_cons.mp nd).1 (List.of_mem_zip hv).1, if_neg hk]
    simp
  | p :: P, w :: vs, i + 1, m, nd, h1, h2, hk => by
    show bindC kindOf ((p, w) :: P.zip vs) m x = _
    unfold bindC
    exact bindC_get (i := i) (List.nodup_cons.mp nd).2 (by simpa using h1) (by simpa using h2) hk

/-- the names' values at the entry -/
def start (N : List Str) (vs : List V) : St := vs.map some ++ List.replicate (N.length - vs.length) none

/-- the context of a def's body, at its entry; an exception leaves the frame, then lies as CX says -/
def cxOf (CX : CXT) (P : Program) (w : World) (K : PySem.W.Frag) (mg : Str → Option Value) (base : Heap) (N : List Str) (qual : Str) (scope : Scope) (f : Addr) (cd : Value) (A : Around) (outer : List Env) (s : Shared) (H : Hp) (E : XK) : Cx where
  prog := P
  w := w
  K := K
  mg := mg
  base := base
  A := A.deeper (envOfC qual scope s.heap.objs.size f cd)
  N := N
  s₀ := s
  H₀ := H
  env := envOfC qual scope s.heap.objs.size f cd
  outer := outer
  stack := envOfC qual scope s.heap.objs.size f cd :: outer
  ex := []
  calm := true
  fn := fun _ => true
  pn := []
  xe := fun e s' => wpAny (model P w) (A.deeper (envOfC qual scope s.heap.objs.size f cd)) (leaving (envOfC qual scope s.heap.objs.size f cd) e) (fun _ s'' => CX outer H s E e s'') (fun e' s'' => CX outer H s E e' s'') s'

theorem cell_has {sc : Scope} {n : Nat} {x : Str} (h : sc.names.lookup x = some .cell) : ∃ c, (cellsFrom n sc.names []).lookup x = some c := by
  have q := PySem.W.cellsFrom_some sc.names n [] (.inl h)
  exact Option.isSome_iff_exists.mp q

theorem inv_start {CX : CXT} {P : Program} {w : World} {K : PySem.W.Frag} {mg : Str → Option Value} {base : Heap} {N ps : List Str} {qual : Str} {scope : Scope} {f : Addr} {cd : Value} {A : Around} {outer : List Env} {s s1 : Shared} {H : Hp} {E : XK} {us : List Value} {vs : List V}
    (S : FnScope N ps scope) (hd : A.handled = none) (e0 : Env0 P w K mg base A outer s H) (hl : vs.length = ps.length) (r : Vals vs us)
    (x : InCallC s s.heap.objs.size (bindL (envOfC qual scope s.heap.objs.size f cd).kindOf (ps.zip us) fun _ => none) (cellsFrom (s.heap.objs.size + 1) scope.names []) (bindC (envOfC qual scope s.heap.objs.size f cd).kindOf (ps.zip us) fun _ => none) s1) :
    Inv (cxOf CX P w K mg base N qual scope f cd A outer s H E) [] (start N vs) H s1 := by
  have hpl : ps.length ≤ N.length := by have := congrArg List.length S.pre; rw [List.length_take] at this; omega
  obtain ⟨h1, tk, rfl, hk⟩ := x.done
  have noA : ∀ b : Addr, b ∉ (cxOf CX P w K mg base N qual scope f cd A outer s H E).ex := fun b z => absurd (show b ∈ ([] : List Addr) from z) (by simp)
  refine ⟨⟨e0.mod, S.kind, rfl, rfl, Nat.le_refl _, fun y z c h1 h2 => ?_, fun y hy => ?_, fun y c _ h => ?_, fun _ => hd, Around.frames_deeper e0.frames, .inr ⟨rfl, rfl⟩, fun b z => absurd z (noA b), e0.bs, e0.bsz, fun b _ _ => noA b, fun b z => absurd z (noA b), e0.funs, e0.frf⟩,
    rfl, e0.bare, Un.kept hk, ⟨_, x.toInCall.ns, fun i y v h1 h2 h3 => ?_⟩, fun y c h => ⟨_, x.cell y c h⟩, e0.hok.fresh (Nat.le_refl _), fun y c h => ?_, fun p hp => absurd (show p ∈ ([] : List (Addr × Obj)) from hp) (by simp), e0.hok.kept hk, ?_⟩
  · exact name_of_addr x.apart (PySem.mem_of_lookup h1) (PySem.mem_of_lookup h2)
  · have hy : scope.names.lookup y = some .cell ∨ scope.names.lookup y = some .free := hy
    rcases hy with hy | hy
    · exact cell_has hy
    · exact absurd rfl (S.nofree _ (PySem.mem_of_lookup hy))
  · exact Nat.le_of_lt (x.above y c (PySem.mem_of_lookup h))
  · have hi : i < vs.length := by
      unfold start at h2
      by_cases hi : i < vs.length
      · exact hi
      · rw [List.getElem?_append_right (by simpa using hi)] at h2
        rw [List.getElem?_replicate] at h2
        split at h2 <;> cases h2
    have ha : vs[i]? = some v := by
      unfold start at h2
      rw [List.getElem?_append_left (by simpa using hi), List.getElem?_map] at h2
      cases e : vs[i]? with
      | none => rw [e] at h2; cases h2
      | some a => rw [e] at h2; cases h2; rfl
    obtain ⟨u, hu, rv⟩ := r.get ha
    have hp : ps[i]? = some y := by
      rw [← S.pre, List.getElem?_take_of_lt (by omega)]; exact h1
    have ndP : ps.Nodup := by rw [← S.pre]; exact S.nd.sublist (List.take_sublist _ _)
    refine ⟨u, rv, ?_⟩
    rcases S.par y (List.mem_of_getElem? hp) with k | k
    · exact .inl ⟨k, bindL_get ndP hp hu k⟩
    · obtain ⟨c, e⟩ := cell_has (n := s.heap.objs.size + 1) k
      refine .inr ⟨.inl k, c, e, ?_⟩
      have q := x.cell y c e
      rw [bindC_get ndP hp hu (by show scope.names.lookup y ≠ _; rw [k]; decide)] at q
      exact q
  · exact e0.hok.fresh (Nat.le_of_lt (x.above y c (PySem.mem_of_lookup h)))
  · unfold start
    show _ = N.length
    rw [List.length_append, List.length_map, List.length_replicate]
    omega

/-- THE RULE: a def (or a method) of the text, by its body. The body's reading t is chosen for each entry; it is run at the parameters' values -/
theorem fn_of {CX : CXT} {P : Program} {w : World} {K : PySem.W.Frag} {mg : Str → Option Value} {base : Heap} {k : Nat} {f : Addr} {name qual : Str} {params : Arguments} {body : List Stmt} {scope : Scope} {dV kV doc pm cdv ct oc : Value} {an od : Option Addr}
    {osl : Array (Option Value)} {N ps : List Str} {sp : Sp} (lk : K.lookup f = some ⟨oc, od, .func (PySem.W.fnOf name qual params body scope dV kV doc pm an cdv ct), osl⟩) (hcd : PySem.W.codeIn K cdv qual = true) (S : FnScope N ps scope)
    (len : ∀ vs H Q E, sp vs H Q E → vs.length = ps.length)
    (hbody : ∀ (A : Around) (outer : List Env) (s : Shared) (H : Hp) (vs : List V) (Q : VK) (E : XK), Room k (A.deeper (envOfC qual scope s.heap.objs.size f cdv)) → sp vs H Q E →
      ∃ t, PSs (cxOf CX P w K mg base N qual scope f cdv A outer s H E) body t ∧ t { nx := fun _ H' => Q .non H', rt := Q } (start N vs) H) :
    FnOk P w K mg base CX (k + 1) f (PySem.W.fnOf name qual params body scope dV kV doc pm an cdv ct) ps sp := by
  refine ⟨len, fun A outer s H args us vs Q E hr e0 hb r hsp => ?_⟩
  have hl := len _ _ _ _ hsp
  have KX : K.In s.heap := e0.mod.kin.keeps fun b o e => (e0.bs b o e).1
  have lim : s.heap.NoLimit := e0.mod.nolimit.keeps fun b o e => (e0.bs b o e).1
  have hkind : ∀ y ∈ ps.zip us, scope.names.lookup y.1 = some .local ∨ (scope.names.lookup y.1 = some .cell ∧ ((cellsFrom (s.heap.objs.size + 1) scope.names []).lookup y.1).isSome = true) := fun ⟨n, v⟩ hy => by
    rcases S.par n (List.of_mem_zip hy).1 with q | q
    · exact .inl q
    · exact .inr ⟨q, PySem.W.cellsFrom_some _ _ _ (.inl q)⟩
  refine codeAny_call_function hr.depth (KX _ _ lk) rfl S.co S.gen rfl (PySem.W.codeRec_of KX hcd) (hb _ _ _ _ ?_)
  refine wpAny_newFunctionEnv_cells S.kind hkind fun env he s1 x => ?_
  subst he
  refine ⟨lim.keeps x.toInCall.keep, codeAny_func ?_⟩
  obtain ⟨t, ht, hq⟩ := hbody A outer s H vs Q E (hr.deeper _) hsp
  have I : Inv (cxOf CX P w K mg base N qual scope f cdv A outer s H E) [] (start N vs) H s1 := inv_start S hr.hd e0 hl r x
  refine wpAny_mono (ht [] s1 (start N vs) H _ I hq) (fun fl s' hs => ?_) fun e s' hs => hs
  have fin : ∀ {σ' : St} {H' : Hp} {v : V} {u : Value}, Inv (cxOf CX P w K mg base N qual scope f cdv A outer s H E) [] σ' H' s' → RelV v u → Q v H' → CE outer P w H s Q u s' :=
    fun {σ' H' v u} J rv q => ⟨v, H', J.os, J.bare, J.base, J.hok, rv, q⟩
  cases fl with
  | ret u =>
    obtain ⟨v, σ', H', J, rv, q⟩ := hs
    exact fin J rv q
  | next =>
    obtain ⟨σ', H', J, q⟩ := hs
    exact fin (v := V.non) (u := Value.none) J rfl q
  | brk =>
    obtain ⟨_, _, _, q⟩ := hs
    exact False.elim q
  | cont =>
    obtain ⟨_, _, _, q⟩ := hs
    exact False.elim q
end L2

namespace L2
open PySem PySem.Spec PyProof.Rows
section
variable {X : Cx} {x : Str} {p pos : Pos} {e : Expr} {es : List Expr} {t : TA} {id T : String} {r : List V → Hp → VK → Prop}

def tCB (r : List V → Hp → VK → Prop) (t : TA) : TE := fun σ H Q => t σ H fun vs H1 => r vs H1 Q
/-- f(e, ..), f a built-in function -/
theorem pe_callB (hc : CallR X (.builtin id) r) (hg : Gl X x) (hm : X.mg x = none) (hv : bootBuiltins x = some (.builtin id)) (ha : PA X (e :: es) t) (hn : x ≠ "__name__" := by decide) (hdb : (x == ("__debug__" : Str)) = false := by decide)
    (he : starEach (e :: es) X.env = (false, eval e X.env) :: starEach es X.env := by rfl) (hpl : (backTo pos (starEach es X.env)).any (·.1) = false := by rfl) : PE X (.Call (.Name x p) (e :: es) [] pos) (tCB r t) := by
  intro pins s σ H Q I h
  refine wpAny_Call_Name_kw (ld_blt I hg hm hv ?_ hn hdb)
  exact PyProof.Rows.callWith_builtin1 (thn (ha pos pins s σ H _ I h) fun us s1 ⟨vs, H1, I1, r1, q1⟩ => hc pins s1 σ H1 vs us Q I1 r1 q1) he hpl
/-- T(e, ..), T a built-in type -/
theorem pe_callTy (hc : CallR X (.type T) r) (hg : Gl X x) (hm : X.mg x = none) (hv : bootBuiltins x = some (.type T)) (ha : PA X (e :: es) t) (hn : x ≠ "__name__" := by decide) (hdb : (x == ("__debug__" : Str)) = false := by decide)
    (he : starEach (e :: es) X.env = (false, eval e X.env) :: starEach es X.env := by rfl) (hpl : (backTo pos (starEach es X.env)).any (·.1) = false := by rfl) : PE X (.Call (.Name x p) (e :: es) [] pos) (tCB r t) := by
  intro pins s σ H Q I h
  refine wpAny_Call_Name_kw (ld_blt I hg hm hv ?_ hn hdb)
  exact PyProof.Rows.callWith_type1 (thn (ha pos pins s σ H _ I h) fun us s1 ⟨vs, H1, I1, r1, q1⟩ => hc pins s1 σ H1 vs us Q I1 r1 q1) he hpl
end
end L2

namespace HT
open PySem PyProof.Rows

/-- t < u of tuples of ints -/
def lexLt : List Int → List Int → Bool
  | [], [] => false
  | [], _ :: _ => true
  | _ :: _, [] => false
  | x :: xs, y :: ys => if x = y then lexLt xs ys else decide (x < y)
theorem lexLt_cons (x y : Int) (xs ys : List Int) : lexLt (x :: xs) (y :: ys) = if x = y then lexLt xs ys else decide (x < y) := rfl
theorem lexLt_nil_nil : lexLt [] [] = false := rfl
theorem lexLt_nil_cons (y : Int) (ys : List Int) : lexLt [] (y :: ys) = true := rfl
theorem lexLt_cons_nil (x : Int) (xs : List Int) : lexLt (x :: xs) [] = false := rfl

theorem eqAt_int (A : Around) (s : Shared) (a : Int) (t : Tok) (c : Int) (u : Tok) : ∃ e, SeqAt.EqAt A s (.int a t) (.int c u) e ∧ (e = true ↔ a = c) :=
  ⟨(a == c), SeqAt.EqAt.int_int a t c u, by simp⟩
section
open PySem.SeqAt
open PySem.AutoSeq1 (wpAny_loadPart')
open PySem.MeetsSeq PySem.MeetsSeq2 PySem.MeetsSeq3

end

section
variable {prog : Program} {w : World} {A : Around} {E : Value → Shared → Prop} {s : Shared}

/-! ### t[a:b], not the whole -/
/-- a slice's bound as a place among n (d where it is left out) -/
def sIx (n d : Nat) : Option Int → Nat
  | none => d
  | some v => if v < 0 then (v + (n : Int)).toNat else min v.toNat n
theorem sIx_le (n d : Nat) (hd : d ≤ n) (o : Option Int) : sIx n d o ≤ n := by
  cases o with
  | none => exact hd
  | some v =>
    show (if v < 0 then (v + (n : Int)).toNat else min v.toNat n) ≤ n
    by_cases hv : v < 0
    · rw [if_pos hv]; omega
    · rw [if_neg hv]; exact Nat.min_le_right _ _
theorem clip_eq (v : Int) (n d : Nat) : (if v < 0 then max (v + (n : Int)) 0 else min v (n : Int)) = ((sIx n d (some v) : Nat) : Int) := by
  show (if v < 0 then max (v + (n : Int)) 0 else min v (n : Int)) = (((if v < 0 then (v + (n : Int)).toNat else min v.toNat n) : Nat) : Int)
  by_cases hv : v < 0
  · simp only [if_pos hv]; omega
  · simp only [if_neg hv]; omega
theorem adjust_gen (lo hi : Option Int) (n : Nat) : Builtin.Slice.sliceAdjust lo hi 1 (n : Int) = (((sIx n 0 lo : Nat) : Int), ((sIx n n hi : Nat) : Int)) := by
  have h1 : ¬ ((1 : Int) < 0) := by omega
  unfold Builtin.Slice.sliceAdjust
  simp only [h1, if_false]
  refine Prod.ext ?_ ?_
  · cases lo with
    | none => rfl
    | some v => exact clip_eq v n 0
  · cases hi with
    | none => rfl
    | some v => exact clip_eq v n n
theorem places_gen (i j : Nat) : Builtin.Slice.slicePlaces (i : Int) (j : Int) 1 = j - i := by
  unfold Builtin.Slice.slicePlaces
  have h1 : (1 : Int) > 0 := by omega
  simp only [h1, if_true, Int.ediv_one]
  split <;> omega
theorem slicePart_ {v : Value} {o : Option Int} {Q : Option Int → Shared → Prop} (p : IsPart v o) (h : Q o s) : wpAny (model prog w) A (Builtin.Slice.slicePartIndex v) Q E s := by
  cases p with
  | none => exact slicePart_none h
  | int i t => exact slicePart_int h
theorem sliceApplied_gen {sl : Addr} {vl vu : Value} {lo hi : Option Int} {n : Nat} {Q : Int × Int × Nat → Shared → Prop} (hs : s.heap.IsSliceOf sl vl vu .none) (pl : IsPart vl lo) (pu : IsPart vu hi)
    (h : Q (((sIx n 0 lo : Nat) : Int), 1, sIx n n hi - sIx n 0 lo) s) : wpAny (model prog w) A (Builtin.Slice.sliceApplied (.ref sl) (pure (n : Int))) Q E s := by
  obtain ⟨os, hos, hcs, hds⟩ := id hs
  unfold Builtin.Slice.sliceApplied Builtin.Slice.sliceFields
  refine wpAny_bind (wpAny_bind (wpAny_field hos hds (x := vl) rfl (wpAny_bind (wpAny_field hos hds (x := vu) rfl (wpAny_bind (wpAny_field hos hds (x := .none) rfl (wpAny_pure ?_)))))))
  refine wpAny_bind (slicePart_none ?_)
  show wpAny _ _ (if ((1 : Int) == 0) = true then _ else _) _ _ s
  rw [if_neg (by decide)]
  refine wpAny_bind (slicePart_ pl (wpAny_bind (slicePart_ pu (wpAny_bind (wpAny_pure ?_)))))
  show wpAny _ _ (match Builtin.Slice.sliceAdjust lo hi 1 (n : Int) with | (lo, hi) => pure (lo, (1 : Int), Builtin.Slice.slicePlaces lo hi 1)) _ _ s
  rw [adjust_gen lo hi n]
  show wpAny _ _ (pure (((sIx n 0 lo : Nat) : Int), (1 : Int), Builtin.Slice.slicePlaces ((sIx n 0 lo : Nat) : Int) ((sIx n n hi : Nat) : Int) 1)) _ _ s
  rw [places_gen]
  exact wpAny_pure h
theorem pick_gen (xs : Array Value) (i k : Nat) : ((List.range k).filterMap fun (m : Nat) => xs[((i : Int) + (m : Int) * 1).toNat]?).toArray = ((xs.toList.drop i).take k).toArray := by
  have e : (fun (m : Nat) => xs[((i : Int) + (m : Int) * 1).toNat]?) = fun m => xs[i + m]? := by
    funext m
    have : ((i : Int) + (m : Int) * 1).toNat = i + m := by omega
    rw [this]
  rw [e]
  have := pick_run xs i k
  rw [List.filterMap_map] at this
  have e2 : ((fun x => xs[x]?) ∘ fun x => i + x) = fun m => xs[i + m]? := rfl
  rw [e2] at this
  rw [this]

theorem getItem_tuple_cut {t sl : Addr} {items : Array Value} {vl vu : Value} {lo hi : Option Int} {Q : Value → Shared → Prop} (ht : IsTup s.heap t items) (hs : s.heap.IsSliceOf sl vl vu .none) (pl : IsPart vl lo) (pu : IsPart vu hi)
    (hw : ¬ (sIx items.size 0 lo = 0 ∧ sIx items.size items.size hi = items.size))
    (h : Q (.ref s.heap.objs.size) { s with heap := s.heap.push { cls := .type "tuple", data := .seq ((items.toList.drop (sIx items.size 0 lo)).take (sIx items.size items.size hi - sIx items.size 0 lo)).toArray } })
    (hsz : items.size ≤ sizeLine) : wpAny (model prog w) A (getItem (.ref t) (.ref sl)) Q E s := by
  have htake : sizeOk (.seq ((items.toList.drop (sIx items.size 0 lo)).take (sIx items.size items.size hi - sIx items.size 0 lo)).toArray) := by
    show ((items.toList.drop (sIx items.size 0 lo)).take (sIx items.size items.size hi - sIx items.size 0 lo)).toArray.size ≤ sizeLine
    rw [List.size_toArray, List.length_take, List.length_drop, Array.length_toList]
    omega
  have hj : sIx items.size items.size hi ≤ items.size := sIx_le _ _ (Nat.le_refl _) hi
  obtain ⟨os, hos, hcs, hds⟩ := id hs
  have hTs : s.TypeIs (.ref sl) "slice" := ⟨os, hos, hcs⟩
  unfold getItem
  try with_reducible refine wpAny_holding ?_
  first | refine wpAny_bind (wpAny_pure ?_) | skip
  refine wpAny_bind (wpAny_sequenceKey ht.typeIs (by decide) ?_)
  refine wpAny_bind (wpAny_callSpecial?_slot (name := Str.ofString "__getitem__") ht.typeIs PyProof.Rows.slot_tuple_getitem
    (wpAny_call_entry PyProof.Rows.slot_tuple_getitem ht.typeIs entry_tuple_getitem ?_ (args_tuple_getitem _ _)))
  show wpAny _ _ (Builtin.Tuple.tupleItemsOf (.ref t) >>= _) _ _ s
  refine wpAny_bind (tupleItemsOf_ ht ?_)
  refine wpAny_bind (wpAny_typeOf hTs ?_)
  rw [if_pos (by decide)]
  refine wpAny_bind (sliceApplied_gen hs pl pu ?_)
  have hno : ¬ ((((sIx items.size 0 lo : Nat) : Int) == 0 && (1 : Int) == 1 && (sIx items.size items.size hi - sIx items.size 0 lo) == items.size) = true) := by
    intro q
    rw [Bool.and_eq_true, Bool.and_eq_true] at q
    have q1 : ((sIx items.size 0 lo : Nat) : Int) = 0 := eq_of_beq q.1.1
    have q2 : sIx items.size items.size hi - sIx items.size 0 lo = items.size := eq_of_beq q.2
    exact hw ⟨by omega, by omega⟩
  show wpAny _ _ (if (((sIx items.size 0 lo : Nat) : Int) == 0 && (1 : Int) == 1 && (sIx items.size items.size hi - sIx items.size 0 lo) == items.size) = true then _ else _) _ _ s
  rw [if_neg hno, pick_gen]
  first
    | exact wpAny_bind (m := Builtin.Tuple.tupleExact _) (wpAny_newObj_type (wpAny_pure ⟨_, rfl, wpAny_pure h⟩) htake)
    | exact wpAny_bind (m := Builtin.Tuple.tupleExact _) (wpAny_newObj_type (wpAny_bind (wpAny_pure (wpAny_pure ⟨_, rfl, wpAny_pure h⟩))) htake)
    | exact wpAny_bind (wpAny_bind (m := Builtin.Tuple.tupleExact _) (wpAny_newObj_type (wpAny_pure (wpAny_pure ⟨_, rfl, wpAny_pure h⟩)) htake))
    | exact wpAny_bind (wpAny_bind (m := Builtin.Tuple.tupleExact _) (wpAny_newObj_type (wpAny_pure ⟨_, rfl, wpAny_pure h⟩) htake))
end
end HT

namespace L2
open PySem PySem.Spec PyProof.Rows

/-! ### the parts of a slice -/
abbrev TO := St → Hp → (Option Int → Hp → Prop) → Prop
/-- a slice's part (left out, or an int) -/
def PO (X : Cx) (e : Option Expr) (t : TO) : Prop :=
  ∀ (pins : List (Addr × Obj)) (s : Shared) (σ : St) (H : Hp) (Q : Option Int → Hp → Prop), Inv X pins σ H s → t σ H Q →
    wpAny (model X.prog X.w) X.A (evalPart e X.env) (fun u s' => ∃ o H', Inv X pins σ H' s' ∧ IsPart u o ∧ Q o H') X.xe s
def tNoPart : TO := fun _ H Q => Q none H
def tPart (t : TE) : TO := fun σ H Q => t σ H fun x H1 => ∃ i, x = .int i ∧ Q (some i) H1

theorem intsAre_of {ns : List Int} : ∀ {us : List Value}, Vals (ns.map V.int) us → IntsAre us ns := by
  induction ns with
  | nil => intro us r; rw [List.map_nil] at r; cases r; exact .nil
  | cons n ns ih =>
    intro us r
    rw [List.map_cons] at r
    cases r with
    | cons r1 r2 =>
      obtain ⟨t, e⟩ := r1
      subst e
      exact .cons n t (ih r2)

section
variable {X : Cx} {e : Expr} {te : TE} {lo hi : Option Expr} {tl th : TO} {pos p2 : Pos}

theorem po_none : PO X none tNoPart := by
  intro pins s σ H Q I h
  rw [evalPart_none]
  exact wpAny_pure ⟨none, H, I, .none, h⟩
theorem po_some (h : PE X e te) : PO X (some e) (tPart te) := by
  intro pins s σ H Q I hw
  rw [evalPart_some]
  refine thn (h pins s σ H _ I hw) fun u s1 ⟨x, H1, I1, r1, q1⟩ => ?_
  obtain ⟨i, rfl, q⟩ := q1
  obtain ⟨t, rfl⟩ := r1
  exact ⟨some i, H1, I1, .int i t, q⟩

/-- what a slice of a value is, by values: the slice object stands at sl -/
def SlR (X : Cx) (r : V → Option Int → Option Int → Hp → VK → Prop) : Prop :=
  ∀ (pins : List (Addr × Obj)) (s : Shared) (σ : St) (H : Hp) (x : V) (v vl vu : Value) (lo hi : Option Int) (sl : Addr) (Q : VK), Inv X pins σ H s → RelV x v → s.heap.IsSliceOf sl vl vu .none → IsPart vl lo → IsPart vu hi → r x lo hi H Q →
    ∃ T id, typeLookup (.type T) "__getitem__" = pure (some (.builtin id)) ∧ s.TypeIs v T ∧ wpAny (model X.prog X.w) X.A (getItem v (.ref sl)) (EP X pins σ Q) X.xe s
def tSl (r : V → Option Int → Option Int → Hp → VK → Prop) (te : TE) (tl th : TO) : TE := fun σ H Q => te σ H fun x H1 => tl σ H1 fun l H2 => th σ H2 fun u H3 => r x l u H3 Q
/-- a[lo:hi], any a -/
theorem pe_slice {r : V → Option Int → Option Int → Hp → VK → Prop} (hr : SlR X r) (he : PE X e te) (hl : PO X lo tl) (hu : PO X hi th) : PE X (.Subscript e (.Slice lo hi none p2) pos) (tSl r te tl th) := by
  intro pins s σ H Q I h
  refine Subscript_ (thn (he pins s σ H _ I h) fun v s1 ⟨x, H1, I1, r1, q1⟩ => ?_)
  refine wpAny_Slice (thn (hl pins s1 σ H1 _ I1 q1) fun vl s2 ⟨l, H2, I2, pl, q2⟩ => thn (hu pins s2 σ H2 _ I2 q2) fun vu s3 ⟨u, H3, I3, pu, q3⟩ => ?_)
  rw [evalPart_none]
  refine wpAny_pure ?_
  have I4 : Inv X pins σ H3 { s3 with heap := s3.heap.push { cls := .type "slice", data := .fields #[vl, vu, .none] } } := I3.kept (t' := s3.toks) fun b ob q => Heap.get?_push_of_some _ q
  obtain ⟨T, id, hT, ht, hg⟩ := hr pins { s3 with heap := s3.heap.push { cls := .type "slice", data := .fields #[vl, vu, .none] } } σ H3 x v vl vu l u s3.heap.objs.size Q I4 r1 (Heap.IsSliceOf.new ..) pl pu q3
  show wpAny (model X.prog X.w) X.A (subscriptTail e (.Slice lo hi none p2) v (.ref s3.heap.objs.size)) (EP X pins σ Q) X.xe { s3 with heap := s3.heap.push { cls := .type "slice", data := .fields #[vl, vu, .none] } }
  exact tail_any (ops := [.ref s3.heap.objs.size, v]) ht hT hg (by with_unfolding_all rfl)

/-- the items of xs[lo:hi] -/
def cutV (xs : List V) (lo hi : Option Int) : List V := (xs.drop (HT.sIx xs.length 0 lo)).take (HT.sIx xs.length xs.length hi - HT.sIx xs.length 0 lo)
theorem cutV_length (xs : List V) (lo hi : Option Int) : (cutV xs lo hi).length ≤ xs.length := by
  unfold cutV
  rw [List.length_take, List.length_drop]
  omega
/-- t[lo:hi], not the whole of it (the whole would be t itself) -/
def rSlT (K : PySem.W.Frag) : V → Option Int → Option Int → Hp → VK → Prop := fun x lo hi H Q => ∃ a xs, x = .ref a ∧ SqT K H a xs ∧
  ¬ (HT.sIx xs.length 0 lo = 0 ∧ HT.sIx xs.length xs.length hi = xs.length) ∧ ∀ p, H p = none → Q (.ref p) (upd H p (.tup (cutV xs lo hi)))
theorem sl_tup : SlR X (rSlT X.K) := by
  intro pins s σ H x v vl vu lo hi sl Q I rx hs pl pu h
  obtain ⟨a, xs, rfl, hx, hw, q⟩ := h
  cases rx
  obtain ⟨its, r, ht, hz⟩ := I.tuple hx
  have hlen : its.toArray.size = xs.length := by rw [List.size_toArray]; exact r.length.symm
  refine ⟨"tuple", _, PyProof.Rows.slot_tuple_getitem.lookup, ht.typeIs, ?_⟩
  refine HT.getItem_tuple_cut ht hs pl pu (by rw [hlen]; exact hw) ?_ (by rw [hlen]; exact hz)
  rw [hlen]
  refine ⟨.ref s.heap.objs.size, _, I.laid (t' := s.toks) (o := .tup (cutV xs lo hi)) (fun b ob q => Heap.get?_push_of_some _ q) (Nat.le_refl _) ?_, rfl, q _ (I.hok.fresh (Nat.le_refl _))⟩
  exact ⟨Nat.le_trans (cutV_length xs lo hi) hz, _, (r.drop (HT.sIx xs.length 0 lo)).take (HT.sIx xs.length xs.length hi - HT.sIx xs.length 0 lo), IsTup.new _ _⟩

/-! ### t < u, t + u -/
end
end L2

namespace L2
open PySem PySem.Spec PyProof.Rows

/-! ### places -/
/-- the place that an index of any sign means -/
def ixN (n : Nat) (i : Int) : Option Nat := if 0 ≤ i then (if i < n then some i.toNat else none) else if -(n : Int) ≤ i then some (i + n).toNat else none
def atI {α : Type} (xs : List α) (i : Int) : Option α := (ixN xs.length i).bind fun j => xs[j]?
theorem ixN_seq {n : Nat} {i : Int} {j : Nat} (h : ixN n i = some j) : seqIndex? i n = some j ∧ j < n ∧ -(n : Int) ≤ i ∧ i < n := by
  unfold ixN at h
  by_cases h0 : 0 ≤ i
  · rw [if_pos h0] at h
    by_cases h1 : i < n
    · rw [if_pos h1] at h
      have e : i.toNat = j := Option.some.inj h
      exact ⟨by rw [seqIndex_of h0 h1, e], by omega, by omega, h1⟩
    · rw [if_neg h1] at h; cases h
  · rw [if_neg h0] at h
    by_cases h1 : -(n : Int) ≤ i
    · rw [if_pos h1] at h
      have e : (i + n).toNat = j := Option.some.inj h
      exact ⟨by rw [seqIndex_neg (by omega) h1, e], by omega, h1, by omega⟩
    · rw [if_neg h1] at h; cases h
theorem atI_get {α : Type} {xs : List α} {i : Int} {v : α} (h : atI xs i = some v) : ∃ j, seqIndex? i xs.length = some j ∧ xs[j]? = some v ∧ j < xs.length ∧ -(xs.length : Int) ≤ i ∧ i < xs.length := by
  unfold atI at h
  cases e : ixN xs.length i with
  | none => rw [e] at h; cases h
  | some j =>
    rw [e] at h
    obtain ⟨h1, h2, h3, h4⟩ := ixN_seq e
    exact ⟨j, h1, h, h2, h3, h4⟩
theorem atI_nat {α : Type} {xs : List α} {j : Nat} {v : α} (h : xs[j]? = some v) : atI xs (j : Int) = some v := by
  have hj : j < xs.length := (List.getElem?_eq_some_iff.mp h).1
  have e : ixN xs.length (j : Int) = some j := by
    unfold ixN
    rw [if_pos (by omega), if_pos (by omega)]; simp
  unfold atI; rw [e]; exact h
/-! ### what may be subscripted -/
/-- what stands as an index of a plain subscript -/
def PlainIx (b : Expr) : Prop := ∀ o i, subscripted b false o i = operate [o, i] (getItem o i)
/-- a subscript by values -/
def IxR (X : Cx) (r : R2) : Prop :=
  ∀ (value slice : Expr) (pins : List (Addr × Obj)) (s : Shared) (σ : St) (H : Hp) (x y : V) (v u : Value) (Q : VK), Inv X pins σ H s → RelV x v → RelV y u → r x y H Q →
    subscripted slice false v u = operate [v, u] (getItem v u) → wpAny (model X.prog X.w) X.A (subscriptTail value slice v u) (EP X pins σ Q) X.xe s
/-- a call of a builtin's method by values: the receiver, the arguments -/
def MtR (X : Cx) (id : String) (r : V → List V → Hp → VK → Prop) : Prop :=
  ∀ (pins : List (Addr × Obj)) (s : Shared) (σ : St) (H : Hp) (x : V) (xs : List V) (v : Value) (us : List Value) (Q : VK), Inv X pins σ H s → RelV x v → Vals xs us → r x xs H Q →
    wpAny (model X.prog X.w) X.A (call (.builtin id) (v :: us)) (EP X pins σ Q) X.xe s
section
variable {X : Cx} {a b : Expr} {ta tb : TE} {pos : Pos}
/-- a[b] -/
theorem pe_ix {r : R2} (hr : IxR X r) (ha : PE X a ta) (hb : PE X b tb) (hs : PlainIx b) : PE X (.Subscript a b pos) (tOp r ta tb) := by
  intro pins s σ H Q I h
  exact Subscript_ (binT ha hb I h fun v u s2 x y H2 I2 rx ry q => hr a b pins s2 σ H2 x y v u Q I2 rx ry q (hs _ _))

def rIxL (K : PySem.W.Frag) : R2 := fun x y H Q => ∃ p xs i v, x = .ref p ∧ y = .int i ∧ SqL K H p xs ∧ atI xs i = some v ∧ Q v H
def rIxT (K : PySem.W.Frag) : R2 := fun x y H Q => ∃ p xs i v, x = .ref p ∧ y = .int i ∧ SqT K H p xs ∧ atI xs i = some v ∧ Q v H
theorem ix_list : IxR X (rIxL X.K) := by
  intro value slice pins s σ H x y v u Q I rx ry h hs
  obtain ⟨p, xs, i, z, rfl, rfl, hq, he, q⟩ := h
  cases rx
  obtain ⟨t, rfl⟩ := ry
  obtain ⟨its, r, pl, hz⟩ := I.list hq
  obtain ⟨j, h1, h2, h3, h4, h5⟩ := atI_get he
  obtain ⟨w, ew, rw'⟩ := r.get h2
  have hl := r.length
  have hn := line63
  have fin : EP X pins σ Q w s := ⟨z, H, I, rw', q⟩
  by_cases h0 : 0 ≤ i
  · have hj : i.toNat = j := by
      rw [seqIndex_of h0 h5] at h1
      exact Option.some.inj h1
    exact item_listR pl.isList h0 (by omega) (by rw [hj]; simpa using ew) fin hs
  · have hj : (i + (its.toArray.size : Int)).toNat = j := by
      rw [seqIndex_neg (by omega) h4] at h1
      rw [List.size_toArray, ← hl]
      exact Option.some.inj h1
    exact subscriptTail_builtinR (x := w) pl.isList.typeIs slot_list_getitem.lookup
      (wpAny_getItem_list_neg (Q := fun r s' => r = w ∧ EP X pins σ Q r s') pl.isList (by omega) (by rw [List.size_toArray] <;> omega) (by omega) (by rw [hj]; simpa using ew) ⟨rfl, fin⟩) hs
theorem ix_tup : IxR X (rIxT X.K) := by
  intro value slice pins s σ H x y v u Q I rx ry h hs
  obtain ⟨p, xs, i, z, rfl, rfl, hq, he, q⟩ := h
  cases rx
  obtain ⟨t, rfl⟩ := ry
  obtain ⟨its, r, pl, hz⟩ := I.tuple hq
  obtain ⟨j, h1, h2, h3, h4, h5⟩ := atI_get he
  obtain ⟨w, ew, rw'⟩ := r.get h2
  have hl := r.length
  have hn := line63
  have fin : EP X pins σ Q w s := ⟨z, H, I, rw', q⟩
  exact subscriptTail_builtinR (x := w) pl.typeIs slot_tuple_getitem.lookup
    (getItem_tuple (j := j) (Q := fun r s' => r = w ∧ EP X pins σ Q r s') pl (by omega) (by omega) (by rw [List.size_toArray, ← hl]; exact h1) (by simpa using ew) ⟨rfl, fin⟩) hs
/-! ### xs[i] = v, any sign -/
/-! ### slices -/
theorem slice_bounds (lo hi : Option Int) (n : Nat) : (sliceBounds lo hi none n).1 = ((HT.sIx n 0 lo : Nat) : Int) ∧ (sliceBounds lo hi none n).2.1 = ((HT.sIx n n hi : Nat) : Int) ∧ (sliceBounds lo hi none n).2.2 = 1 := by
  refine ⟨?_, ?_, rfl⟩
  · cases lo with
    | none => simp [sliceBounds, HT.sIx]
    | some i =>
      simp only [sliceBounds, HT.sIx, Option.getD_none, show (1 : Int) > 0 by decide, if_true]
      by_cases h : i < 0
      · simp only [h, if_true] <;> omega
      · simp only [h, if_false] <;> omega
  · cases hi with
    | none => simp [sliceBounds, HT.sIx]
    | some i =>
      simp only [sliceBounds, HT.sIx, Option.getD_none, show (1 : Int) > 0 by decide, if_true]
      by_cases h : i < 0
      · simp only [h, if_true] <;> omega
      · simp only [h, if_false] <;> omega
theorem slicePick_cut (its : List Value) (lo hi : Option Int) : slicePick its.toArray lo hi none = ((its.drop (HT.sIx its.length 0 lo)).take (HT.sIx its.length its.length hi - HT.sIx its.length 0 lo)).toArray := by
  obtain ⟨h1, h2, h3⟩ := slice_bounds lo hi its.toArray.size
  unfold slicePick
  rw [h1, h2, h3]
  simp only [sliceRange_one, pick_run, List.size_toArray] <;> rfl
/-- xs[lo:hi] of a list: a new list -/
def rSlL (K : PySem.W.Frag) : V → Option Int → Option Int → Hp → VK → Prop := fun x lo hi H Q => ∃ a xs, x = .ref a ∧ SqL K H a xs ∧ ∀ p, H p = none → Q (.ref p) (upd H p (.lst (cutV xs lo hi)))
theorem sl_list : SlR X (rSlL X.K) := by
  intro pins s σ H x v vl vu lo hi sl Q I rx hs pl pu h
  obtain ⟨a, xs, rfl, hx, q⟩ := h
  cases rx
  obtain ⟨its, r, ht, hz⟩ := I.list hx
  have hlen := r.length
  refine ⟨"list", _, slot_list_getitem.lookup, ht.isList.typeIs, ?_⟩
  refine wpAny_getItem_list_slice ht.isList hs pl pu .none (by simp) ?_ (by rw [List.size_toArray] <;> omega)
  rw [slicePick_cut, ← hlen]
  refine ⟨.ref s.heap.objs.size, _, I.laid (t' := s.toks) (o := .lst (cutV xs lo hi)) (fun b ob q => Heap.get?_push_of_some _ q) (Nat.le_refl _) ?_, rfl, q _ (I.hok.fresh (Nat.le_refl _))⟩
  exact ⟨Nat.le_trans (cutV_length xs lo hi) hz, _, 0, (r.drop (HT.sIx xs.length 0 lo)).take (HT.sIx xs.length xs.length hi - HT.sIx xs.length 0 lo), Heap.get?_push_size _ rfl⟩

/-! ### in, not in: flat items -/
def flatV : V → Bool
  | .non => true
  | .bl _ => true
  | .int _ => true
  | .str _ => true
  | _ => false
/-- == of flat values -/
def eqV : V → V → Bool
  | .non, .non => true
  | .bl a, .bl b => a == b
  | .bl a, .int b => (if a then 1 else 0) == b
  | .int a, .bl b => a == (if b then 1 else 0)
  | .int a, .int b => a == b
  | .str a, .str b => a == b
  | _, _ => false
theorem eqAt_V {A : Around} {s : Shared} {y x : V} {u v : Value} (ry : RelV y u) (rx : RelV x v) (fy : flatV y = true) (fx : flatV x = true) : SeqAt.EqAt A s u v (eqV y x) := by
  cases y with
  | non =>
    cases ry
    cases x with
    | non => cases rx; exact SeqAt.EqAt.same _
    | bl b => cases rx; exact SeqAt.EqAt.none_bool b
    | int b => obtain ⟨t, rfl⟩ := rx; exact SeqAt.EqAt.none_int b t
    | str b => obtain ⟨t, rfl⟩ := rx; exact SeqAt.EqAt.none_str b t
    | _ => exact absurd (show false = true from fx) Bool.false_ne_true
  | bl a =>
    cases ry
    cases x with
    | non => cases rx; exact SeqAt.EqAt.bool_none a
    | bl b => cases rx; exact SeqAt.EqAt.bool_bool a b
    | int b => obtain ⟨t, rfl⟩ := rx; exact SeqAt.EqAt.bool_int a b t
    | str b => obtain ⟨t, rfl⟩ := rx; exact SeqAt.EqAt.bool_str a b t
    | _ => exact absurd (show false = true from fx) Bool.false_ne_true
  | int a =>
    obtain ⟨t', rfl⟩ := ry
    cases x with
    | non => cases rx; exact SeqAt.EqAt.int_none a t'
    | bl b => cases rx; exact SeqAt.EqAt.int_bool a t' b
    | int b => obtain ⟨t, rfl⟩ := rx; exact SeqAt.EqAt.int_int a t' b t
    | str b => obtain ⟨t, rfl⟩ := rx; exact SeqAt.EqAt.int_str a t' b t
    | _ => exact absurd (show false = true from fx) Bool.false_ne_true
  | str a =>
    obtain ⟨t', rfl⟩ := ry
    cases x with
    | non => cases rx; exact SeqAt.EqAt.str_none a t'
    | bl b => cases rx; exact SeqAt.EqAt.str_bool a t' b
    | int b => obtain ⟨t, rfl⟩ := rx; exact SeqAt.EqAt.str_int a t' b t
    | str b => obtain ⟨t, rfl⟩ := rx; exact SeqAt.EqAt.str_str a t' b t
    | _ => exact absurd (show false = true from fx) Bool.false_ne_true
  | _ => exact absurd (show false = true from fy) Bool.false_ne_true
/-! ### len, list(x), tuple(x) of any list or tuple that is read -/
theorem call_list_of : CallR X (.type "list") (fun xs H Q => ∃ p ys, xs = [.ref p] ∧ (SqL X.K H p ys ∨ SqT X.K H p ys) ∧ ∀ l, H l = none → Q (.ref l) (upd H l (.lst ys))) := by
  intro pins s σ H xs us Q I r h
  obtain ⟨p, ys, rfl, hq, q⟩ := h
  obtain ⟨u, rfl, rx⟩ := vals1 r
  cases rx
  have fin : ∀ (its : List Value), Vals ys its → ys.length ≤ sizeLine → ∀ (h' : Heap) (c' : Nat), (∀ b o', s.heap.get? b = some o' → h'.get? b = some o') →
      h'.get? s.heap.objs.size = some { cls := .type "list", dict := none, data := .seq its.toArray c', slots := #[] } → EP X pins σ Q (.ref s.heap.objs.size) { s with heap := h' } := fun its r' hz h' c' kp e =>
    ⟨.ref s.heap.objs.size, _, I.laid (t' := s.toks) kp (Nat.le_refl _) (show ObjOk X.prog X.w _ h' _ (.lst ys) from ⟨hz, its, c', r', e⟩), rfl, q _ (I.hok.fresh (Nat.le_refl _))⟩
  rcases hq with hq | hq
  · obtain ⟨its, r', pl, hz⟩ := I.list hq
    have hlen := r'.length
    obtain ⟨o, ho, hc, n, hd⟩ := pl.isList
    exact call_list_seq p (.inl rfl) ho hc hd (fun h' c' kp e => fin its r' hz h' c' kp e) (by simp only [List.size_toArray] <;> omega)
  · obtain ⟨its, r', pl, hz⟩ := I.tuple hq
    have hlen := r'.length
    obtain ⟨o, ho, hc, n, hd⟩ := pl
    exact call_list_seq p (.inr rfl) ho hc hd (fun h' c' kp e => fin its r' hz h' c' kp e) (by simp only [List.size_toArray] <;> omega)
/-! ### the call of a builtin's method: o.m(..) -/
/-- the value is of that builtin type -/
def tyV (K : PySem.W.Frag) (T : String) (x : V) (H : Hp) : Prop := match x with
  | .str _ => T = "str"
  | .int _ => T = "int"
  | .ref p => (T = "list" ∧ ∃ xs, SqL K H p xs) ∨ (T = "tuple" ∧ ∃ o, K.lookup p = some o ∧ o.cls = .type "tuple" ∧ o.dict = none) ∨
      (T = "dict" ∧ ((∃ kvs, H p = some (.dK kvs)) ∨ ∃ kvs, H p = some (.dT kvs))) ∨ (T = "set" ∧ ∃ S n, H p = some (.set S n))
  | _ => False
theorem tyV_is {pins : List (Addr × Obj)} {σ : St} {H : Hp} {s : Shared} {T : String} {x : V} {v : Value} (I : Inv X pins σ H s) (r : RelV x v) (ty : tyV X.K T x H) :
    s.TypeIs v T ∧ ∀ a, v = .ref a → ∃ ob, s.heap.get? a = some ob ∧ ob.dict = none := by
  cases x with
  | str z =>
    obtain ⟨t, rfl⟩ := r
    cases (show T = "str" from ty)
    exact ⟨typeIs_str s z t, fun _ e => nomatch e⟩
  | int i =>
    obtain ⟨t, rfl⟩ := r
    cases (show T = "int" from ty)
    exact ⟨typeIs_int s i t, fun _ e => nomatch e⟩
  | ref p =>
    cases r
    rcases ty with ⟨rfl, xs, hq⟩ | ⟨rfl, o, hk, hc, hd⟩ | ⟨rfl, hk⟩ | ⟨rfl, S, n, hk⟩
    · obtain ⟨its, _, pl, _⟩ := I.list hq
      refine ⟨pl.isList.typeIs, fun a e => ?_⟩
      cases e
      obtain ⟨o, n, e, c, hd, _⟩ := pl
      exact ⟨o, e, hd⟩
    · refine ⟨⟨o, I.kIn p o hk, hc⟩, fun a e => ?_⟩
      cases e
      exact ⟨o, I.kIn _ o hk, hd⟩
    · have z : ∃ o, s.heap.get? p = some o ∧ o.ExactDict := by
        rcases hk with ⟨kvs, hk⟩ | ⟨kvs, hk⟩
        · obtain ⟨_, _, _, _, o, _, _, e, ex, _⟩ := I.hok p _ hk
          exact ⟨o, e, ex⟩
        · obtain ⟨_, _, _, _, o, _, _, e, ex, _⟩ := I.hok p _ hk
          exact ⟨o, e, ex⟩
      obtain ⟨o, e, ex⟩ := z
      refine ⟨⟨o, e, ex.1⟩, fun a e2 => ?_⟩
      cases e2
      exact ⟨o, e, ex.2.1⟩
    · obtain ⟨o, _, _, _, e, ex, _⟩ := I.hok p _ hk
      refine ⟨⟨o, e, ex.1⟩, fun a e2 => ?_⟩
      cases e2
      exact ⟨o, e, ex.2.1⟩
  | _ => exact False.elim ty
def tBM0 (K : PySem.W.Frag) (T : String) (r : V → List V → Hp → VK → Prop) (to : TE) : TE := fun σ H Q => to σ H fun x H1 => tyV K T x H1 ∧ r x [] H1 Q
def tBM (K : PySem.W.Frag) (T : String) (r : V → List V → Hp → VK → Prop) (to : TE) (t : TA) : TE := fun σ H Q => to σ H fun x H1 => tyV K T x H1 ∧ t σ H1 fun xs H2 => r x xs H2 Q
variable {o e : Expr} {es : List Expr} {to : TE} {t : TA} {name : Str} {apos cpos : Pos} {T id : String} {r : V → List V → Hp → VK → Prop}
theorem pe_bm0 (pa : PlainAttrs T) (slot : Slot T name id) (hty : typeOf (.builtin id) = pure (.type "method_descriptor")) (hm : MtR X id r) (ho : PE X o to)
    (hbase : attributeBase o name X.env (eval o X.env) = eval o X.env := by rfl) (hline : (apos.endLine == cpos.line) = true := by rfl) : PE X (.Call (.Attribute o name apos) [] [] cpos) (tBM0 X.K T r to) := by
  intro pins s σ H Q I h
  refine wpAny_Call_method0_late hbase hline (thn (ho pins s σ H _ I h) fun v s1 ⟨x, H1, I1, r1, ty, q1⟩ => ?_)
  obtain ⟨h1, h2⟩ := tyV_is I1 r1 ty
  exact ⟨T, id, pa, slot, hty, h1, h2, Calls.callWith_builtin rfl (PySem.evalArgs_none (hm pins s1 σ H1 x [] v [] Q I1 r1 .nil q1))⟩
theorem pe_bm (pa : PlainAttrs T) (slot : Slot T name id) (hty : typeOf (.builtin id) = pure (.type "method_descriptor")) (hm : MtR X id r) (ho : PE X o to) (ha : PA X (e :: es) t)
    (hbase : attributeBase o name X.env (eval o X.env) = eval o X.env := by rfl)
    (hfew : ((backTo cpos (starEach (e :: es) X.env)).all (fun x => !x.1) && (backToKw cpos (keywordEach [] X.env)).all (fun x => x.1.isSome)
      && decide ((e :: es).length + ([] : List Keyword).length + (if ([] : List Keyword).isEmpty then 0 else 1) < 30)) = true := by rfl)
    (hline : (apos.endLine == cpos.line) = true := by rfl) (hs : starEach (e :: es) X.env = (false, eval e X.env) :: starEach es X.env := by rfl) (hplain : (backTo cpos (starEach es X.env)).any (·.1) = false := by rfl) :
    PE X (.Call (.Attribute o name apos) (e :: es) [] cpos) (tBM X.K T r to t) := by
  intro pins s σ H Q I h
  refine wpAny_Call_method_late hbase hfew hline rfl (thn (ho pins s σ H _ I h) fun v s1 ⟨x, H1, I1, r1, ty, q1⟩ => ?_)
  obtain ⟨h1, h2⟩ := tyV_is I1 r1 ty
  refine ⟨T, id, pa, slot, hty, h1, h2, ?_⟩
  have hA := ha cpos pins s1 σ H1 _ I1 q1
  rw [hs] at hA ⊢
  refine Calls.callWith_builtin (by show (false || (backTo cpos (starEach es X.env)).any (·.1)) = false; rw [hplain] <;> rfl) (Calls.evalArgs_plain ?_)
  exact thn hA fun us s2 ⟨vs, H2, I2, r2, q2⟩ => hm pins s2 σ H2 x vs v us Q I2 r1 r2 q2
/- xs.append(e), list.index on a module's tuple .. are MtR facts of 06m -/
end
end L2

namespace L2
open PySem PySem.Spec PyProof.Rows

def MtM (X : Cx) (id : String) (r : V → List V → Hp → VK → Prop) : Prop :=
  ∀ (pins : List (Addr × Obj)) (s : Shared) (σ : St) (H : Hp) (x : V) (xs : List V) (v : Value) (us : List Value) (Q : VK), Inv X pins σ H s → RelV x v → Vals xs us → r x xs H Q →
    wpAny (model X.prog X.w) X.A (call (.builtin id) (v :: us)) (EP X pins σ Q) X.xe s

/-! ### lists of values -/
theorem Vals.one : ∀ {x : V} {us : List Value}, Vals [x] us → ∃ u, us = [u] ∧ RelV x u
  | _, _, .cons r .nil => ⟨_, rfl, r⟩
theorem Vals.zero : ∀ {us : List Value}, Vals [] us → us = []
  | _, .nil => rfl
theorem Vals.dropLast {xs : List V} {us : List Value} (h : Vals xs us) : Vals xs.dropLast us.dropLast := by
  induction h with
  | nil => exact .nil
  | cons r t ih =>
    cases t with
    | nil => exact .nil
    | cons q t' => exact .cons r ih
theorem erase_last {α : Type} (l : List α) : l.eraseIdx (l.length - 1) = l.dropLast := by
  induction l with
  | nil => rfl
  | cons a r ih =>
    cases r with
    | nil => rfl
    | cons b r =>
      have e : (a :: b :: r).length - 1 = ((b :: r).length - 1) + 1 := by
        have h1 : (a :: b :: r).length = r.length + 2 := rfl
        have h2 : (b :: r).length = r.length + 1 := rfl
        omega
      rw [e, List.eraseIdx_cons_succ, ih]
      all_goals rfl
section
variable {X : Cx} {pins : List (Addr × Obj)} {σ : St} {H : Hp} {s : Shared} {l b : Addr} {xs ys zs : List V}

/-! ### the two steps: a tracked list is rewritten, a new list is laid -/
theorem Inv.lset {its its' : List Value} {n : Nat} {f : Array Value → Array Value} {t' : Nat} (I : Inv X pins σ H s) (hH : H l = some (.lst xs))
    (e : s.heap.get? l = some { cls := .type "list", data := .seq its.toArray n }) (hf : f its.toArray = its'.toArray) (hv : Vals ys its') (hz : ys.length ≤ sizeLine) :
    Inv X pins σ (upd H l (.lst ys)) { s with heap := s.heap.update l (Obj.mapSeq f), toks := t' } := by
  have q := PySem.IsL.update e f
  rw [hf] at q
  refine I.write (x := l) (e := l) (by rw [hH]; exact trivial) (.inl rfl) (fun b' u hb hu => (Heap.get?_update_other s.heap (Obj.mapSeq f) (Ne.symm hb)).trans hu) ⟨_, q⟩ ?_
  exact ⟨hz, its', _, hv, q⟩
theorem Inv.lstM (I : Inv X pins σ H s) (hH : H l = some (.lst xs)) : xs.length ≤ sizeLine ∧ ∃ (its : List Value) (n : Nat), Vals xs its ∧ xs.length = its.length ∧ s.heap.get? l = some { cls := .type "list", data := .seq its.toArray n } := by
  obtain ⟨z, its, n, r, e⟩ := I.hok l _ hH
  exact ⟨z, its, n, r, r.length, e⟩

theorem notLongL {n : Nat} (h : n ≤ sizeLine) : Builtin.List.listTooLong n = false := by
  unfold Builtin.List.listTooLong
  exact decide_eq_false (by omega)
end

section
variable {X : Cx}

/-! ### methods -/
def rAppend : V → List V → Hp → VK → Prop := fun x vs H Q => ∃ l xs y, x = .ref l ∧ vs = [y] ∧ H l = some (.lst xs) ∧ xs.length < sizeLine ∧ Q .non (upd H l (.lst (xs ++ [y])))
theorem mt_append : MtM X "list.append" rAppend := by
  intro pins s σ H x vs v us Q I rx rv h
  obtain ⟨l, xs, y, rfl, rfl, hH, hz, q⟩ := h
  cases rx
  obtain ⟨u, rfl, ru⟩ := rv.one
  obtain ⟨z, its, n, r, hl, e⟩ := I.lstM hH
  refine call_meets F.slot_list_append ⟨_, e, rfl⟩ F.entry_list_append (F.args_list_append_2 _ _) (PySem.list_append l its.toArray n u (by rw [List.size_toArray]; omega)) ⟨e, ?_⟩
  refine ⟨.non, _, I.lset (its' := its ++ [u]) hH e (by simp) (r.append (.cons ru .nil)) ?_, rfl, q⟩
  rw [List.length_append, List.length_singleton]
  omega

def rExtend : V → List V → Hp → VK → Prop := fun x vs H Q => ∃ l b xs zs, x = .ref l ∧ vs = [.ref b] ∧ H l = some (.lst xs) ∧ H b = some (.lst zs) ∧ xs.length + zs.length ≤ sizeLine ∧ Q .non (upd H l (.lst (xs ++ zs)))
theorem mt_extend : MtM X "list.extend" rExtend := by
  intro pins s σ H x vs v us Q I rx rv h
  obtain ⟨l, b, xs, zs, rfl, rfl, hH, hB, hz, q⟩ := h
  cases rx
  obtain ⟨u, rfl, ru⟩ := rv.one
  cases ru
  obtain ⟨z, its, n, r, hl, e⟩ := I.lstM hH
  obtain ⟨z2, its2, n2, r2, hl2, e2⟩ := I.lstM hB
  have hsz : its.toArray.size + its2.toArray.size ≤ sizeLine := by rw [List.size_toArray, List.size_toArray]; omega
  have hlong : ¬ (!its.toArray.isEmpty && Builtin.List.listTooLong (its.toArray.size + its2.toArray.size)) = true := by
    rw [notLongL hsz, Bool.and_false]
    exact Bool.false_ne_true
  refine call_meets F.slot_list_extend ⟨_, e, rfl⟩ F.entry_list_extend (F.args_list_extend_2 _ _)
    (AutoSeq1.list_extend_list_list_0 l its.toArray n b its2.toArray n2 hlong (by rw [List.size_toArray]; omega) (by omega)) ⟨e, e2, ?_⟩
  refine ⟨.non, _, I.lset (its' := its ++ its2) hH e (by simp) (r.append r2) ?_, rfl, q⟩
  rw [List.length_append]
  omega

def rPop : V → List V → Hp → VK → Prop := fun x vs H Q => ∃ l xs y, x = .ref l ∧ vs = [] ∧ H l = some (.lst xs) ∧ xs[xs.length - 1]? = some y ∧ Q y (upd H l (.lst xs.dropLast))
theorem mt_pop : MtM X "list.pop" rPop := by
  intro pins s σ H x vs v us Q I rx rv h
  obtain ⟨l, xs, y, rfl, rfl, hH, hy, q⟩ := h
  cases rx
  have hus := rv.zero
  subst hus
  obtain ⟨z, its, n, r, hl, e⟩ := I.lstM hH
  obtain ⟨u, hu, ru⟩ := r.get hy
  have hy' : its.toArray[its.toArray.size - 1]? = some u := by
    show its.toArray[its.length - 1]? = some u
    rw [← Array.getElem?_toList, ← hl]
    exact hu
  refine call_meets F.slot_list_pop ⟨_, e, rfl⟩ F.entry_list_pop (F.args_list_pop_1 _) (MeetsSeq.list_pop_last l its.toArray n u hy' (by rw [List.size_toArray]; omega)) ⟨e, ?_⟩
  refine ⟨y, _, I.lset (its' := its.dropLast) hH e ?_ r.dropLast ?_, ru, q⟩
  · show its.toArray.eraseIdxIfInBounds (its.toArray.size - 1) = its.dropLast.toArray
    rw [List.size_toArray, List.eraseIdxIfInBounds_toArray, erase_last]
  · rw [List.length_dropLast]
    omega

def rClear : V → List V → Hp → VK → Prop := fun x vs H Q => ∃ l xs, x = .ref l ∧ vs = [] ∧ H l = some (.lst xs) ∧ Q .non (upd H l (.lst []))
theorem mt_clear : MtM X "list.clear" rClear := by
  intro pins s σ H x vs v us Q I rx rv h
  obtain ⟨l, xs, rfl, rfl, hH, q⟩ := h
  cases rx
  have hus := rv.zero
  subst hus
  obtain ⟨z, its, n, r, hl, e⟩ := I.lstM hH
  refine call_meets F.slot_list_clear ⟨_, e, rfl⟩ F.entry_list_clear (F.args_list_clear_1 _) (AutoSeq1.list_clear_list_0 l its.toArray n (by rw [List.size_toArray]; omega)) ⟨e, ?_⟩
  exact ⟨.non, _, I.lset (its' := []) (ys := []) hH e rfl .nil (Nat.zero_le _), rfl, q⟩

/-! ### list + list, list += list, list * int -/
/-! ### del xs[i] -/
end

/-! ### xs[a:b] = ys -/
section
variable {prog : Program} {w : World} {A : Around} {E : Value → Shared → Prop} {s : Shared}
end

section
variable {X : Cx}
end
end L2

namespace Att
open PySem PySem.W PySem.Calls PyProof.Rows

/-! ### the script -/
theorem ints_of_wellAll {P : Params} {h : Heap} : ∀ (ns : List Int) (vs : List Value), WellAll P h vs (ns.map WData.int) → IntsAre vs ns := by
  intro ns
  induction ns with
  | nil =>
    intro vs w
    rw [List.map_nil] at w
    cases w
    exact .nil
  | cons n ns ih =>
    intro vs w
    rw [List.map_cons] at w
    cases w with
    | cons a b =>
      cases a
      exact .cons _ _ (ih _ b)

theorem script_of {l : OpenLaw} {n : Nat} (hn : l.most = some n) {P : Params} {h : Heap} {args : List WData} {vals : List Value}
    (hpre : l.row.toRowW.claim.pre args = true) (hwl : WellAll P h vals args) :
    ∃ a vs ns, vals = [Value.ref a] ∧ args = [WData.list (ns.map WData.int)] ∧ h.get? a = some { cls := .type "list", data := .seq vs.toArray } ∧ IntsAre vs ns ∧ ns.length ≤ n := by
  have hsh : WShape.hasAll [] args [.list .int] = true := (pre_splitW hpre).1
  have hc : l.pre.holds [] { args := args } = true := (pre_splitW hpre).2
  obtain ⟨d, r, rfl, h1, h2⟩ := hasAllW_cons hsh
  obtain rfl := hasAllW_nil h2
  obtain ⟨xs, rfl, h3⟩ := hasW_list h1
  obtain ⟨ns, rfl⟩ := items_int h3
  have hlen : ns.length ≤ n := by
    unfold OpenLaw.pre at hc
    have h4 : (WTm.not (.lt (.lit (.int (n : Int))) (.len (.arg 0)))).holds [] { args := [.list (ns.map .int)] } = true := by
      have h4 := (holds_andW hc).1
      rw [hn] at h4
      exact h4
    have h5 := condW_of h4 (w_not (w_lt w_lit (w_len_list (w_arg rfl))))
    rw [List.length_map] at h5
    refine Nat.le_of_not_lt fun q => ?_
    have q' : (n : Int) < ((ns.length : Nat) : Int) := by omega
    first
      | (rw [decide_eq_true q'] at h5; exact absurd h5 (by decide))
      | (simp at h5; omega)
  cases hwl with
  | cons w1 w2 =>
    cases w2
    cases w1 with
    | list ho hall => exact ⟨_, _, ns, rfl, rfl, ho, ints_of_wellAll ns _ hall, hlen⟩

theorem post_true (l : OpenLaw) (args : List WData) : l.row.toRowW.claim.post args (.bool true) args = true :=
  postW_of (r := l.row.toRowW) (X := (true == true))
    (show WShape.has [] (.bool true) .bool = true by first | rfl | decide | simp [WShape.has, WShape.arms, WShape.armsAll])
    (show (WTm.eq .res (.lit (.bool true))).value [] { args := args, res := some (.bool true), after := args } = some (.bool (true == true)) from w_eq_bool (w_res rfl) w_lit) rfl

/-! ### the attachment: holds_open's last premise (the goal 'hc' behind k_head) from a wpAny of the law's body -/
/-! ### rules over ANY heap (no ledger) from facts about the written part K: the library's own take a ledger (News) for what they write -/
section
variable {prog : Program} {w : World} {A : Around} {E : Value → Shared → Prop} {s : Shared} {K : Frag}

/-! the whole heap as the ledger: makes every rule that writes through a ledger a rule over any heap -/
end
end Att

namespace L2
open PySem PySem.Spec PyProof.Rows

theorem vals_ints : ∀ {vs : List Value} {ns : List Int}, IntsAre vs ns → Vals (ns.map V.int) vs
  | _, _, .nil => .nil
  | _, _, .cons n t h => .cons ⟨t, rfl⟩ (vals_ints h)

/-- nothing is tracked but the script, known to the object (or it is an object of the module) -/
def Only (H : Hp) : Prop := ∀ b, H b = none ∨ ∃ o xs, H b = some (.frz o (.lst xs))

end L2

namespace L2
open PySem PySem.Spec PyProof.Rows

end L2

/- THE LAST THEOREM (shape; LID, My.* are yours):
   My.Adr: a structure of the addresses that your layer names (classes, functions); My.Txt K t: a structure (Prop) of the equations over K;
   My.txt_mk : {K} {implicit addresses ..} (e1 : nsIn K mainGlobals "law" = some (some (.ref f))) (e2 : K.lookup f = some ⟨oc, od, .func (fnOf "law" "law" params body scope dV kV doc pm an cdv ct), sl⟩) (e3 : codeIn K cdv "law" = true) .. : ∃ t, My.Txt K t

(the tactic k_is has no namespace: write k_is) -/

/-! SHORT WORDS over the layer: a def of the text, its body, what a loop and a test want. -/
namespace L2
open PySem PySem.Spec PyProof.Rows

/-! ### the text by places -/
def defArgs (s : Stmt) : Arguments := match s with
  | .FunctionDef _ a _ _ _ _ _ _ _ _ => a
  | _ => { posonlyargs := [], args := [], vararg := none, kwonlyargs := [], kw_defaults := [], kwarg := none, defaults := [] }
def defBody (s : Stmt) : List Stmt := match s with
  | .FunctionDef _ _ b _ _ _ _ _ _ _ => b
  | _ => []
def defScope (s : Stmt) : Scope := match s with
  | .FunctionDef _ _ _ _ _ _ sc _ _ _ => sc
  | _ => { kind := .function, names := [], isGenerator := false, isCoroutine := false }

/-! ### no exception leaves a def -/
abbrev CX0 : CXT := fun _ _ _ _ _ _ => False
abbrev E0 : XK := fun _ _ _ => False
theorem pass0 {X : Cx} : Passes CX0 X E0 := fun _ _ _ _ _ _ _ h => h.elim

/-! ### a def (or method) of the text as it stands behind the top -/
structure Fun (K : PySem.W.Frag) (x qual : Str) (st : Stmt) (f : Addr) (fd : FuncData) : Prop where
  ex : ∃ (oc : Value) (od : Option Addr) (kV doc pm : Value) (an : Option Addr) (cdv ct : Value) (osl : Array (Option Value)),
    fd = PySem.W.fnOf x qual (defArgs st) (defBody st) (defScope st) .none kV doc pm an cdv ct ∧ K.lookup f = some ⟨oc, od, .func fd, osl⟩ ∧ PySem.W.codeIn K cdv qual = true
  kp : PySem.W.keepIn K (.ref f) = true
section
variable {P : Program} {w : World} {K : PySem.W.Frag} {mg : Str → Option Value} {base : Heap}
/-- THE RULE for a def: its body as a term of rules, and the reading of that term -/
theorem Fun.ok {x qual : Str} {st : Stmt} {f : Addr} {fd : FuncData} {N ps : List Str} {k : Nat} {sp : Sp} (F : Fun K x qual st f fd) (S : FnScope N ps (defScope st)) (len : ∀ vs H Q E, sp vs H Q E → vs.length = ps.length)
    (hbody : ∀ (cdv : Value) (A : Around) (outer : List Env) (s : Shared) (H : Hp) (vs : List V) (Q : VK) (E : XK), Room k (A.deeper (envOfC qual (defScope st) s.heap.objs.size f cdv)) → sp vs H Q E →
      ∃ t, PSs (cxOf CX0 P w K mg base N qual (defScope st) f cdv A outer s H E).nox (defBody st) t ∧ t { nx := fun _ H' => Q .non H', rt := Q } (start N vs) H) : FnOk P w K mg base CX0 (k + 1) f fd ps sp := by
  obtain ⟨oc, od, kV, doc, pm, an, cdv, ct, osl, rfl, lk, hcd⟩ := F.ex
  refine fn_of lk hcd S len fun A outer s H vs Q E hr hsp => ?_
  obtain ⟨t, h, q⟩ := hbody cdv A outer s H vs Q E hr hsp
  exact ⟨t, h.nox, q⟩
/-- how its arguments bind (no defaults): h is «fun _ _ _ _ _ _ us hl => match us, hl with | [_, _], _ => rfl», one _ a parameter -/
theorem Fun.binds {x qual : Str} {st : Stmt} {f : Addr} {fd : FuncData} {ps : List Str} (F : Fun K x qual st f fd)
    (h : ∀ (kV doc pm : Value) (an : Option Addr) (cdv ct : Value) (us : List Value), us.length = ps.length → bindArgs (PySem.W.fnOf x qual (defArgs st) (defBody st) (defScope st) .none kV doc pm an cdv ct) ⟨us, []⟩ = pure (ps.zip us)) : Binds K fd ps [] := by
  obtain ⟨oc, od, kV, doc, pm, an, cdv, ct, osl, rfl, lk, hcd⟩ := F.ex
  exact .all (h kV doc pm an cdv ct)
theorem fun_mk {x qual : Str} {st : Stmt} {f : Addr} {oc : Value} {od an : Option Addr} {osl : Array (Option Value)} {kV doc pm cdv ct : Value} (l : K.lookup f = some ⟨oc, od, .func (PySem.W.fnOf x qual (defArgs st) (defBody st) (defScope st) .none kV doc pm an cdv ct), osl⟩)
    (c : PySem.W.codeIn K cdv qual = true) (k : PySem.W.keepIn K (.ref f) = true) : Fun K x qual st f (PySem.W.fnOf x qual (defArgs st) (defBody st) (defScope st) .none kV doc pm an cdv ct) := ⟨⟨oc, od, kV, doc, pm, an, cdv, ct, osl, rfl, l, c⟩, k⟩
end
theorem small1000 {n : Nat} (h : n ≤ 1000) : n < sizeLine := Nat.lt_of_le_of_lt h (by decide)

/-! ### expressions in short: the name that stands in the i-th slot -/
section
variable {X : Cx}
end

/-! ### tests -/
theorem iteF {A B : Prop} (h : B) : if false = true then A else B := by
  rw [if_neg Bool.false_ne_true]
  exact h
theorem iteT {A B : Prop} (h : A) : if true = true then A else B := by
  rw [if_pos rfl]
  exact h
/-! ### heaps -/
/-- all that was tracked is as it was -/
def Same (H H' : Hp) : Prop := ∀ b o, H b = some o → H' b = some o
theorem Same.refl (H : Hp) : Same H H := fun _ _ h => h
theorem Same.trans {H H1 H2 : Hp} (a : Same H H1) (b : Same H1 H2) : Same H H2 := fun c o h => b c o (a c o h)
theorem Same.free {H H' : Hp} (e : Same H H') {l : Addr} (h : H' l = Option.none) : H l = Option.none := by
  cases q : H l with
  | none => rfl
  | some o =>
    rw [e l o q] at h
    cases h
theorem Same.seq {K : PySem.W.Frag} {H H' : Hp} {a : Addr} {xs : List V} (e : Same H H') (h : SqL K H a xs) : SqL K H' a xs := by
  rcases h with (h | ⟨o, h⟩) | h
  · exact .inl (.inl (e _ _ h))
  · exact .inl (.inr ⟨o, e _ _ h⟩)
  · exact .inr h

end L2

set_option maxHeartbeats 400000

/-! FL: a heap-free reading of the layer: values are data D, a def is a relation between data. -/
namespace FL
open PySem PySem.Spec PyProof.Rows L2

inductive D where
  | non | bl (b : Bool) | int (i : Int) | str (x : Str) | ty (n : String)
  | tup (ds : List D)
  /-- a list that is read -/
  | ls (ds : List D)
  /-- a list of this def's own making, at a -/
  | lst (a : Addr) (ds : List D)
  /-- an object of which only its place is told -/
  | ob (a : Addr)

mutual
inductive Is (K : PySem.W.Frag) (H : Hp) : V → D → Prop
  | non : Is K H .non .non
  | bl (b : Bool) : Is K H (.bl b) (.bl b)
  | int (i : Int) : Is K H (.int i) (.int i)
  | str (x : Str) : Is K H (.str x) (.str x)
  | ty (n : String) : Is K H (.ty n) (.ty n)
  | tup {a : Addr} {xs : List V} {ds : List D} (h : SqT K H a xs) (r : IsAll K H xs ds) : Is K H (.ref a) (.tup ds)
  | ls {a : Addr} {xs : List V} {ds : List D} (h : SqL K H a xs) (r : IsAll K H xs ds) : Is K H (.ref a) (.ls ds)
  | lst {a : Addr} {xs : List V} {ds : List D} (h : H a = some (.lst xs)) (r : IsAll K H xs ds) : Is K H (.ref a) (.lst a ds)
  | ob (a : Addr) : Is K H (.ref a) (.ob a)
inductive IsAll (K : PySem.W.Frag) (H : Hp) : List V → List D → Prop
  | nil : IsAll K H [] []
  | cons {v : V} {vs : List V} {d : D} {ds : List D} (h : Is K H v d) (r : IsAll K H vs ds) : IsAll K H (v :: vs) (d :: ds)
end

theorem sameT {K : PySem.W.Frag} {H H' : Hp} {a : Addr} {xs : List V} (e : Same H H') (h : SqT K H a xs) : SqT K H' a xs := by
  rcases h with (h | ⟨o, h⟩) | h
  · exact .inl (.inl (e _ _ h))
  · exact .inl (.inr ⟨o, e _ _ h⟩)
  · exact .inr h

mutual
theorem Is.mono {K : PySem.W.Frag} {H H' : Hp} (e : Same H H') : ∀ {v : V} {d : D}, Is K H v d → Is K H' v d
  | _, _, .non => .non
  | _, _, .bl b => .bl b
  | _, _, .int i => .int i
  | _, _, .str x => .str x
  | _, _, .ty n => .ty n
  | _, _, .tup h r => .tup (sameT e h) (IsAll.mono e r)
  | _, _, .ls h r => .ls (e.seq h) (IsAll.mono e r)
  | _, _, .lst h r => .lst (e _ _ h) (IsAll.mono e r)
  | _, _, .ob a => .ob a
theorem IsAll.mono {K : PySem.W.Frag} {H H' : Hp} (e : Same H H') : ∀ {vs : List V} {ds : List D}, IsAll K H vs ds → IsAll K H' vs ds
  | _, _, .nil => .nil
  | _, _, .cons h r => .cons (Is.mono e h) (IsAll.mono e r)
end

theorem IsAll.length {K : PySem.W.Frag} {H : Hp} : ∀ {vs : List V} {ds : List D}, IsAll K H vs ds → vs.length = ds.length
  | _, _, .nil => rfl
  | _, _, .cons _ r => by simp [IsAll.length r]
theorem IsAll.get {K : PySem.W.Frag} {H : Hp} : ∀ {vs : List V} {ds : List D}, IsAll K H vs ds → ∀ {i : Nat} {d : D}, ds[i]? = some d → ∃ v, vs[i]? = some v ∧ Is K H v d
  | _, _, .nil, i, d, e => by simp at e
  | _, _, .cons h r, 0, d, e => by simp at e; subst e; exact ⟨_, rfl, h⟩
  | _, _, .cons h r, i + 1, d, e => by
    obtain ⟨v, e1, h1⟩ := IsAll.get r (i := i) (d := d) (by simpa using e)
    exact ⟨v, by simpa using e1, h1⟩
theorem IsAll.append {K : PySem.W.Frag} {H : Hp} : ∀ {vs us : List V} {ds es : List D}, IsAll K H vs ds → IsAll K H us es → IsAll K H (vs ++ us) (ds ++ es)
  | _, _, _, _, .nil, s => s
  | _, _, _, _, .cons h r, s => .cons h (IsAll.append r s)
theorem IsAll.ints {K : PySem.W.Frag} {H : Hp} : ∀ (ns : List Int), IsAll K H (ns.map V.int) (ns.map D.int)
  | [] => .nil
  | n :: ns => .cons (.int n) (IsAll.ints ns)

theorem Is.int_inv {K : PySem.W.Frag} {H : Hp} {v : V} {i : Int} (h : Is K H v (.int i)) : v = .int i := by cases h; rfl
theorem Is.bl_inv {K : PySem.W.Frag} {H : Hp} {v : V} {b : Bool} (h : Is K H v (.bl b)) : v = .bl b := by cases h; rfl
theorem Is.str_inv {K : PySem.W.Frag} {H : Hp} {v : V} {x : Str} (h : Is K H v (.str x)) : v = .str x := by cases h; rfl
theorem Is.ty_inv {K : PySem.W.Frag} {H : Hp} {v : V} {x : String} (h : Is K H v (.ty x)) : v = .ty x := by cases h; rfl
theorem Is.non_inv {K : PySem.W.Frag} {H : Hp} {v : V} (h : Is K H v .non) : v = .non := by cases h; rfl
theorem Is.ob_inv {K : PySem.W.Frag} {H : Hp} {v : V} {a : Addr} (h : Is K H v (.ob a)) : v = .ref a := by cases h; rfl
theorem Is.tup_inv {K : PySem.W.Frag} {H : Hp} {v : V} {ds : List D} (h : Is K H v (.tup ds)) : ∃ a xs, v = .ref a ∧ SqT K H a xs ∧ IsAll K H xs ds := by
  cases h with
  | tup h r => exact ⟨_, _, rfl, h, r⟩
theorem Is.lst_inv {K : PySem.W.Frag} {H : Hp} {v : V} {ds : List D} {a : Addr} (h : Is K H v (.lst a ds)) : v = .ref a ∧ ∃ xs, H a = some (.lst xs) ∧ IsAll K H xs ds := by
  cases h with
  | lst h r => exact ⟨rfl, _, h, r⟩
theorem Is.ls_inv {K : PySem.W.Frag} {H : Hp} {v : V} {ds : List D} (h : Is K H v (.ls ds)) : ∃ a xs, v = .ref a ∧ SqL K H a xs ∧ IsAll K H xs ds := by
  cases h with
  | ls h r => exact ⟨_, _, rfl, h, r⟩
/-- the items of what is read as a list -/
def lsD : D → Option (List D)
  | .ls ds => some ds
  | .lst _ ds => some ds
  | _ => none
theorem Is.lsD_inv {K : PySem.W.Frag} {H : Hp} {v : V} {d : D} {ds : List D} (h : Is K H v d) (e : lsD d = some ds) : ∃ a xs, v = .ref a ∧ SqL K H a xs ∧ IsAll K H xs ds := by
  cases d with
  | ls es => cases e; exact h.ls_inv
  | lst a es => cases e; obtain ⟨h1, xs, h2, h3⟩ := h.lst_inv; exact ⟨a, xs, h1, .of h2, h3⟩
  | _ => cases e

/-- no list within: no store touches it -/
inductive Fz : D → Prop
  | non : Fz .non
  | bl (b : Bool) : Fz (.bl b)
  | int (i : Int) : Fz (.int i)
  | str (x : Str) : Fz (.str x)
  | ty (n : String) : Fz (.ty n)
  | ob (a : Addr) : Fz (.ob a)
  | tup {ds : List D} (h : ∀ d ∈ ds, Fz d) : Fz (.tup ds)
theorem Fz.tup_inv {ds : List D} (h : Fz (.tup ds)) : ∀ d ∈ ds, Fz d := by cases h with | tup h => exact h
theorem Fz.no_ls {ds : List D} (h : Fz (.ls ds)) : False := by cases h
theorem Fz.no_lst {a : Addr} {ds : List D} (h : Fz (.lst a ds)) : False := by cases h
/-- what stays through any store: tuples and frozen things -/
def KT (H H' : Hp) : Prop := (∀ b xs, H b = some (.tup xs) → H' b = some (.tup xs)) ∧ ∀ b o u, H b = some (.frz o u) → H' b = some (.frz o u)
theorem KT.seqT {K : PySem.W.Frag} {H H' : Hp} {a : Addr} {xs : List V} (e : KT H H') (h : SqT K H a xs) : SqT K H' a xs := by
  rcases h with (h | ⟨o, h⟩) | h
  · exact .inl (.inl (e.1 _ _ h))
  · exact .inl (.inr ⟨o, e.2 _ _ _ h⟩)
  · exact .inr h
mutual
theorem Is.keep {K : PySem.W.Frag} {H H' : Hp} (e : KT H H') : ∀ {v : V} {d : D}, Is K H v d → Fz d → Is K H' v d
  | _, _, .non, _ => .non
  | _, _, .bl b, _ => .bl b
  | _, _, .int i, _ => .int i
  | _, _, .str x, _ => .str x
  | _, _, .ty n, _ => .ty n
  | _, _, .tup h r, f => .tup (e.seqT h) (IsAll.keep e r f.tup_inv)
  | _, _, .ls _ _, f => f.no_ls.elim
  | _, _, .lst _ _, f => f.no_lst.elim
  | _, _, .ob a, _ => .ob a
theorem IsAll.keep {K : PySem.W.Frag} {H H' : Hp} (e : KT H H') : ∀ {vs : List V} {ds : List D}, IsAll K H vs ds → (∀ d ∈ ds, Fz d) → IsAll K H' vs ds
  | _, _, .nil, _ => .nil
  | _, _, .cons h r, f => .cons (Is.keep e h (f _ List.mem_cons_self)) (IsAll.keep e r fun d hd => f d (List.mem_cons_of_mem _ hd))
end

abbrev Ro := List (Option D)
/-- a list of the def's own making stands in a slot -/
def Mu (ρ : Ro) (a : Addr) : Prop := ∃ (i : Nat) (ds : List D), ρ[i]? = some (some (.lst a ds))
/-- the frame's names hold these data; what was tracked at the entry is as it was; what is neither plain data nor a list of the def's own was there at the entry -/
structure RelS (X : Cx) (Hb H : Hp) (σ : L2.St) (ρ : Ro) : Prop where
  same : Same Hb H
  len : σ.length = ρ.length
  val : ∀ (i : Nat) (d : D), ρ[i]? = some (some d) → ∃ v, σ[i]? = some (some v) ∧ Is X.K H v d ∧ (Fz d ∨ Is X.K Hb v d ∨ ∃ a ds, d = .lst a ds ∧ ∀ e ∈ ds, Fz e)
  own : ∀ a, Mu ρ a → Hb a = none
theorem RelS.mono {X : Cx} {Hb H H' : Hp} {σ : L2.St} {ρ : Ro} (r : RelS X Hb H σ ρ) (e : Same H H') : RelS X Hb H' σ ρ :=
  ⟨r.same.trans e, r.len, fun i d h => let ⟨v, a, b, c⟩ := r.val i d h; ⟨v, a, b.mono e, c⟩, r.own⟩
theorem RelS.mu {X : Cx} {Hb H : Hp} {σ : L2.St} {ρ : Ro} (r : RelS X Hb H σ ρ) {a : Addr} (h : Mu ρ a) : ∃ xs, H a = some (.lst xs) := by
  obtain ⟨i, ds, e⟩ := h
  obtain ⟨v, _, h, _⟩ := r.val i _ e
  obtain ⟨_, xs, h, _⟩ := h.lst_inv
  exact ⟨xs, h⟩
theorem set_get {ρ : Ro} {n j : Nat} {d e : D} (h : (ρ.set n (some d))[j]? = some (some e)) : (j = n ∧ e = d ∧ n < ρ.length) ∨ (j ≠ n ∧ ρ[j]? = some (some e)) := by
  by_cases hji : n = j
  · subst hji
    rw [List.getElem?_set, if_pos rfl] at h
    by_cases hl : n < ρ.length
    · rw [if_pos hl] at h
      cases h
      exact .inl ⟨rfl, rfl, hl⟩
    · rw [if_neg hl] at h; cases h
  · rw [List.getElem?_set_ne hji] at h
    exact .inr ⟨fun z => hji z.symm, h⟩
theorem RelS.set {X : Cx} {Hb H : Hp} {σ : L2.St} {ρ : Ro} (r : RelS X Hb H σ ρ) {v : V} {d : D} (h : Is X.K H v d) (n : Nat) (hf : Fz d ∨ Is X.K Hb v d ∨ ∃ a ds, d = .lst a ds ∧ ∀ e ∈ ds, Fz e) (ho : ∀ a ds, d = .lst a ds → Hb a = none) :
    RelS X Hb H (σ.set n (some v)) (ρ.set n (some d)) := by
  refine ⟨r.same, by simp [r.len], fun j e hj => ?_, fun a ⟨j, ds, hj⟩ => ?_⟩
  · rcases set_get hj with ⟨rfl, rfl, hl⟩ | ⟨hne, hj⟩
    · refine ⟨v, ?_, h, hf⟩
      rw [List.getElem?_set, if_pos rfl, if_pos (by rw [r.len]; exact hl)]
    · obtain ⟨u, h1, h2⟩ := r.val j e hj
      exact ⟨u, by rw [List.getElem?_set_ne (fun z => hne z.symm)]; exact h1, h2⟩
  · rcases set_get hj with ⟨rfl, e, hl⟩ | ⟨hne, hj⟩
    · exact ho a ds e.symm
    · exact r.own a ⟨j, ds, hj⟩
/-- from one point of a body to a later one -/
structure Go (ρ : Ro) (H : Hp) (ρ' : Ro) (H' : Hp) : Prop where
  kept : ∀ b o, H b = some o → ¬ Mu ρ b → H' b = some o
  mu : ∀ a, Mu ρ' a → Mu ρ a ∨ H a = none
theorem Go.refl (ρ : Ro) (H : Hp) : Go ρ H ρ H := ⟨fun _ _ h _ => h, fun _ h => .inl h⟩
theorem Go.trans {ρ ρ1 ρ2 : Ro} {H H1 H2 : Hp} (a : Go ρ H ρ1 H1) (b : Go ρ1 H1 ρ2 H2) : Go ρ H ρ2 H2 where
  kept := fun c o h n => b.kept c o (a.kept c o h n) fun m => by
    rcases a.mu c m with z | z
    · exact n z
    · rw [h] at z; cases z
  mu := fun c m => by
    rcases b.mu c m with z | z
    · exact a.mu c z
    · by_cases hc : Mu ρ c
      · exact .inl hc
      · refine .inr ?_
        cases q : H c with
        | none => rfl
        | some o => rw [a.kept c o q hc] at z; cases z
theorem Go.same {ρ : Ro} {H H' : Hp} (e : Same H H') : Go ρ H ρ H' := ⟨fun b o h _ => e b o h, fun _ h => .inl h⟩
theorem Go.kt {X : Cx} {ρ ρ' : Ro} {Hb H H' : Hp} {σ : L2.St} (g : Go ρ H ρ' H') (r : RelS X Hb H σ ρ) : KT H H' :=
  ⟨fun b _ h => g.kept b _ h (fun m => by obtain ⟨ys, e⟩ := r.mu m; rw [h] at e; cases e), fun b _ _ h => g.kept b _ h (fun m => by obtain ⟨ys, e⟩ := r.mu m; rw [h] at e; cases e)⟩
theorem Go.set {ρ : Ro} {H H' : Hp} (e : Same H H') {d : D} {n : Nat} (hd : ∀ a ds, d = .lst a ds → Mu ρ a ∨ H a = none) : Go ρ H (ρ.set n (some d)) H' :=
  ⟨fun b o h _ => e b o h, fun a ⟨j, ds, hj⟩ => by
    rcases set_get hj with ⟨rfl, q, _⟩ | ⟨_, hj⟩
    · exact hd a ds q.symm
    · exact .inl ⟨j, ds, hj⟩⟩

/-- the names' data alone: what an expression needs -/
structure RelE (X : Cx) (H : Hp) (σ : L2.St) (ρ : Ro) : Prop where
  len : σ.length = ρ.length
  val : ∀ (i : Nat) (d : D), ρ[i]? = some (some d) → ∃ v, σ[i]? = some (some v) ∧ Is X.K H v d
theorem RelE.mono {X : Cx} {H H' : Hp} {σ : L2.St} {ρ : Ro} (r : RelE X H σ ρ) (e : Same H H') : RelE X H' σ ρ := ⟨r.len, fun i d h => let ⟨v, a, b⟩ := r.val i d h; ⟨v, a, b.mono e⟩⟩
theorem RelS.e {X : Cx} {Hb H : Hp} {σ : L2.St} {ρ : Ro} (r : RelS X Hb H σ ρ) : RelE X H σ ρ := ⟨r.len, fun i d h => let ⟨v, a, b, _⟩ := r.val i d h; ⟨v, a, b⟩⟩

/-- the int in a slot -/
def intAt (ρ : Ro) (i : Nat) : Int := match ρ[i]? with
  | some (some (D.int l)) => l
  | _ => 0

/-! ### the judgements -/
def tD (X : Cx) (ρ : Ro) (d : D) : TE := fun σ H Q => RelE X H σ ρ ∧ ∀ v H', Same H H' → Is X.K H' v d → Q v H'
def tB (X : Cx) (ρ : Ro) (b : Bool) : TT := fun σ H Q => RelE X H σ ρ ∧ ∀ H', Same H H' → Q b H'
def tDs (X : Cx) (ρ : Ro) (ds : List D) : TA := fun σ H Q => RelE X H σ ρ ∧ ∀ vs H', Same H H' → IsAll X.K H' vs ds → Q vs H'
def Ev (X : Cx) (e : Expr) (ρ : Ro) (d : D) : Prop := PE X e (tD X ρ d)
def Et (X : Cx) (e : Expr) (ρ : Ro) (b : Bool) : Prop := PT X e (tB X ρ b)
def Ew (X : Cx) (e : Expr) (ρ : Ro) (b : Bool) : Prop := PW X e (tB X ρ b)
def EvA (X : Cx) (es : List Expr) (ρ : Ro) (ds : List D) : Prop := PA X es (tDs X ρ ds)

section
variable {X : Cx} {e a b c : Expr} {es : List Expr} {ρ : Ro} {d : D} {ds : List D} {pos : Pos} {i j : Int} {k k' : Bool}

theorem Ev.tt {p : Prop} [Decidable p] (h : Ev X e ρ (.bl (decide p))) (hp : p) : Ev X e ρ (.bl true) := by rw [decide_eq_true hp] at h; exact h
theorem Et.ff' {p : Prop} [Decidable p] (h : Et X e ρ (decide p)) (hp : ¬ p) : Et X e ρ false := by rw [decide_eq_false hp] at h; exact h
/-- a != b where they are the same -/
theorem Et.ff {p : Prop} [Decidable p] (h : Et X e ρ (!decide p)) (hp : p) : Et X e ρ false := by rw [decide_eq_true hp] at h; exact h
theorem PE.imp {t t' : TE} (h : PE X e t) (f : ∀ σ H Q, t' σ H Q → t σ H Q) : PE X e t' := fun pins s σ H Q I q => h pins s σ H Q I (f σ H Q q)
theorem PT.imp {t t' : TT} (h : PT X e t) (f : ∀ σ H Q, t' σ H Q → t σ H Q) : PT X e t' := fun pins s σ H Q I q => h pins s σ H Q I (f σ H Q q)
theorem PW.imp {t t' : TT} (h : PW X e t) (f : ∀ σ H Q, t' σ H Q → t σ H Q) : PW X e t' := fun whole pins s σ H Q I q => h whole pins s σ H Q I (f σ H Q q)
theorem PA.imp {t t' : TA} (h : PA X es t) (f : ∀ σ H Q, t' σ H Q → t σ H Q) : PA X es t' := fun pos pins s σ H Q I q => h pos pins s σ H Q I (f σ H Q q)
theorem PS.imp {st : Stmt} {t t' : TS} (h : PS X st t) (f : ∀ D σ H, t' D σ H → t D σ H) : PS X st t' := fun pins s σ H D I q => h pins s σ H D I (f D σ H q)
theorem PSs.imp {st : List Stmt} {t t' : TS} (h : PSs X st t) (f : ∀ D σ H, t' D σ H → t D σ H) : PSs X st t' := fun pins s σ H D I q => h pins s σ H D I (f D σ H q)

theorem ev_v (n : Nat) {x : Str} (hρ : ρ[n]? = some (some d) := by rfl) (hN : X.N[n]? = some x := by rfl) (hv : Vis X.env.scope x := by first | exact Or.inl rfl | exact Or.inr (Or.inl rfl) | exact Or.inr (Or.inr rfl))
    (hd : (x == ("__debug__" : Str)) = false := by decide) (hcd : (x == ("__classdict__" : Str)) = false := by decide) : Ev X (.Name x pos) ρ d :=
  PE.imp (pe_var hN hv hd hcd) fun σ H Q ⟨r, q⟩ => let ⟨v, h1, h2⟩ := r.val n d hρ; ⟨v, h1, q v H (Same.refl H) h2⟩
theorem ev_int {z : Int} {m} : Ev X (.Constant (.int z) m pos) ρ (.int z) := PE.imp pe_int fun _ H _ ⟨_, q⟩ => q _ H (Same.refl H) (.int z)
theorem ev_bl {z : Bool} {m} : Ev X (.Constant (.bool z) m pos) ρ (.bl z) := PE.imp pe_bl fun _ H _ ⟨_, q⟩ => q _ H (Same.refl H) (.bl z)
/-- a built-in type by its name -/
theorem ev_ty {x : Str} {n : String} (hm : X.mg x = none) (hv : bootBuiltins x = some (.type n)) (hg : Gl X x := by rfl) (hn : x ≠ "__name__" := by decide) (hd : (x == ("__debug__" : Str)) = false := by decide) : Ev X (.Name x pos) ρ (.ty n) :=
  PE.imp (pe_bltn hg hm hv (v := .ty n) rfl hn hd) fun _ H _ ⟨_, q⟩ => q _ H (Same.refl H) (.ty n)

/-- two-place operations -/
theorem ev_op {op : Operator} {r : R2} {d1 d2 : D} (ho : OpR X (binaryOp op) r) (ha : Ev X a ρ d1) (hb : Ev X b ρ d2)
    (hr : ∀ v1 v2 H Q, Is X.K H v1 d1 → Is X.K H v2 d2 → (∀ v H', Same H H' → Is X.K H' v d → Q v H') → r v1 v2 H Q) : Ev X (.BinOp a op b pos) ρ d :=
  PE.imp (pe_op ho ha hb) fun σ H Q ⟨r, q⟩ => ⟨r, fun v1 H1 s1 h1 => ⟨r.mono s1, fun v2 H2 s2 h2 => hr v1 v2 H2 Q (h1.mono s2) h2 fun v H' s3 h3 => q v H' (s1.trans (s2.trans s3)) h3⟩⟩
theorem ev_cmp {op : CmpOp} {r : R2} {d1 d2 : D} (ho : OpR X (compareOp op) r) (ha : Ev X a ρ d1) (hb : Ev X b ρ d2) (hm : behindInMarks op b = false)
    (hr : ∀ v1 v2 H Q, Is X.K H v1 d1 → Is X.K H v2 d2 → (∀ v H', Same H H' → Is X.K H' v d → Q v H') → r v1 v2 H Q) : Ev X (.Compare a [op] [b] pos) ρ d :=
  PE.imp (pe_cmpR ho ha hb hm) fun σ H Q ⟨r, q⟩ => ⟨r, fun v1 H1 s1 h1 => ⟨r.mono s1, fun v2 H2 s2 h2 => hr v1 v2 H2 Q (h1.mono s2) h2 fun v H' s3 h3 => q v H' (s1.trans (s2.trans s3)) h3⟩⟩
theorem et_cmp {op : CmpOp} {r : R2} {d1 d2 : D} (ho : OpR X (compareOp op) r) (ha : Ev X a ρ d1) (hb : Ev X b ρ d2) (hm : behindInMarks op b = false)
    (hr : ∀ v1 v2 H Q, Is X.K H v1 d1 → Is X.K H v2 d2 → (∀ v H', Same H H' → Is X.K H' v (.bl k) → Q v H') → r v1 v2 H Q) : Et X (.Compare a [op] [b] pos) ρ k :=
  PT.imp (pt_cmpR ho ha hb hm) fun σ H Q ⟨r, q⟩ => ⟨r, fun v1 H1 s1 h1 => ⟨r.mono s1, fun v2 H2 s2 h2 => hr v1 v2 H2 _ (h1.mono s2) h2 fun v H' s3 h3 => ⟨k, h3.bl_inv, q H' (s1.trans (s2.trans s3))⟩⟩⟩

theorem rI_of {C : Int → Int → Prop} {g : Int → Int → V} (hC : C i j) (hg : ∀ H, Is X.K H (g i j) d) :
    ∀ v1 v2 H Q, Is X.K H v1 (.int i) → Is X.K H v2 (.int j) → (∀ v H', Same H H' → Is X.K H' v d → Q v H') → rI C g v1 v2 H Q :=
  fun _ _ H _ h1 h2 q => ⟨i, j, h1.int_inv, h2.int_inv, hC, q _ H (Same.refl H) (hg H)⟩
theorem rI0_of {g : Int → Int → V} (hg : ∀ H, Is X.K H (g i j) d) :
    ∀ v1 v2 H Q, Is X.K H v1 (.int i) → Is X.K H v2 (.int j) → (∀ v H', Same H H' → Is X.K H' v d → Q v H') → rI0 g v1 v2 H Q :=
  fun _ _ H _ h1 h2 q => ⟨i, j, h1.int_inv, h2.int_inv, q _ H (Same.refl H) (hg H)⟩

theorem ev_add (ha : Ev X a ρ (.int i)) (hb : Ev X b ρ (.int j)) : Ev X (.BinOp a .Add b pos) ρ (.int (i + j)) := ev_op op_add ha hb (rI0_of fun _ => .int _)
theorem ev_sub (ha : Ev X a ρ (.int i)) (hb : Ev X b ρ (.int j)) : Ev X (.BinOp a .Sub b pos) ρ (.int (i - j)) := ev_op op_sub ha hb (rI0_of fun _ => .int _)
theorem op_mulB : OpR X (binaryOp .Mult) (rI IntMulOk fun i j => .int (i * j)) := opI fun _ _ _ _ _ _ _ hc q => mul_int q hc

/-! ### sizes: a number below 2 ^ m, the exponent found by instances -/
class Bd (i : Int) (m : outParam Nat) : Prop where
  lt : Builtin.Int.intBits i ≤ m
theorem mulOk {i j : Int} {m n : Nat} (hi : Bd i m) (hj : Bd j n) (h : m + n ≤ 134217728) : IntMulOk i j := IntMulOk.of_le hi.lt hj.lt h
theorem ev_mul {m n : Nat} (ha : Ev X a ρ (.int i)) (hb : Ev X b ρ (.int j)) (hi : Bd i m) (hj : Bd j n) (h : m + n ≤ 134217728 := by decide) : Ev X (.BinOp a .Mult b pos) ρ (.int (i * j)) :=
  ev_op op_mulB ha hb (rI_of (mulOk hi hj h) fun _ => .int _)
theorem ev_mod (ha : Ev X a ρ (.int i)) (hb : Ev X b ρ (.int j)) (h : 0 < j) : Ev X (.BinOp a .Mod b pos) ρ (.int (i % j)) := ev_op op_mod ha hb (rI_of h fun _ => .int _)
theorem ev_modN (ha : Ev X a ρ (.int i)) (hb : Ev X b ρ (.int j)) (h : j ≠ 0) : Ev X (.BinOp a .Mod b pos) ρ (.int (i.fmod j)) := ev_op op_modN ha hb (rI_of h fun _ => .int _)
def CDivB (_ j : Int) : Prop := 0 < j ∧ Builtin.Int.intBits j ≤ 9000
theorem op_fdivB : OpR X (binaryOp .FloorDiv) (rI CDivB fun i j => .int (i / j)) := opI fun i j _ _ _ _ _ hc q => by
  have h1 : (0 : Int) < j := hc.1
  refine floordiv_int (by omega) (by rw [Int.fdiv_eq_ediv_of_nonneg i (by omega)]; exact q) (.inl (PyProof.noPylong_of_log2 ?_))
  have h2 := intBits_le_iff.mp hc.2
  exact (Nat.log2_lt (by omega)).mpr h2
theorem ev_div {m : Nat} (ha : Ev X a ρ (.int i)) (hb : Ev X b ρ (.int j)) (h : 0 < j) (hj : Bd j m) (hm : m ≤ 9000 := by decide) : Ev X (.BinOp a .FloorDiv b pos) ρ (.int (i / j)) :=
  ev_op op_fdivB ha hb (rI_of ⟨h, Nat.le_trans hj.lt hm⟩ fun _ => .int _)
theorem ev_neg (ha : Ev X a ρ (.int i)) : Ev X (.UnaryOp .USub a pos) ρ (.int (-i)) :=
  PE.imp (pe_un un_neg ha) fun σ H Q ⟨r, q⟩ => ⟨r, fun v1 H1 s1 h1 => ⟨i, h1.int_inv, q _ H1 s1 (.int _)⟩⟩

theorem ev_lt (ha : Ev X a ρ (.int i)) (hb : Ev X b ρ (.int j)) : Ev X (.Compare a [.Lt] [b] pos) ρ (.bl (decide (i < j))) := ev_cmp op_lt ha hb (nomark _) (rI0_of fun _ => .bl _)
theorem ev_gt (ha : Ev X a ρ (.int i)) (hb : Ev X b ρ (.int j)) : Ev X (.Compare a [.Gt] [b] pos) ρ (.bl (decide (j < i))) := ev_cmp op_gt ha hb (nomark _) (rI0_of fun _ => .bl _)
theorem ev_ge (ha : Ev X a ρ (.int i)) (hb : Ev X b ρ (.int j)) : Ev X (.Compare a [.GtE] [b] pos) ρ (.bl (decide (j ≤ i))) := ev_cmp op_ge ha hb (nomark _) (rI0_of fun _ => .bl _)
theorem et_lt (ha : Ev X a ρ (.int i)) (hb : Ev X b ρ (.int j)) : Et X (.Compare a [.Lt] [b] pos) ρ (decide (i < j)) := et_cmp op_lt ha hb (nomark _) (rI0_of fun _ => .bl _)
theorem et_le (ha : Ev X a ρ (.int i)) (hb : Ev X b ρ (.int j)) : Et X (.Compare a [.LtE] [b] pos) ρ (decide (i ≤ j)) := et_cmp op_le ha hb (nomark _) (rI0_of fun _ => .bl _)
theorem et_gt (ha : Ev X a ρ (.int i)) (hb : Ev X b ρ (.int j)) : Et X (.Compare a [.Gt] [b] pos) ρ (decide (j < i)) := et_cmp op_gt ha hb (nomark _) (rI0_of fun _ => .bl _)
theorem dec_V {i j : Int} : decide (V.int i = V.int j) = decide (i = j) := by
  by_cases h : i = j
  · subst h; simp
  · rw [decide_eq_false h, decide_eq_false (fun z => h (V.int.inj z))]
theorem rEq_of : ∀ v1 v2 H Q, Is X.K H v1 (.int i) → Is X.K H v2 (.int j) → (∀ v H', Same H H' → Is X.K H' v (.bl (decide (i = j))) → Q v H') → rEq v1 v2 H Q := fun v1 v2 H Q h1 h2 q => by
  cases h1.int_inv; cases h2.int_inv
  exact ⟨rfl, by rw [dec_V]; exact q _ H (Same.refl H) (.bl _)⟩
theorem rNe_of : ∀ v1 v2 H Q, Is X.K H v1 (.int i) → Is X.K H v2 (.int j) → (∀ v H', Same H H' → Is X.K H' v (.bl (!decide (i = j))) → Q v H') → rNe v1 v2 H Q := fun v1 v2 H Q h1 h2 q => by
  cases h1.int_inv; cases h2.int_inv
  exact ⟨rfl, by rw [dec_V]; exact q _ H (Same.refl H) (.bl _)⟩
theorem ev_eq (ha : Ev X a ρ (.int i)) (hb : Ev X b ρ (.int j)) : Ev X (.Compare a [.Eq] [b] pos) ρ (.bl (decide (i = j))) := ev_cmp op_eq ha hb (nomark _) rEq_of
theorem et_eq (ha : Ev X a ρ (.int i)) (hb : Ev X b ρ (.int j)) : Et X (.Compare a [.Eq] [b] pos) ρ (decide (i = j)) := et_cmp op_eq ha hb (nomark _) rEq_of
theorem et_ne (ha : Ev X a ρ (.int i)) (hb : Ev X b ρ (.int j)) : Et X (.Compare a [.NotEq] [b] pos) ρ (!decide (i = j)) := et_cmp op_ne ha hb (nomark _) rNe_of
/-! ### truth -/
theorem et_val (h : Ev X e ρ (.bl k)) (he : ∀ whole, isTrue e X.env whole = (do let v ← whole; standAt e.pos; holding [v] (truthy v)) := by intro _; rfl) : Et X e ρ k :=
  PT.imp (pt_val h he) fun σ H Q ⟨r, q⟩ => ⟨r, fun v H' s h => ⟨k, h.bl_inv, q H' s⟩⟩
theorem et_not (h : Et X a ρ k) : Et X (.UnaryOp .Not a pos) ρ (!k) := PT.imp (pt_not h) fun σ H Q ⟨r, q⟩ => ⟨r, fun H' s => q H' s⟩
theorem et_notT (h : Et X a ρ true) : Et X (.UnaryOp .Not a pos) ρ false := et_not h
theorem ew_and1 (h : Et X a ρ k) : Ew X (.BoolOp .And [a] pos) ρ k := PW.imp (pw_and1 h) fun _ _ _ q => q
theorem ew_or1 (h : Et X a ρ k) : Ew X (.BoolOp .Or [a] pos) ρ k := PW.imp (pw_or1 h) fun _ _ _ q => q
theorem ew_andF {rest : List Expr} (h : Et X a ρ false) : Ew X (.BoolOp .And (a :: b :: rest) pos) ρ false :=
  PW.imp (pw_and (tB' := fun _ _ _ => False) h (fun _ _ _ _ _ _ _ z => z.elim)) fun σ H Q ⟨r, q⟩ => ⟨r, fun H' s => iteF (q H' s)⟩
theorem ew_andT {rest : List Expr} (h : Et X a ρ true) (h2 : Ew X (.BoolOp .And (b :: rest) pos) ρ k) : Ew X (.BoolOp .And (a :: b :: rest) pos) ρ k :=
  PW.imp (pw_and h h2) fun σ H Q ⟨r, q⟩ => ⟨r, fun H' s => iteT ⟨r.mono s, fun H'' s' => q H'' (s.trans s')⟩⟩
theorem ew_and {rest : List Expr} (h : Et X a ρ k) (h2 : k = true → Ew X (.BoolOp .And (b :: rest) pos) ρ k') : Ew X (.BoolOp .And (a :: b :: rest) pos) ρ (k && k') := by
  cases k with
  | false => exact ew_andF h
  | true => exact ew_andT h (h2 rfl)
theorem ew_orT {rest : List Expr} (h : Et X a ρ true) : Ew X (.BoolOp .Or (a :: b :: rest) pos) ρ true :=
  PW.imp (pw_or (tB' := fun _ _ _ => False) h (fun _ _ _ _ _ _ _ z => z.elim)) fun σ H Q ⟨r, q⟩ => ⟨r, fun H' s => iteT (q H' s)⟩
theorem ew_orF {rest : List Expr} (h : Et X a ρ false) (h2 : Ew X (.BoolOp .Or (b :: rest) pos) ρ k) : Ew X (.BoolOp .Or (a :: b :: rest) pos) ρ k :=
  PW.imp (pw_or h h2) fun σ H Q ⟨r, q⟩ => ⟨r, fun H' s => iteF ⟨r.mono s, fun H'' s' => q H'' (s.trans s')⟩⟩
theorem ew_or {rest : List Expr} (h : Et X a ρ k) (h2 : k = false → Ew X (.BoolOp .Or (b :: rest) pos) ρ k') : Ew X (.BoolOp .Or (a :: b :: rest) pos) ρ (k || k') := by
  cases k with
  | true => exact ew_orT h
  | false => exact ew_orF h (h2 rfl)
theorem Et.to (h : Et X e ρ k) (z : k = k') : Et X e ρ k' := z ▸ h
theorem Ev.to {d' : D} (h : Ev X e ρ d) (z : d = d') : Ev X e ρ d' := z ▸ h
theorem et_w (h : Ew X e ρ k) : Et X e ρ k := PW.pt h
/-- and, or, not as values -/
theorem ev_one {op} (h : Ev X a ρ d) : Ev X (.BoolOp op [a] pos) ρ d := pe_one h
theorem ev_andF {rest : List Expr} (h : Ev X a ρ (.bl false)) : Ev X (.BoolOp .And (a :: b :: rest) pos) ρ (.bl false) :=
  PE.imp (pe_and (tb := fun _ _ _ => False) h (fun _ _ _ _ _ _ z => z.elim)) fun σ H Q ⟨r, q⟩ => ⟨r, fun v H' s h => ⟨false, h.bl_inv, iteF (q _ H' s (.bl false))⟩⟩
theorem ev_andT {rest : List Expr} (h : Ev X a ρ (.bl true)) (h2 : Ev X (.BoolOp .And (b :: rest) pos) ρ d) : Ev X (.BoolOp .And (a :: b :: rest) pos) ρ d :=
  PE.imp (pe_and h h2) fun σ H Q ⟨r, q⟩ => ⟨r, fun v H' s h => ⟨true, h.bl_inv, iteT ⟨r.mono s, fun v' H'' s' h' => q v' H'' (s.trans s') h'⟩⟩⟩
theorem ev_and {rest : List Expr} (h : Ev X a ρ (.bl k)) (h2 : k = true → Ev X (.BoolOp .And (b :: rest) pos) ρ (.bl k')) : Ev X (.BoolOp .And (a :: b :: rest) pos) ρ (.bl (k && k')) := by
  cases k with
  | false => exact ev_andF h
  | true => exact ev_andT h (h2 rfl)
theorem ev_orT {rest : List Expr} (h : Ev X a ρ (.bl true)) : Ev X (.BoolOp .Or (a :: b :: rest) pos) ρ (.bl true) :=
  PE.imp (pe_or (tb := fun _ _ _ => False) h (fun _ _ _ _ _ _ z => z.elim)) fun σ H Q ⟨r, q⟩ => ⟨r, fun v H' s h => ⟨true, h.bl_inv, iteT (q _ H' s (.bl true))⟩⟩
theorem ev_orF {rest : List Expr} (h : Ev X a ρ (.bl false)) (h2 : Ev X (.BoolOp .Or (b :: rest) pos) ρ d) : Ev X (.BoolOp .Or (a :: b :: rest) pos) ρ d :=
  PE.imp (pe_or h h2) fun σ H Q ⟨r, q⟩ => ⟨r, fun v H' s h => ⟨false, h.bl_inv, iteF ⟨r.mono s, fun v' H'' s' h' => q v' H'' (s.trans s') h'⟩⟩⟩
theorem ev_or {rest : List Expr} (h : Ev X a ρ (.bl k)) (h2 : k = false → Ev X (.BoolOp .Or (b :: rest) pos) ρ (.bl k')) : Ev X (.BoolOp .Or (a :: b :: rest) pos) ρ (.bl (k || k')) := by
  cases k with
  | true => exact ev_orT h
  | false => exact ev_orF h (h2 rfl)
theorem ev_not (h : Ev X a ρ (.bl k)) : Ev X (.UnaryOp .Not a pos) ρ (.bl (!k)) :=
  PE.imp (pe_not h) fun σ H Q ⟨r, q⟩ => ⟨r, fun v H' s h => ⟨k, h.bl_inv, q _ H' s (.bl _)⟩⟩
theorem ev_notF (h : Ev X a ρ (.bl false)) : Ev X (.UnaryOp .Not a pos) ρ (.bl true) := ev_not h
/-! ### arguments, tuples, indexes -/
theorem ea_nil : EvA X [] ρ [] := PA.imp pa_nil fun _ H _ ⟨_, q⟩ => q [] H (Same.refl H) .nil
theorem ea_cons (ha : Ev X e ρ d) (hr : EvA X es ρ ds) (hs : starEach (e :: es) X.env = (false, eval e X.env) :: starEach es X.env := by rfl) : EvA X (e :: es) ρ (d :: ds) :=
  PA.imp (pa_cons ha hr hs) fun σ H Q ⟨r, q⟩ => ⟨r, fun v H1 s1 h1 => ⟨r.mono s1, fun vs H2 s2 h2 => q _ H2 (s1.trans s2) (.cons (h1.mono s2) h2)⟩⟩
theorem same_new {H : Hp} {p : Addr} {o : HO} (h : H p = none) : Same H (upd H p o) := fun b u e => by
  rw [upd_ne (ne_of_none e h)]; exact e
theorem ev_tup {m} (h : EvA X es ρ ds) (hl : ds.length ≤ 1000 := by exact Nat.le_of_ble_eq_true rfl) : Ev X (.Tuple es m pos) ρ (.tup ds) :=
  PE.imp (pe_tup h) fun σ H Q ⟨r, q⟩ => ⟨r, fun vs H1 s1 h1 => ⟨by rw [h1.length]; exact Nat.le_of_lt (small1000 hl), fun p hp => q _ _ (s1.trans (same_new hp)) (.tup (.of upd_same) (h1.mono (same_new hp)))⟩⟩
theorem atI_map {K : PySem.W.Frag} {H : Hp} {vs : List V} {ds : List D} (h : IsAll K H vs ds) {d : D} (e : atI ds i = some d) : ∃ v, atI vs i = some v ∧ Is K H v d := by
  unfold atI at e ⊢
  rw [h.length]
  cases q : ixN ds.length i with
  | none => rw [q] at e; cases e
  | some n =>
    rw [q] at e
    exact h.get (i := n) e
theorem ev_ix (ha : Ev X a ρ (.tup ds)) (hb : Ev X b ρ (.int i)) (hi : atI ds i = some d) (hs : PlainIx b := by exact fun _ _ => rfl) : Ev X (.Subscript a b pos) ρ d :=
  PE.imp (pe_ix ix_tup ha hb hs) fun σ H Q ⟨r, q⟩ => ⟨r, fun v1 H1 s1 h1 => ⟨r.mono s1, fun v2 H2 s2 h2 => by
    obtain ⟨p, xs, rfl, h3, h4⟩ := (h1.mono s2).tup_inv
    obtain ⟨v, e, h5⟩ := atI_map h4 hi
    exact ⟨p, xs, i, v, rfl, h2.int_inv, h3, e, q v H2 (s1.trans s2) h5⟩⟩⟩
theorem ev_ixl {d' : D} (ha : Ev X a ρ d') (hl : lsD d' = some ds) (hb : Ev X b ρ (.int i)) (hi : atI ds i = some d) (hs : PlainIx b := by exact fun _ _ => rfl) : Ev X (.Subscript a b pos) ρ d :=
  PE.imp (pe_ix ix_list ha hb hs) fun σ H Q ⟨r, q⟩ => ⟨r, fun v1 H1 s1 h1 => ⟨r.mono s1, fun v2 H2 s2 h2 => by
    obtain ⟨l, xs, rfl, h3, h4⟩ := (h1.mono s2).lsD_inv hl
    obtain ⟨v, e, h5⟩ := atI_map h4 hi
    exact ⟨l, xs, i, v, rfl, h2.int_inv, h3, e, q v H2 (s1.trans s2) h5⟩⟩⟩

/-! ### built-in functions -/
theorem ev_callB {x : Str} {id : String} {r : List V → Hp → VK → Prop} (hc : CallR X (.builtin id) r) (hm : X.mg x = none) (hv : bootBuiltins x = some (.builtin id)) (ha : EvA X (e :: es) ρ ds)
    (hr : ∀ vs H Q, IsAll X.K H vs ds → (∀ v H', Same H H' → Is X.K H' v d → Q v H') → r vs H Q)
    (hg : Gl X x := by rfl) (hn : x ≠ "__name__" := by decide) (hdb : (x == ("__debug__" : Str)) = false := by decide)
    (he : starEach (e :: es) X.env = (false, eval e X.env) :: starEach es X.env := by rfl) (hpl : (backTo pos (starEach es X.env)).any (·.1) = false := by rfl) {p : Pos} : Ev X (.Call (.Name x p) (e :: es) [] pos) ρ d :=
  PE.imp (pe_callB hc hg hm hv ha hn hdb he hpl) fun σ H Q ⟨r, q⟩ => ⟨r, fun vs H1 s1 h1 => hr vs H1 Q h1 fun v H' s' h => q v H' (s1.trans s') h⟩
theorem one_inv {K : PySem.W.Frag} {H : Hp} {vs : List V} {d : D} (h : IsAll K H vs [d]) : ∃ v, vs = [v] ∧ Is K H v d := by
  cases h with
  | cons h r => cases r; exact ⟨_, rfl, h⟩
theorem two_inv {K : PySem.W.Frag} {H : Hp} {vs : List V} {d d' : D} (h : IsAll K H vs [d, d']) : ∃ v v', vs = [v, v'] ∧ Is K H v d ∧ Is K H v' d' := by
  cases h with
  | cons h r =>
    obtain ⟨v', rfl, h'⟩ := one_inv r
    exact ⟨_, _, rfl, h, h'⟩
theorem ev_abs {p : Pos} (hm : X.mg "abs" = none) (ha : Ev X a ρ (.int i)) (hg : Gl X "abs" := by rfl) (he : starEach [a] X.env = [(false, eval a X.env)] := by rfl) : Ev X (.Call (.Name "abs" p) [a] [] pos) ρ (.int (i.natAbs : Int)) :=
  ev_callB call_abs hm (by decide +kernel) (ea_cons ha ea_nil he) (fun vs H Q h0 q => by
    obtain ⟨v, rfl, h⟩ := one_inv h0
    cases h.int_inv
    refine ⟨i, rfl, ?_⟩
    have e : (if i < 0 then -i else i) = (i.natAbs : Int) := by split <;> omega
    rw [e]
    exact q _ H (Same.refl H) (.int _)) hg (by decide) (by decide) he rfl
def lenD : D → Option Nat
  | .tup ds => some ds.length
  | .ls ds => some ds.length
  | .lst _ ds => some ds.length
  | .str x => if x.length ≤ 16777216 then some x.length else none
  | _ => none
theorem ev_len {p : Pos} {n : Nat} (hm : X.mg "len" = none) (ha : Ev X a ρ d) (hl : lenD d = some n) (hg : Gl X "len" := by rfl) (he : starEach [a] X.env = [(false, eval a X.env)] := by rfl) : Ev X (.Call (.Name "len" p) [a] [] pos) ρ (.int (n : Int)) :=
  ev_callB call_len hm (by decide +kernel) (ea_cons ha ea_nil he) (fun vs H Q h0 q => by
    obtain ⟨v, rfl, h⟩ := one_inv h0
    refine ⟨v, n, rfl, ?_, q _ H (Same.refl H) (.int _)⟩
    cases d with
    | tup ds =>
      obtain ⟨a, xs, rfl, h1, h2⟩ := h.tup_inv
      cases hl
      exact .inr ⟨xs, h1, h2.length.symm⟩
    | ls ds =>
      obtain ⟨a, xs, rfl, h1, h2⟩ := h.ls_inv
      cases hl
      exact .inl ⟨xs, h1, h2.length.symm⟩
    | lst a ds =>
      obtain ⟨rfl, xs, h1, h2⟩ := h.lst_inv
      cases hl
      exact .inl ⟨xs, .of h1, h2.length.symm⟩
    | str x =>
      cases h.str_inv
      have hl' : (if x.length ≤ 16777216 then some x.length else none) = some n := hl
      by_cases hx : x.length ≤ 16777216
      · rw [if_pos hx] at hl'
        cases hl'
        exact ⟨by rw [sizeLine_eq]; exact hx, rfl⟩
      · rw [if_neg hx] at hl'
        cases hl'
    | _ => cases hl) hg (by decide) (by decide) he rfl
end

/-! ### isinstance -/
def tyD : D → Option String
  | .non => some "NoneType"
  | .bl _ => some "bool"
  | .int _ => some "int"
  | .str _ => some "str"
  | .tup _ => some "tuple"
  | .ls _ => some "list"
  | .lst _ _ => some "list"
  | .ty _ => none
  | .ob _ => none
theorem call_isi {X : Cx} {d : D} {T U : String} {k : Bool} (ht : tyD d = some T) (hk : PySem.W.kitOne X.K (.type T) (.type U) = some k) :
    CallR X (.builtin "isinstance") (fun vs H Q => ∃ v, vs = [v, .ty U] ∧ Is X.K H v d ∧ Q (.bl k) H) := by
  intro pins s σ H xs us Q I r h
  obtain ⟨v, rfl, h, q⟩ := h
  obtain ⟨u, w', rfl, rx, ry⟩ := vals2 r
  cases ry
  have fin : ∀ tk, EP X pins σ Q (.bool k) { s with toks := tk } := fun tk => ⟨.bl k, H, I.tok tk, rfl, q⟩
  cases d with
  | non => cases h.non_inv; cases ht; exact isinst_ok I rx .non hk fin
  | bl b => cases h.bl_inv; cases ht; exact isinst_ok I rx (.bl b) hk fin
  | int i => cases h.int_inv; cases ht; exact isinst_ok I rx (.int i) hk fin
  | str x => cases h.str_inv; cases ht; exact isinst_ok I rx (.str x) hk fin
  | tup ds =>
    obtain ⟨a, xs, rfl, h1, _⟩ := h.tup_inv
    cases ht
    cases rx
    obtain ⟨its, _, ⟨o, e1, e2, _⟩, _⟩ := I.tuple h1
    exact PySem.W.kia_one PySem.W.kitx_tuple I.kIn ⟨o, e1, e2⟩ hk (fun z => nomatch z) fin
  | ls ds =>
    obtain ⟨a, xs, rfl, h1, _⟩ := h.ls_inv
    cases ht
    cases rx
    obtain ⟨its, _, p, _⟩ := I.list h1
    obtain ⟨o, e1, e2, _⟩ := p.isList
    exact PySem.W.kia_one PySem.W.kitx_list I.kIn ⟨o, e1, e2⟩ hk (fun z => nomatch z) fin
  | lst a ds =>
    obtain ⟨rfl, xs, h1, _⟩ := h.lst_inv
    cases ht
    cases rx
    obtain ⟨its, _, p, _⟩ := I.list (.of h1)
    obtain ⟨o, e1, e2, _⟩ := p.isList
    exact PySem.W.kia_one PySem.W.kitx_list I.kIn ⟨o, e1, e2⟩ hk (fun z => nomatch z) fin
  | ty n => cases ht
  | ob a => cases ht
section
variable {X : Cx} {e a b c : Expr} {es : List Expr} {ρ : Ro} {d : D} {ds : List D} {pos : Pos} {i j : Int} {k k' : Bool}
theorem ev_isi {x : Str} {U T : String} {p p2 : Pos} (hm : X.mg "isinstance" = none) (ha : Ev X a ρ d) (hmT : X.mg x = none) (hv : bootBuiltins x = some (.type U)) (ht : tyD d = some T) (hk : PySem.W.kitOne X.K (.type T) (.type U) = some k)
    (hg : Gl X "isinstance" := by rfl) (hgT : Gl X x := by rfl) (hn : x ≠ "__name__" := by decide) (hd : (x == ("__debug__" : Str)) = false := by decide)
    (he : starEach [a, .Name x p2] X.env = [(false, eval a X.env), (false, eval (.Name x p2) X.env)] := by rfl) (hb : (backTo pos (starEach [.Name x p2] X.env)).any (·.1) = false := by rfl) :
    Ev X (.Call (.Name "isinstance" p) [a, .Name x p2] [] pos) ρ (.bl k) :=
  ev_callB (call_isi ht hk) hm (by decide +kernel) (ea_cons ha (ea_cons (ev_ty hmT hv hgT hn hd) ea_nil) he) (fun vs H Q h q => by
    obtain ⟨v, v', rfl, h1, h2⟩ := two_inv h
    cases h2.ty_inv
    exact ⟨v, rfl, h1, q _ H (Same.refl H) (.bl k)⟩) hg (by decide) (by decide) he hb
end
end FL

/-! FS: statements and defs over data -/
namespace FL
open PySem PySem.Spec PyProof.Rows L2

/-- what is wanted behind statements -/
structure Po where
  nx : Ro → Prop
  rt : D → Prop
  bk : Ro → Prop := fun _ => False
  ct : Ro → Prop := fun _ => False
def tPo (X : Cx) (ρ : Ro) (P : Po) : TS := fun D σ H => RelS X X.H₀ H σ ρ ∧ (∀ σ' H' ρ', Go ρ H ρ' H' → RelS X X.H₀ H' σ' ρ' → P.nx ρ' → D.nx σ' H') ∧ (∀ v H' d, Same X.H₀ H' → Is X.K H' v d → (∀ a es, d = .lst a es → X.H₀ a = none) → P.rt d → D.rt v H') ∧
  (∀ σ' H' ρ', Go ρ H ρ' H' → RelS X X.H₀ H' σ' ρ' → P.bk ρ' → D.bk σ' H') ∧ (∀ σ' H' ρ', Go ρ H ρ' H' → RelS X X.H₀ H' σ' ρ' → P.ct ρ' → D.ct σ' H')
def Do (X : Cx) (sts : List Stmt) (ρ : Ro) (P : Po) : Prop := PSs X sts (tPo X ρ P)

section
variable {X : Cx} {e a b c : Expr} {es : List Expr} {ρ : Ro} {d : D} {ds : List D} {pos : Pos} {i j : Int} {k k' : Bool} {rest A B : List Stmt} {P : Po} {st : Stmt}

theorem do_nil (h : P.nx ρ) : Do X [] ρ P := PSs.imp pss_nil fun D σ H ⟨r, q, _⟩ => q σ H ρ (Go.refl ρ H) r h
theorem Do.mono {Q : Po} (h : Do X A ρ P) (h1 : ∀ ρ, P.nx ρ → Q.nx ρ) (h2 : ∀ d, P.rt d → Q.rt d) (h3 : ∀ ρ, P.bk ρ → Q.bk ρ) (h4 : ∀ ρ, P.ct ρ → Q.ct ρ) : Do X A ρ Q :=
  PSs.imp h fun D σ H ⟨r, q1, q2, q3, q4⟩ => ⟨r, fun σ' H' ρ' g r' p => q1 σ' H' ρ' g r' (h1 _ p), fun v H' d s i o p => q2 v H' d s i o (h2 _ p), fun σ' H' ρ' g r' p => q3 σ' H' ρ' g r' (h3 _ p), fun σ' H' ρ' g r' p => q4 σ' H' ρ' g r' (h4 _ p)⟩
/-- a statement, then the rest: M holds between -/
theorem do_seq {M : Ro → Prop} (h1 : PS X st (tPo X ρ { P with nx := M })) (h2 : ∀ ρ', M ρ' → Do X rest ρ' P) : Do X (st :: rest) ρ P := by
  refine PSs.imp (pss_cons (u := fun D σ H => ∃ ρ', M ρ' ∧ tPo X ρ' P D σ H) h1 (fun pins s σ H D I ⟨ρ', m, q⟩ => h2 ρ' m pins s σ H D I q)) ?_
  rintro D σ H ⟨r, q1, q2, q3, q4⟩
  exact ⟨r, fun σ' H' ρ' g r' m => ⟨ρ', m, r', fun σ2 H2 ρ2 g2 => q1 σ2 H2 ρ2 (g.trans g2), q2, fun σ2 H2 ρ2 g2 => q3 σ2 H2 ρ2 (g.trans g2), fun σ2 H2 ρ2 g2 => q4 σ2 H2 ρ2 (g.trans g2)⟩, q2, q3, q4⟩
theorem do_ret (he : Ev X e ρ d) (h : P.rt d) (hn : ∀ a es, d = .lst a es → Mu ρ a := by intro _ _ z; cases z) : Do X (.Return (some e) pos :: rest) ρ P := by
  refine PSs.imp (pss_cons (u := tNever) (ps_ret he) pss_never) ?_
  rintro D σ H ⟨r, q1, q2, q3, q4⟩
  exact ⟨r.e, fun v H' s h' => q2 v H' d (r.same.trans s) h' (fun a es z => r.own a (hn a es z)) h⟩
theorem do_set (n : Nat) {x : Str} {pos' : Pos} (he : Ev X e ρ d) (hz : Fz d) (h : Do X rest (ρ.set n (some d)) P) (hN : X.N.Nodup) (hi : X.N[n]? = some x := by rfl) (hx : Loc X.env.scope x := by first | exact Or.inl rfl | exact Or.inr rfl)
    (hs : swapsWith e (some (.Name x pos')) pos.line X.env = pure false := by rfl) (hf : X.fn x = true ∨ X.env.scope.names.lookup x = some .local := by first | exact .inl rfl | exact .inr rfl) : Do X (.Assign [.Name x pos'] e pos :: rest) ρ P := by
  refine do_seq (M := fun ρ' => ρ' = ρ.set n (some d)) (PS.imp (ps_set hN hi hx he hs hf) ?_) (fun _ z => z ▸ h)
  rintro D σ H ⟨r, q1, q2, q3, q4⟩
  have no : ∀ a ds, d = .lst a ds → False := fun a ds z => by subst z; cases hz
  exact ⟨r.e, fun v H' s h' => q1 _ H' _ (Go.set s fun a ds z => (no a ds z).elim) ((r.mono s).set h' n (.inl hz) fun a ds z => (no a ds z).elim) rfl⟩
theorem do_expr (he : Ev X e ρ d) (h : Do X rest ρ P) (hs : swapsWith e none pos.line X.env = pure false := by rfl) : Do X (.Expr e pos :: rest) ρ P := by
  refine do_seq (M := fun ρ' => ρ' = ρ) (PS.imp (ps_expr he hs) ?_) (fun _ z => z ▸ h)
  rintro D σ H ⟨r, q1, q2, q3, q4⟩
  exact ⟨r.e, fun v H' s h' => q1 _ H' _ (Go.same s) (r.mono s) rfl⟩
/-- if: M holds between the two ways' ends and the rest -/
theorem do_if (M : Ro → Prop) (hc : Et X c ρ k) (hA : k = true → Do X A ρ { P with nx := M }) (hB : k = false → Do X B ρ { P with nx := M }) (h : ∀ ρ', M ρ' → Do X rest ρ' P) : Do X (.If c A B pos :: rest) ρ P := by
  refine do_seq (M := M) (PS.imp (ps_if hc (t := fun D σ H => k = true ∧ tPo X ρ { P with nx := M } D σ H) (u := fun D σ H => k = false ∧ tPo X ρ { P with nx := M } D σ H)
    (fun pins s σ H D I ⟨z, q⟩ => hA z pins s σ H D I q) (fun pins s σ H D I ⟨z, q⟩ => hB z pins s σ H D I q)) ?_) h
  rintro D σ H ⟨r, q1, q2, q3, q4⟩
  refine ⟨r.e, fun H' s => ?_⟩
  have q : tPo X ρ { P with nx := M } D σ H' := ⟨r.mono s, fun σ2 H2 ρ2 g2 => q1 σ2 H2 ρ2 ((Go.same s).trans g2), q2, fun σ2 H2 ρ2 g2 => q3 σ2 H2 ρ2 ((Go.same s).trans g2), fun σ2 H2 ρ2 g2 => q4 σ2 H2 ρ2 ((Go.same s).trans g2)⟩
  cases k with
  | true => exact iteT ⟨rfl, q⟩
  | false => exact iteF ⟨rfl, q⟩
/-- the test is false and there is no else -/
theorem do_ifF (hc : Et X c ρ false) (h : Do X rest ρ P) : Do X (.If c A [] pos :: rest) ρ P :=
  do_if (fun ρ' => ρ' = ρ) hc (fun z => by cases z) (fun _ => do_nil rfl) (fun _ z => z ▸ h)
/-- the way through the suite leaves -/
theorem do_ifR (hc : Et X c ρ k) (hA : k = true → Do X A ρ { P with nx := fun _ => False }) (h : k = false → Do X rest ρ P) : Do X (.If c A [] pos :: rest) ρ P :=
  do_if (fun ρ' => ρ' = ρ ∧ k = false) hc (fun z => (hA z).mono (fun _ f => f.elim) (fun _ p => p) (fun _ p => p) (fun _ p => p)) (fun z => do_nil ⟨rfl, z⟩) (fun _ z => z.1 ▸ h z.2)
/-- while -/
theorem do_while (Iv M : Ro → Prop) (μ : Ro → Nat) (hp : PassesOwn (model X.prog X.w) X.A X.env X.xe) (h0 : Iv ρ)
    (hs : ∀ ρ, Iv ρ → ∃ k, Et X c ρ k ∧ (k = true → Do X A ρ { nx := fun ρ' => Iv ρ' ∧ μ ρ' < μ ρ, rt := P.rt, bk := M, ct := fun ρ' => Iv ρ' ∧ μ ρ' < μ ρ }) ∧ (k = false → M ρ))
    (h : ∀ ρ', M ρ' → Do X rest ρ' P) : Do X (.While c A [] pos :: rest) ρ P := by
  refine do_seq (M := M) ?_ h
  have hc : PT X c (fun σ H Q => ∃ ρ k, Et X c ρ k ∧ tB X ρ k σ H Q) := fun pins s σ H Q I ⟨ρ, k, e, q⟩ => e pins s σ H Q I q
  have hb : PSs X A (fun D σ H => ∃ ρ, Do X A ρ { nx := fun ρ' => Iv ρ' ∧ μ ρ' < μ ρ, rt := P.rt, bk := M, ct := fun ρ' => Iv ρ' ∧ μ ρ' < μ ρ } ∧ tPo X ρ { nx := fun ρ' => Iv ρ' ∧ μ ρ' < μ ρ, rt := P.rt, bk := M, ct := fun ρ' => Iv ρ' ∧ μ ρ' < μ ρ } D σ H) :=
    fun pins s σ H D I ⟨ρ, e, q⟩ => e pins s σ H D I q
  refine PS.imp (ps_while hp hc hb) ?_
  rintro D σ H ⟨r, q1, q2, q3, q4⟩
  refine ⟨fun m σ' H' => ∃ ρ', m = μ ρ' ∧ Iv ρ' ∧ RelS X X.H₀ H' σ' ρ' ∧ Go ρ H ρ' H', ⟨_, ρ, rfl, h0, r, Go.refl ρ H⟩, ?_⟩
  rintro m σ1 H1 ⟨ρ1, rfl, iv, r1, g1⟩
  obtain ⟨k, et, ht, hf⟩ := hs ρ1 iv
  refine ⟨ρ1, k, et, r1.e, fun H2 s => ?_⟩
  have g2 : Go ρ H ρ1 H2 := g1.trans (Go.same s)
  cases k with
  | true =>
    refine iteT ⟨fun σ' H' => ∃ ρ', Iv ρ' ∧ μ ρ' < μ ρ1 ∧ RelS X X.H₀ H' σ' ρ' ∧ Go ρ H ρ' H', fun σ' H' ⟨ρ', a, b, c, g⟩ => ⟨_, b, ρ', rfl, a, c, g⟩, ρ1, ht rfl, r1.mono s, ?_, q2, ?_, ?_⟩
    · exact fun σ' H' ρ' g r' ⟨a, b⟩ => ⟨ρ', a, b, r', g2.trans g⟩
    · exact fun σ' H' ρ' g r' m => q1 σ' H' ρ' (g2.trans g) r' m
    · exact fun σ' H' ρ' g r' ⟨a, b⟩ => ⟨ρ', a, b, r', g2.trans g⟩
  | false => exact iteF (q1 σ1 H2 ρ1 g2 (r1.mono s) (hf rfl))

end

/-! ### defs -/
/-- a def's promise over data: at arguments ds it hands back d where Pf ds d -/
def SpD (K : PySem.W.Frag) (Pf : List D → D → Prop) : Sp := fun vs H Q _ => ∃ ds d, IsAll K H vs ds ∧ Pf ds d ∧ ∀ v H', Same H H' → Is K H' v d → Q v H'
/-- a def of the text that may be called by its name -/
def Fn (P : Program) (w : World) (K : PySem.W.Frag) (mg : Str → Option Value) (base : Heap) (k : Nat) (x : Str) (Pf : List D → D → Prop) : Prop :=
  ∃ f fd ps, FnOk P w K mg base CX0 k f fd ps (SpD K Pf) ∧ mg x = some (.ref f) ∧ PySem.W.keepIn K (.ref f) = true ∧ Binds K fd ps []
section
variable {X : Cx} {e a b c : Expr} {es : List Expr} {ρ : Ro} {d : D} {ds : List D} {pos : Pos}
theorem ev_call {k : Nat} {x : Str} {Pf : List D → D → Prop} {p : Pos} (C : Fn X.prog X.w X.K X.mg X.base k x Pf) (hr : Room k X.A) (ha : EvA X (e :: es) ρ ds) (hp : Pf ds d) (hg : Gl X x := by rfl) (hdb : (x == ("__debug__" : Str)) = false := by decide)
    (he : starEach (e :: es) X.env = (false, eval e X.env) :: starEach es X.env := by rfl) (hpl : (backTo pos (starEach es X.env)).any (·.1) = false := by rfl) : Ev X (.Call (.Name x p) (e :: es) [] pos) ρ d := by
  obtain ⟨f, fd, ps, F, hm, hk, hb⟩ := C
  refine PE.imp (pe_call F hr hg hm hk hb .nil pass0 ha hdb he hpl) ?_
  rintro σ H Q ⟨r, q⟩
  refine ⟨r, fun vs H1 s1 h1 => ⟨ds, d, ?_, hp, fun v H' s' h' => q v H' (s1.trans s') h'⟩⟩
  rw [List.append_nil]
  exact h1
end
section
variable {P : Program} {w : World} {K : PySem.W.Frag} {mg : Str → Option Value} {base : Heap}
theorem relS_start {X : Cx} {N : List Str} {vs : List V} {ds : List D} (h : IsAll X.K X.H₀ vs ds) (nl : ∀ a es, D.lst a es ∉ ds) : RelS X X.H₀ X.H₀ (L2.start N vs) (ds.map some ++ List.replicate (N.length - ds.length) none) := by
  refine ⟨Same.refl _, ?_, fun i d e => ?_, fun a ⟨i, es, e⟩ => ?_⟩
  · unfold L2.start
    simp [h.length]
  · have hi : ds[i]? = some d := by
      by_cases hl : i < ds.length
      · rw [List.getElem?_append_left (by simpa using hl), List.getElem?_map] at e
        cases q : ds[i]? with
        | none => rw [q] at e; cases e
        | some z => rw [q] at e; cases e; rfl
      · rw [List.getElem?_append_right (by simpa using hl), List.getElem?_replicate] at e
        split at e <;> cases e
    obtain ⟨v, e1, h1⟩ := h.get hi
    refine ⟨v, ?_, h1, .inr (.inl h1)⟩
    unfold L2.start
    have hl : i < vs.length := (List.getElem?_eq_some_iff.mp e1).1
    rw [List.getElem?_append_left (by simpa using hl), List.getElem?_map, e1]
    rfl
  · exfalso
    by_cases hl : i < ds.length
    · rw [List.getElem?_append_left (by simpa using hl), List.getElem?_map] at e
      cases q : ds[i]? with
      | none => rw [q] at e; cases e
      | some z => rw [q] at e; cases e; exact nl a es (List.mem_of_getElem? q)
    · rw [List.getElem?_append_right (by simpa using hl), List.getElem?_replicate] at e
      split at e <;> cases e
/-- the context of a def's body -/
abbrev cxD (P : Program) (w : World) (K : PySem.W.Frag) (mg : Str → Option Value) (base : Heap) (N : List Str) (qual : Str) (st : Stmt) (f : Addr) (cdv : Value) (A : Around) (outer : List Env) (s : Shared) (H : Hp) (E : XK) : Cx :=
  (cxOf CX0 P w K mg base N qual (defScope st) f cdv A outer s H E).nox
/-- the data at the entry -/
abbrev ini (N : List Str) (ds : List D) : Ro := ds.map some ++ List.replicate (N.length - ds.length) none
/-- THE RULE for a def over data -/
theorem fn_ok {x qual : Str} {st : Stmt} {f : Addr} {fd : FuncData} {N ps : List Str} {k : Nat} {Pf : List D → D → Prop} (F : Fun K x qual st f fd) (S : FnScope N ps (defScope st))
    (hl : ∀ ds d, Pf ds d → ds.length = ps.length ∧ ∀ a es, D.lst a es ∉ ds)
    (hbody : ∀ (cdv : Value) (A : Around) (outer : List Env) (s : Shared) (H : Hp) (E : XK), Room k (A.deeper (envOfC qual (defScope st) s.heap.objs.size f cdv)) → ∀ ds d, Pf ds d →
      Do (cxD P w K mg base N qual st f cdv A outer s H E) (defBody st) (ini N ds) { nx := fun _ => d = .non, rt := fun d' => d' = d }) : FnOk P w K mg base CX0 (k + 1) f fd ps (SpD K Pf) := by
  refine F.ok S (fun vs H Q E h => ?_) (fun cdv A outer s H vs Q E hr h => ?_)
  · obtain ⟨ds, d, h1, h2, _⟩ := h
    rw [h1.length]
    exact (hl ds d h2).1
  · obtain ⟨ds, d, h1, h2, q⟩ := h
    refine ⟨_, hbody cdv A outer s H E hr ds d h2, ?_⟩
    refine ⟨relS_start (X := cxD P w K mg base N qual st f cdv A outer s H E) h1 (hl ds d h2).2, fun σ' H' ρ' _ r' z => ?_, fun v H' d' sm hv _ z => ?_, fun _ _ _ _ _ z => z.elim, fun _ _ _ _ _ z => z.elim⟩
    · have z' : d = .non := z
      subst z'
      exact q _ H' r'.same .non
    · have z' : d' = d := z
      subst z'
      exact q v H' sm hv
theorem fn_mk {x qual : Str} {st : Stmt} {f : Addr} {fd : FuncData} {N ps : List Str} {k : Nat} {Pf : List D → D → Prop} (F : Fun K x qual st f fd) (S : FnScope N ps (defScope st)) (hm : mg x = some (.ref f)) (hb : Binds K fd ps [])
    (hl : ∀ ds d, Pf ds d → ds.length = ps.length ∧ ∀ a es, D.lst a es ∉ ds)
    (hbody : ∀ (cdv : Value) (A : Around) (outer : List Env) (s : Shared) (H : Hp) (E : XK), Room k (A.deeper (envOfC qual (defScope st) s.heap.objs.size f cdv)) → ∀ ds d, Pf ds d →
      Do (cxD P w K mg base N qual st f cdv A outer s H E) (defBody st) (ini N ds) { nx := fun _ => d = .non, rt := fun d' => d' = d }) : Fn P w K mg base (k + 1) x Pf :=
  ⟨f, fd, ps, fn_ok F S hl hbody, hm, F.kp, hb⟩
end
end FL

/-! FC: list comprehensions with one for and at most one if -/
namespace FL
open PySem PySem.Spec PyProof.Rows L2

/-- the block of a comprehension -/
def blk (X : Cx) (scope : Scope) (cl : List (Str × Addr)) (N : List Str) (C : Addr) (s₀ : Shared) (H₀ : Hp) (fp : List Addr) : Cx :=
  { X with N := N, s₀ := s₀, H₀ := H₀, env := compEnvC scope cl C X.env, outer := X.stack, ex := fp, fn := fun _ => false, pn := [], xe := fun _ _ => False }

section
variable {prog : Program} {w : World} {A : Around} {R : Result → Shared → Prop} {s : Shared}
theorem compLoop_any {elt target iter : Expr} {ifs : List Expr} {scope : Scope} {pos : Pos} {it acc : Value} {env : Env} (I : Nat → Shared → Prop)
    (turn : ∀ n s, I n s → wpAny (model prog w) A (pyNext it) (fun r s₁ => match r with
      | none => R (.ok .next) s₁
      | some v => wpAny (model prog w) A (letOwnedTupleGo target it v) (fun _ s₁' => wpAny (model prog w) A (assign target env v) (fun _ s₂ =>
          wpAny (model prog w) A (forIn ifs true fun c r => if r = true then do let ok ← isTrue c env (eval c env); pure (ForInStep.yield ok) else pure (ForInStep.yield r)) (fun ok s₃ =>
            if ok = true then wpAny (model prog w) A (eval elt env) (fun x s₄ =>
              wpAny (model prog w) A (call (.builtin "list.append") [acc, x]) (fun _ s₅ => ∃ m, m < n ∧ I m s₅) (fun _ _ => False) s₄) (fun _ _ => False) s₃
            else ∃ m, m < n ∧ I m s₃) (fun _ _ => False) s₂) (fun _ _ => False) s₁') (fun _ _ => False) s₁) (fun _ _ => False) s)
    (n : Nat) (h : I n s) : codeAny (model prog w) A (.compLoop (.ListComp elt [⟨target, iter, ifs, 0⟩] scope pos) 0 it acc env) R s := by
  refine codeAny_loop rfl I (fun n s hI => ?_) n h
  show wpAny _ A ((compTurn (.ListComp elt [⟨target, iter, ifs, 0⟩] scope pos) 0 it acc env).onRaise (fun x => do noteFrame x env; theTreesLotGoes x)) _ _ s
  refine wpAny_noted ?_
  rw [compTurn_list]
  refine wpAny_bind (wpAny_standAt (wpAny_bind (wpAny_mono (turn n s hI) (fun r s₁ h₁ => ?_) fun _ _ h' => h'.elim)))
  cases r with
  | none => exact wpAny_pure h₁
  | some v =>
    refine wpAny_bind (wpAny_mono h₁ (fun _ s₁' h₁' => ?_) fun _ _ h' => h'.elim)
    refine wpAny_bind (wpAny_mono h₁' (fun _ s₂ h₂ => wpAny_bind (wpAny_mono h₂ (fun ok s₃ h₃ => ?_) fun _ _ h' => h'.elim)) fun _ _ h' => h'.elim)
    cases ok with
    | false => exact wpAny_pure ⟨rfl, h₃⟩
    | true =>
      exact wpAny_bind (wpAny_bind (wpAny_mono h₃ (fun x s₄ h₄ => wpAny_bind (wpAny_mono h₄ (fun _ s₅ h₅ => wpAny_pure (wpAny_pure ⟨rfl, h₅⟩)) fun _ _ h' => h'.elim)) fun _ _ h' => h'.elim))
end

/-- the tests of a comprehension -/
def PTs (X : Cx) (ifs : List Expr) (t : TT) : Prop :=
  ∀ (pins : List (Addr × Obj)) (s : Shared) (σ : L2.St) (H : Hp) (Q : Bool → Hp → Prop), Inv X pins σ H s → t σ H Q →
    wpAny (model X.prog X.w) X.A (forIn ifs true fun c r => if r = true then do let ok ← isTrue c X.env (eval c X.env); pure (ForInStep.yield ok) else pure (ForInStep.yield r)) (TP X pins σ Q) X.xe s
theorem pts_nil {X : Cx} : PTs X [] (fun _ H Q => Q true H) := fun _ _ _ H _ I h => wpAny_tests_nil ⟨H, I, h⟩
theorem pts_one {X : Cx} {c : Expr} {t : TT} (h : PT X c t) : PTs X [c] t := fun pins s σ H Q I q => wpAny_tests_one (h pins s σ H Q I q)

/-- the values of the names that the block reads from around it -/
def frees (js : List Nat) (σ : L2.St) : L2.St := js.map fun j => (σ[j]?).join
def tComp (X : Cx) (js : List Nat) (wi : TI) (tt : Cx → TT) (te : Cx → TE) : TE := fun σ H Q => wi σ H fun J H2 => ∀ D, H2 D = none → ∀ Y : Cx, Y.H₀ = upd H2 D (.lst []) → Y.K = X.K →
  ∃ W : Nat → Nat → List V → Hp → Prop, (∃ m, W 0 m [] (upd H2 D (.lst []))) ∧ ∀ i m ys H3, H3 D = some (.lst ys) → W i m ys H3 →
    (J.stop i H3 ∧ Q (.ref D) H3) ∨ (J.go i H3 ∧ ∀ x H4, J.yld i H3 x H4 → tt Y (some x :: frees js σ) H4 fun ok H5 =>
      if ok = true then te Y (some x :: frees js σ) H5 fun y H6 => ∃ zs, H6 D = some (.lst zs) ∧ zs.length < sizeLine ∧ ∃ m', m' < m ∧ W (i + 1) m' (zs ++ [y]) (upd H6 D (.lst (zs ++ [y])))
      else ∃ zs m', H5 D = some (.lst zs) ∧ m' < m ∧ W (i + 1) m' zs H5)

theorem pe_comp {X : Cx} {elt iter : Expr} {x : Str} {px : Pos} {ifs : List Expr} {scope : Scope} {cl : List (Str × Addr)} {pos : Pos} {ys : List Str} {js : List Nat} {wi : TI} {tt : Cx → TT} {te : Cx → TE}
    (hc : X.calm = true) (hi : PI X (.Name x px) iter wi)
    (ht : ∀ C s₀ H₀ fp, PTs (blk X scope cl (x :: ys) C s₀ H₀ fp) ifs (tt (blk X scope cl (x :: ys) C s₀ H₀ fp)))
    (he : ∀ C s₀ H₀ fp, PE (blk X scope cl (x :: ys) C s₀ H₀ fp) elt (te (blk X scope cl (x :: ys) C s₀ H₀ fp)))
    (hclos : closureFor scope X.env = pure cl) (hcell : ∀ y ∈ scope.names, y.2 ≠ .cell) (hkind : scope.kind = .function)
    (hnames : ∀ y ∈ scope.names, y.2 = .local → scope.names.lookup y.1 = some .local) (hx : scope.names.lookup x = some .local) (hnd : (x :: ys).Nodup)
    (hcl : ∀ y c, cl.lookup y = some c → X.env.cells.lookup y = some c)
    (hhas : ∀ y, (relabel scope X.env).names.lookup y = some .cell ∨ (relabel scope X.env).names.lookup y = some .free → ∃ c, cl.lookup y = some c)
    (hjs : js.length = ys.length) (hjy : ∀ (i j : Nat) (y : Str), js[i]? = some j → ys[i]? = some y → X.N[j]? = some y ∧ Vis X.env.scope y ∧ (X.env.kindOf y = some .cell ∨ X.env.kindOf y = some .free) ∧ ((relabel scope X.env).names.lookup y = some .cell ∨ (relabel scope X.env).names.lookup y = some .free))
    (hs : ∀ x, foldedSetIterable iter X.env x = pure x := by intro _; rfl) :
    PE X (.ListComp elt [⟨.Name x px, iter, ifs, 0⟩] scope pos) (tComp X js wi tt te) := by
  intro pins s σ H Q I h
  rw [eval_ListComp]
  refine wpAny_comprehension_free (use := none) rfl hs hclos hkind hnames (thn (hi pins s σ H _ I h) fun v s1 h1 => thn h1 fun itv s2 h2 => ?_)
  obtain ⟨it, fp, tn, J, H2, e, I2, T, st2, f2, h2⟩ := h2
  subst e
  refine wpAny_newObj_type (wpAny_newFunctionEnv hcell (by intro y hy; simp at hy) (fun h₁ hns₁ hsb₁ => ?_) hkind)
  dsimp only at hns₁ hsb₁ ⊢
  -- the list
  have hD : H2 s2.heap.objs.size = none := I2.hok.fresh (Nat.le_refl _)
  generalize eD : s2.heap.objs.size = D at hD hns₁ hsb₁ ⊢
  generalize eH : s2.heap.push { cls := .type "list", dict := none, data := .seq ([] : List Value).toArray } = P3 at hns₁ hsb₁ ⊢
  have k23 : ∀ b o, s2.heap.get? b = some o → P3.get? b = some o := fun b o q => by rw [← eH]; exact Heap.get?_push_of_some _ q
  have hDo : P3.get? D = some { cls := .type "list", dict := none, data := .seq ([] : List Value).toArray } := by rw [← eH, ← eD]; exact Heap.get?_push_size _ rfl
  have I3 : Inv X pins σ (upd H2 D (.lst [])) { s2 with heap := P3, toks := s2.toks } := I2.laid (t' := s2.toks) k23 (Nat.le_of_eq eD) ⟨Nat.zero_le _, [], 0, .nil, hDo⟩
  have hCs : P3.objs.size = D + 1 := by rw [← eH, Heap.size_push, eD]
  generalize eC : P3.objs.size = C at hns₁ hsb₁ hCs ⊢
  have k34 : ∀ b o, P3.get? b = some o → h₁.get? b = some o := fun b o q => hsb₁.extBut b o (by rw [← eC]; exact Nat.ne_of_lt (Heap.lt_size q)) (Heap.get?_push_of_some _ q)
  have fpD : ∀ b ∈ fp, b < D := fun b hb => by
    obtain ⟨o, q, _⟩ := T.obj 0 _ st2 b hb
    rw [← eD]
    exact Heap.lt_size q
  have hC0 : upd H2 D (.lst []) C = none := I3.hok.fresh (by show P3.objs.size ≤ C; rw [eC]; exact Nat.le_refl _)
  -- the block's context
  have okY : (blk X scope cl (x :: ys) C { s2 with heap := P3, toks := s2.toks } (upd H2 D (.lst [])) fp).Ok := by
    refine ⟨I3.ok.mod, hkind, I3.ok.glob, I3.ok.blt, by show P3.objs.size ≤ C; rw [eC]; exact Nat.le_refl _, fun y z c h1 h2 => I3.ok.inj y z c (hcl y c h1) (hcl z c h2), fun y hy => hhas y hy, fun y c hf _ => (by cases hf),
      I3.ok.hd, I3.ok.frames, .inl rfl, fun b hb => ⟨(by show b ≠ C; rw [hCs]; exact Nat.ne_of_lt (Nat.lt_succ_of_lt (fpD b hb))), fun y c hy => (f2 b hb).2.2.2.2.1 y c (hcl y c hy)⟩, fun b o q => ?_, ?_, fun b o q hb => ?_, fun b hb z => ?_, I3.stack, I3.stkFree⟩
    · exact I3.bs b o q
    · exact Nat.le_trans I3.ok.bsz I3.sz
    · rcases (f2 b hb).2.2.2.1 with z | z
      · exact I3.ok.noex b o q z
      · exact absurd (Nat.lt_of_lt_of_le (Heap.lt_size (I3.ok.bs b o q).1) z) (Nat.lt_irrefl _)
    · rcases List.mem_cons.mp (I3.stkSub b z) with z | z
      · exact (f2 b hb).2.1 z
      · exact (f2 b hb).2.2.1 z
  generalize eY : blk X scope cl (x :: ys) C { s2 with heap := P3, toks := s2.toks } (upd H2 D (.lst [])) fp = Y at okY
  have IY : Inv Y [] (none :: frees js σ) (upd H2 D (.lst [])) { s2 with heap := h₁, toks := s2.toks + ([] : List (Str × Value)).length } := by
    subst eY
    refine ⟨okY, I3.os.trans I3.os.symm |>.trans rfl, I3.bare, Un.kept k34, ⟨_, hns₁, fun i y v h1 h2 h3 => ?_⟩, fun y c hy => ?_, hC0, fun y c hy => I3.freeC y c (hcl y c hy), fun p hp => absurd (show p ∈ ([] : List (Addr × Obj)) from hp) (by simp), I3.hok.kept k34, ?_⟩
    · cases i with
      | zero => cases h2
      | succ i =>
        have h1' : ys[i]? = some y := h1
        have h2' : (frees js σ)[i]? = some (some v) := h2
        unfold frees at h2'
        rw [List.getElem?_map] at h2'
        cases q : js[i]? with
        | none => rw [q] at h2'; cases h2'
        | some j =>
          rw [q] at h2'
          have h4 : (σ[j]?).join = some v := Option.some.inj h2'
          have h5 : σ[j]? = some (some v) := by
            cases z : σ[j]? with
            | none => rw [z] at h4; cases h4
            | some o => rw [z] at h4; have h4' : o = some v := h4; rw [h4']
          obtain ⟨n1, n2, n3, n4⟩ := hjy i j y q h1'
          obtain ⟨m, _, hl⟩ := I3.loc
          obtain ⟨u, ru, lk⟩ := hl j y v n1 h5 n2
          refine ⟨u, ru, .inr ⟨n4, ?_⟩⟩
          obtain ⟨c, hc'⟩ := hhas y n4
          rcases lk with ⟨z, _⟩ | ⟨_, c', e1, e2⟩
          · rcases n3 with n3 | n3 <;> (rw [n3] at z; cases z)
          · have : c' = c := Option.some.inj (e1.symm.trans (hcl y c hc'))
            subst this
            obtain ⟨o, ho, hod⟩ := e2
            exact ⟨c', hc', o, k34 _ _ ho, hod⟩
    · obtain ⟨v, o, ho, hod⟩ := I3.cell y c (hcl y c hy)
      exact ⟨v, o, k34 _ _ ho, hod⟩
    · show (frees js σ).length + 1 = (x :: ys).length
      unfold frees
      simp [hjs]
  have eYA : Y.A = X.A := by rw [← eY]; rfl
  have eYp : Y.prog = X.prog := by rw [← eY]; rfl
  have eYw : Y.w = X.w := by rw [← eY]; rfl
  have eYK : Y.K = X.K := by rw [← eY]; rfl
  have eYe : Y.env = compEnvC scope cl C X.env := by rw [← eY]; rfl
  have eYH : Y.H₀ = upd H2 D (.lst []) := by rw [← eY]; rfl
  have eYc : Y.calm = true := by rw [← eY]; exact hc
  have eYx : Y.xe = fun _ _ => False := by rw [← eY]; rfl
  have eYex : Y.ex = fp := by rw [← eY]; rfl
  have eYfs : Y.fs = frs X.stack := by rw [← eY]; rfl
  have eYs : Y.s₀ = { s2 with heap := P3, toks := s2.toks } := by rw [← eY]; rfl
  have eYl : Y.env.locals = C := by rw [eYe]; rfl
  have ht' : PTs Y ifs (tt Y) := by rw [← eY]; exact ht C _ _ fp
  have he' : PE Y elt (te Y) := by rw [← eY]; exact he C _ _ fp
  have hg' : PG Y (.Name x px) (gName 0) := by
    rw [← eY]
    exact pg_name hnd rfl (.inl (lookup_relabel_local hx)) (.inr (lookup_relabel_local hx))
  have T' : Turn Y.prog Y.w Y.K (.Name x px) J fp it tn := by rw [eYp, eYw, eYK]; exact T
  obtain ⟨W, ⟨m0, w0⟩, turn⟩ := h2 D hD Y eYH eYK
  have stat : ∀ {H' : Hp}, (∀ b ∈ fp, H' b = none) → ∀ b ∈ fp, FpOk Y [] H' b := fun {H'} hn b hb => by
    obtain ⟨_, g1, g2, g3, g4, g5⟩ := f2 b hb
    refine ⟨hn b hb, (by rw [eYl, hCs]; exact Nat.ne_of_lt (Nat.lt_succ_of_lt (fpD b hb))), fun z => ?_, .inl (by rw [eYex]; exact hb), fun y c hy => ?_, fun p hp => ?_⟩
    · rw [eYfs] at z
      rcases List.mem_cons.mp (I3.stkSub b z) with z | z
      · exact g1 z
      · exact g2 z
    · rw [eYe] at hy
      exact g4 y c (hcl y c hy)
    · have e0 : Y.pn = [] := by rw [← eY]; rfl
      rw [e0] at hp
      exact absurd (show p ∈ ([] : List (Addr × Obj)) from hp) (by simp)
  -- the loop
  have loop : ∀ s₃ : Shared, s₃ = { s2 with heap := h₁, toks := s2.toks + ([] : List (Str × Value)).length } →
      codeAny (model X.prog X.w) X.A (.compLoop (.ListComp elt [⟨.Name x px, iter, ifs, 0⟩] scope pos) 0 (.ref it) (.ref D) (compEnvC scope cl C X.env))
        (compPost (model X.prog X.w) X.A X.xe none (EP X pins σ Q) (.ref D) C) s₃ := by
    rintro s₃ rfl
    rw [← eYe, ← eYA, ← eYp, ← eYw]
    refine compLoop_any (fun n s' => ∃ i z H' zs, Inv Y [] (z :: frees js σ) H' s' ∧ tn i s'.heap ∧ (∀ b ∈ fp, H' b = none) ∧ H' D = some (.lst zs) ∧ W i n zs H') ?_ m0
      ⟨0, none, _, [], IY, T.keep 0 _ _ st2 (fun b _ o q => k34 b o (k23 b o q)), fun b hb => ?_, upd_same, w0⟩
    · rintro n s4 ⟨i, z, H4, zs, I4, st4, fr4, hz4, w4⟩
      rcases turn i n zs H4 hz4 w4 with ⟨stop, qn⟩ | ⟨go, step⟩
      · refine thn (T'.done Y rfl rfl rfl eYc i [] s4 _ H4 _ I4 (stat fr4) st4 stop) fun r s5 ⟨hr, I5⟩ => ?_
        subst hr
        obtain ⟨m, hm, _⟩ := id I5.loc
        rw [eYl] at hm
        refine ⟨m, hm, fun h6 sb => ?_⟩
        have hC5 : H4 C = none := by rw [← eYl]; exact I5.free
        have un5 := I5.base
        rw [eYfs, eYex, eYH, eYs] at un5
        have un6 : Un (frs X.stack) fp (upd H2 D (.lst [])) H4 P3 h6 := by
          have nC : ∀ b o, P3.get? b = some o → b ≠ C := fun b o q => by rw [← eC]; exact Nat.ne_of_lt (Heap.lt_size q)
          refine ⟨fun b o q n hb hx => (sb.2 b (nC b o q)).trans (un5.keep b o q n hb hx), fun b o q n hb hx => ?_, un5.free, fun b o q hx => ?_, un5.tups, un5.frzs, un5.tbls⟩
          · obtain ⟨sl, q2⟩ := un5.slot b o q n hb hx
            exact ⟨sl, (sb.2 b (nC b o q)).trans q2⟩
          · obtain ⟨o', q2⟩ := un5.there b o q hx
            exact ⟨o', (sb.2 b (nC b o q)).trans q2⟩
        have hok6 : HOk X.prog X.w H4 h6 := fun b ob q => by
          have q5 := I5.hok b ob q
          rw [eYp, eYw] at q5
          refine q5.stay (fun c w' hc' q' => (sb.2 c ?_).trans q') (fun _ q' => q') fun _ _ q' => q'
          rintro rfl
          rcases hc' with rfl | hc'
          · rw [hC5] at q; cases q
          · rw [hC5] at hc'; cases hc'
        refine ⟨.ref D, H4, ?_, rfl, qn⟩
        have os5 : s5.os = s2.os := by have := I5.os; rw [eYs] at this; exact this
        refine I3.call' (s' := { s5 with heap := h6 }) (ch := fp) os5 un6 hok6 I5.bare fun b hb => ?_
        obtain ⟨_, g1, g2, g3, g4, g5⟩ := f2 b hb
        exact ⟨g3, g1, g4, g5⟩
      · refine thn (T'.item Y rfl rfl rfl eYc i [] s4 _ H4 _ I4 (stat fr4) st4 go) fun r s5 ⟨u, hr, h5⟩ => ?_
        subst hr
        refine thn h5 fun _ s6 ⟨y, H6, I6, r6, y6, st6, fr6⟩ => ?_
        have I6' := I6.pinned (stat fr6) (T.obj _ _ st6)
        have q6 := step y H6 y6
        have back : ∀ {σ7 : L2.St} {H7 : Hp} {s7 : Shared}, Inv Y ([] ++ pinsAt fp s6.heap) σ7 H7 s7 → tn (i + 1) s7.heap ∧ ∀ b ∈ fp, H7 b = none := fun {σ7 H7 s7} I7 =>
          ⟨T.keep _ _ _ st6 fun b hb o e => (I7.pin (b, o) (List.mem_append_right _ (List.mem_append_right _ (mem_pinsAt hb e)))).1, fun b hb => by
            obtain ⟨o, e, _⟩ := T.obj _ _ st6 b hb
            exact (I7.pin (b, o) (List.mem_append_right _ (List.mem_append_right _ (mem_pinsAt hb e)))).2.1⟩
        refine wpAny_mono (hg' _ s6 _ H6 y u (fun σ' H' => σ' = some y :: frees js σ ∧ H' = H6) I6' r6 ⟨rfl, rfl⟩) (fun _ s7 ⟨σ7, H7, I7, e7, e7'⟩ => ?_) fun _ _ z => by rw [eYx] at z; exact z
        subst e7 e7'
        refine wpAny_mono (ht' _ s7 _ H7 _ I7 q6) (fun ok s8 ⟨H8, I8, q8⟩ => ?_) fun _ _ z => by rw [eYx] at z; exact z
        cases ok with
        | false =>
          rw [if_neg Bool.false_ne_true] at q8 ⊢
          obtain ⟨zs', m', hz', hm', w'⟩ := q8
          obtain ⟨b1, b2⟩ := back I8
          exact ⟨m', hm', i + 1, some y, H8, zs', I8.unpinned, b1, b2, hz', w'⟩
        | true =>
          rw [if_pos rfl] at q8 ⊢
          refine wpAny_mono (he' _ s8 _ H8 _ I8 q8) (fun u9 s9 ⟨v9, H9, I9, r9, zs9, hz9, hl9, m9, hm9, w9⟩ => ?_) fun _ _ z => by rw [eYx] at z; exact z
          refine wpAny_mono (mt_append (X := Y) _ s9 _ H9 (.ref D) [v9] (.ref D) [u9] (fun _ H' => H' = upd H9 D (.lst (zs9 ++ [v9]))) I9 rfl (.cons r9 .nil) ⟨D, zs9, v9, rfl, rfl, hz9, hl9, rfl⟩) (fun _ s10 ⟨_, H10, I10, _, e10⟩ => ?_) fun _ _ z => by rw [eYx] at z; exact z
          subst e10
          obtain ⟨b1, b2⟩ := back I10
          exact ⟨m9, hm9, i + 1, some y, _, zs9 ++ [v9], I10.unpinned, b1, b2, upd_same, w9⟩
    · rw [upd_ne (Nat.ne_of_lt (fpD b hb))]
      exact (f2 b hb).1
  exact codeAny_compStart_list (loop _ rfl) (T.self _ 0 _ _ _ (T.keep 0 _ _ st2 (fun b _ o q => k34 b o (k23 b o q))) (loop _ rfl))
end FL
namespace FL
open PySem PySem.Spec PyProof.Rows L2
/-! ### over data -/
/-- a new list of plain data -/
def tN (X : Cx) (ρ : Ro) (ds : List D) : TE := fun σ H Q => RelE X H σ ρ ∧ ∀ a vs H', H a = none → Same H H' → H' a = some (.lst vs) → IsAll X.K H' vs ds → Q (.ref a) H'
def EvN (X : Cx) (e : Expr) (ρ : Ro) (ds : List D) : Prop := PE X e (tN X ρ ds)
theorem EvN.ev {X : Cx} {e : Expr} {ρ : Ro} {ds : List D} (h : EvN X e ρ ds) : Ev X e ρ (.ls ds) :=
  PE.imp h fun _ _ _ ⟨r, q⟩ => ⟨r, fun a _ H' _ s e h => q (.ref a) H' s (.ls (.of e) h)⟩
/-- what is walked hands out ds, as long as nothing that was there is changed -/
def SrcOk (K : PySem.W.Frag) (J : It) (H : Hp) (ds : List D) : Prop :=
  ∀ H3, Same H H3 → (∀ i, ds.length ≤ i → J.stop i H3) ∧ ∀ i d, ds[i]? = some d → J.go i H3 ∧ ∀ x H4, J.yld i H3 x H4 → H4 = H3 ∧ Is K H3 x d
def tSrc (X : Cx) (ρ : Ro) (ds : List D) : TI := fun σ H R => RelE X H σ ρ ∧ ∀ J H', Same H H' → SrcOk X.K J H' ds → R J H'
def Src (X : Cx) (tg e : Expr) (ρ : Ro) (ds : List D) : Prop := PI X tg e (tSrc X ρ ds)
section
variable {X : Cx} {e a b tg : Expr} {ρ : Ro} {ds : List D} {d : D} {pos : Pos} {i j : Int}
theorem PI.imp {t t' : TI} (h : PI X tg e t) (f : ∀ σ H R, t' σ H R → t σ H R) : PI X tg e t' := fun pins s σ H R I q => h pins s σ H R I (f σ H R q)
theorem src_tup (h : Ev X e ρ (.tup ds)) : Src X tg e ρ ds := by
  refine PI.imp (pi_tup h) ?_
  rintro σ H R ⟨r, q⟩
  refine ⟨r, fun v H1 s1 h1 => ?_⟩
  obtain ⟨p, xs, rfl, hT, hA⟩ := h1.tup_inv
  refine ⟨p, rfl, ⟨xs, hT⟩, q _ H1 s1 fun H3 s3 => ⟨fun i hi => ⟨xs, sameT s3 hT, by rw [hA.length]; exact hi⟩, fun i d hd => ?_⟩⟩
  obtain ⟨v, hv, hI⟩ := (hA.mono s3).get hd
  exact ⟨⟨xs, v, sameT s3 hT, hv⟩, fun x H4 ⟨e4, y⟩ => ⟨e4, by have := y xs (sameT s3 hT); rw [hv] at this; cases this; exact hI⟩⟩
theorem src_ls (h : Ev X e ρ d) (hl : lsD d = some ds) : Src X tg e ρ ds := by
  refine PI.imp (pi_list h) ?_
  rintro σ H R ⟨r, q⟩
  refine ⟨r, fun v H1 s1 h1 => ?_⟩
  obtain ⟨p, xs, rfl, hT, hA⟩ := h1.lsD_inv hl
  refine ⟨p, rfl, ⟨xs, hT⟩, q _ H1 s1 fun H3 s3 => ⟨fun i hi => ⟨xs, s3.seq hT, by rw [hA.length]; exact hi⟩, fun i d hd => ?_⟩⟩
  obtain ⟨v, hv, hI⟩ := (hA.mono s3).get hd
  exact ⟨⟨xs, v, s3.seq hT, hv⟩, fun x H4 ⟨e4, y⟩ => ⟨e4, by have := y xs (s3.seq hT); rw [hv] at this; cases this; exact hI⟩⟩
theorem srcOk_range {K : PySem.W.Frag} {lo : Int} {n : Nat} {H : Hp} : SrcOk K (Itr lo n) H ((List.range n).map fun (t : Nat) => D.int (lo + t)) := by
  intro H3 s3
  refine ⟨fun i hi => (by show n ≤ i; simpa using hi), fun i d hd => ?_⟩
  rw [List.getElem?_map] at hd
  by_cases hn : i < n
  · rw [List.getElem?_range hn] at hd
    cases hd
    refine ⟨hn, fun x H4 ⟨e1, e2⟩ => ⟨e1, by rw [e2]; exact .int _⟩⟩
  · rw [List.getElem?_eq_none (by simpa using hn)] at hd
    cases hd
end
/-- the tests over data -/
def Ets (X : Cx) (ifs : List Expr) (ρ : Ro) (k : Bool) : Prop := PTs X ifs (tB X ρ k)
theorem ets_nil {X : Cx} {ρ : Ro} : Ets X [] ρ true := fun pins s σ H Q I ⟨_, q⟩ => pts_nil pins s σ H Q I (q H (Same.refl H))
theorem ets_one {X : Cx} {ρ : Ro} {c : Expr} {k : Bool} (h : Et X c ρ k) : Ets X [c] ρ k := pts_one h
def freesD (js : List Nat) (ρ : Ro) : Ro := js.map fun j => (ρ[j]?).join

theorem relE_blk {X Y : Cx} (hK : Y.K = X.K) {H : Hp} {σ : L2.St} {ρ : Ro} {js : List Nat} {x : V} {d : D} (r : RelE X H σ ρ) (hx : Is X.K H x d) : RelE Y H (some x :: frees js σ) (some d :: freesD js ρ) := by
  have vals : ∀ (i : Nat) (e : D), (some d :: freesD js ρ)[i]? = some (some e) → ∃ v, (some x :: frees js σ)[i]? = some (some v) ∧ Is X.K H v e := fun i e h => by
    cases i with
    | zero => cases h; exact ⟨x, rfl, hx⟩
    | succ i =>
      have h' : (freesD js ρ)[i]? = some (some e) := h
      unfold freesD at h'
      rw [List.getElem?_map] at h'
      cases q : js[i]? with
      | none => rw [q] at h'; cases h'
      | some j =>
        rw [q] at h'
        have h4 : (ρ[j]?).join = some e := Option.some.inj h'
        have h5 : ρ[j]? = some (some e) := by
          cases z : ρ[j]? with
          | none => rw [z] at h4; cases h4
          | some o => rw [z] at h4; have h4' : o = some e := h4; rw [h4']
        obtain ⟨v, e1, e2⟩ := r.val j e h5
        refine ⟨v, ?_, e2⟩
        show (frees js σ)[i]? = some (some v)
        unfold frees
        rw [List.getElem?_map, q]
        show some (σ[j]?).join = _
        rw [e1]
        rfl
  exact ⟨by simp [frees, freesD], fun i e h => by rw [hK]; exact vals i e h⟩

/-- the block reads no name of the def around it -/
theorem no_free {scope : Scope} {env : Env} {cl : List (Str × Addr)} (h : ∀ p ∈ scope.names, p.2 ≠ .cell ∧ p.2 ≠ .free) :
    ∀ y, (relabel scope env).names.lookup y = some .cell ∨ (relabel scope env).names.lookup y = some .free → ∃ c, cl.lookup y = some c := by
  have key : ∀ p ∈ (relabel scope env).names, p.2 ≠ .cell ∧ p.2 ≠ .free := by
    intro p hp
    obtain ⟨⟨n, k⟩, hm, e⟩ := List.mem_map.mp (show p ∈ scope.names.map _ from hp)
    have hk := h _ hm
    have hf : (k == NameKind.free) = false := by simpa using hk.2
    simp only [hf, Bool.false_and, Bool.false_eq_true, if_false] at e
    subst e
    exact hk
  intro y z
  rcases z with z | z
  · exact absurd rfl (key _ (PySem.mem_of_lookup z)).1
  · exact absurd rfl (key _ (PySem.mem_of_lookup z)).2

theorem evn_comp {X : Cx} {elt iter : Expr} {x : Str} {px : Pos} {ifs : List Expr} {scope : Scope} {cl : List (Str × Addr)} {pos : Pos} {ys : List Str} {js : List Nat} {ρ : Ro} {ds : List D} (p : D → Bool) (f : D → D)
    (hc : X.calm = true) (hi : Src X (.Name x px) iter ρ ds) (hz : ds.length ≤ 1000000) (hfz : ∀ d ∈ ds, p d = true → Fz (f d))
    (ht : ∀ C s₀ H₀ fp, ∀ d ∈ ds, Ets (blk X scope cl (x :: ys) C s₀ H₀ fp) ifs (some d :: freesD js ρ) (p d))
    (he : ∀ C s₀ H₀ fp, ∀ d ∈ ds, p d = true → Ev (blk X scope cl (x :: ys) C s₀ H₀ fp) elt (some d :: freesD js ρ) (f d))
    (hclos : closureFor scope X.env = pure cl) (hcell : ∀ y ∈ scope.names, y.2 ≠ .cell) (hkind : scope.kind = .function)
    (hnames : ∀ y ∈ scope.names, y.2 = .local → scope.names.lookup y.1 = some .local) (hx : scope.names.lookup x = some .local) (hnd : (x :: ys).Nodup)
    (hcl : ∀ y c, cl.lookup y = some c → X.env.cells.lookup y = some c)
    (hhas : ∀ y, (relabel scope X.env).names.lookup y = some .cell ∨ (relabel scope X.env).names.lookup y = some .free → ∃ c, cl.lookup y = some c)
    (hjs : js.length = ys.length) (hjy : ∀ (i j : Nat) (y : Str), js[i]? = some j → ys[i]? = some y → X.N[j]? = some y ∧ Vis X.env.scope y ∧ (X.env.kindOf y = some .cell ∨ X.env.kindOf y = some .free) ∧ ((relabel scope X.env).names.lookup y = some .cell ∨ (relabel scope X.env).names.lookup y = some .free))
    (hs : ∀ x, foldedSetIterable iter X.env x = pure x := by intro _; rfl) : EvN X (.ListComp elt [⟨.Name x px, iter, ifs, 0⟩] scope pos) ρ ((ds.filter p).map f) := by
  refine PE.imp (pe_comp (js := js) (tt := fun Y σ H Q => ∃ d, d ∈ ds ∧ tB Y (some d :: freesD js ρ) (p d) σ H Q) (te := fun Y σ H Q => ∃ d, d ∈ ds ∧ p d = true ∧ tD Y (some d :: freesD js ρ) (f d) σ H Q) hc hi
    (fun C s₀ H₀ fp pins s σ H Q I ⟨d, hd, q⟩ => ht C s₀ H₀ fp d hd pins s σ H Q I q) (fun C s₀ H₀ fp pins s σ H Q I ⟨d, hd, hp, q⟩ => he C s₀ H₀ fp d hd hp pins s σ H Q I q) hclos hcell hkind hnames hx hnd hcl hhas hjs hjy hs) ?_
  rintro σ H Q ⟨r, q⟩
  refine ⟨r, fun J H2 s2 ok D hD Y eH eK => ?_⟩
  -- the invariant: what was there stands, the list holds what came of the items so far
  have fzs : ∀ (i : Nat), ∀ d ∈ ((ds.take i).filter p).map f, Fz d := fun i d hd => by
    obtain ⟨d', h1, rfl⟩ := List.mem_map.mp hd
    obtain ⟨h2, h3⟩ := List.mem_filter.mp h1
    exact hfz d' (List.mem_of_mem_take h2) h3
  refine ⟨fun i m zs H3 => m = ds.length - i ∧ i ≤ ds.length ∧ (∀ b o, H2 b = some o → H3 b = some o) ∧ IsAll X.K H3 zs (((ds.take i).filter p).map f), ⟨ds.length, by simp, Nat.zero_le _, same_new hD, ?_⟩, ?_⟩
  · simpa using IsAll.nil
  · rintro i m zs H3 hzs ⟨rfl, hil, k3, hA⟩
    obtain ⟨stop, go⟩ := ok H3 k3
    by_cases hlt : i < ds.length
    · obtain ⟨g, y⟩ := go i ds[i] (by simp [hlt])
      refine .inr ⟨g, fun v H4 hy => ?_⟩
      obtain ⟨rfl, hv⟩ := y v H4 hy
      have hmem : ds[i] ∈ ds := List.getElem_mem hlt
      have r3 : RelE X H4 σ ρ := r.mono (s2.trans k3)
      refine ⟨ds[i], hmem, relE_blk eK r3 hv, fun H5 s5 => ?_⟩
      have etake : ds.take (i + 1) = ds.take i ++ [ds[i]] := by rw [List.take_succ_eq_append_getElem hlt]
      cases hp : p ds[i] with
      | false =>
        refine iteF ⟨zs, ds.length - (i + 1), s5 _ _ hzs, by omega, rfl, hlt, fun b o h => s5 _ _ (k3 b o h), ?_⟩
        rw [etake, List.filter_append]
        simpa [hp] using hA.mono s5
      | true =>
        refine iteT ⟨ds[i], hmem, hp, (relE_blk eK r3 hv).mono s5, fun y H6 s6 hy6 => ⟨zs, s6 _ _ (s5 _ _ hzs), ?_, ds.length - (i + 1), by omega, rfl, hlt, fun b o h => ?_, ?_⟩⟩
        · have e1 := hA.length
          rw [List.length_map] at e1
          have e2 := List.length_filter_le p (ds.take i)
          rw [List.length_take] at e2
          rw [sizeLine_eq]
          omega
        · rw [upd_ne (ne_of_none h hD)]
          exact s6 _ _ (s5 _ _ (k3 b o h))
        · have hD6 : H6 D = some (.lst zs) := s6 _ _ (s5 _ _ hzs)
          have kt : KT H6 (upd H6 D (.lst (zs ++ [y]))) :=
            ⟨fun b xs h => by rw [upd_ne (ne_of h hD6 (by intro z; cases z))]; exact h, fun b o u h => by rw [upd_ne (ne_of h hD6 (by intro z; cases z))]; exact h⟩
          rw [etake, List.filter_append, List.map_append]
          refine IsAll.append ((hA.mono (s5.trans s6)).keep kt (fzs i)) ?_
          rw [eK] at hy6
          simpa [hp] using IsAll.cons (hy6.keep kt (hfz _ hmem hp)) .nil
    · refine .inl ⟨stop i (by omega), q D zs H3 (s2.free hD) (s2.trans k3) hzs ?_⟩
      have : ds.take i = ds := List.take_of_length_le (by omega)
      rw [this] at hA
      exact hA
end FL

/-! FA: built-ins over data; the law's head with the sizes of the script's numbers -/
namespace FL
open PySem PySem.Spec PyProof.Rows L2
theorem bools_of : ∀ {bs : List Bool} {us : List Value}, Vals (bs.map V.bl) us → LSm.BoolsAre us bs
  | [], _, .nil => .nil
  | b :: _, _, .cons r t => by
    cases r
    exact .cons b (bools_of t)
theorem call_all {X : Cx} (hc : X.calm = true) : CallR X (.builtin "all") (fun vs H Q => ∃ (a : Addr) (bs : List Bool), vs = [.ref a] ∧ SqL X.K H a (bs.map V.bl) ∧ Q (.bl (bs.all id)) H) := by
  intro pins s σ H vs us Q I r h
  obtain ⟨l, bs, rfl, hq, q⟩ := h
  obtain ⟨u, rfl, ru⟩ := vals1 r
  cases ru
  obtain ⟨its, rv, p, hz⟩ := I.list hq
  have hb : LSm.BoolsAre its bs := bools_of rv
  have hl := p.isList
  have hlt : l < s.heap.objs.size := by obtain ⟨_, e, _⟩ := hl; exact Heap.lt_size e
  refine call_all_walk (wpAny_pyIter_list hl ?_)
  refine ⟨s.heap.objs.size, [s.heap.objs.size, l], [s.heap.objs.size], its.toArray.size, _, _, fun i => (bs[i]?).getD true, rfl, Walks.list (A := X.A.in1) (I.ok.hd hc) _ l (Nat.ne_of_lt hlt) its.toArray,
    ⟨⟨_, Heap.get?_push_size _ rfl, rfl, rfl⟩, hl.push _⟩, fun i v s' Q' E' hP hQ => ?_, fun h' tk hk => ?_⟩
  · obtain ⟨b, e, rfl⟩ := hb.get i v (by simpa using hP)
    simp only [e, Option.getD_some] at hQ
    exact wpAny_truthy_bool hQ
  · have e : ((List.range its.toArray.size).all fun i => (bs[i]?).getD true) = bs.all id := by
      rw [List.size_toArray, hb.length]; exact LSm.range_all bs
    rw [e]
    exact ⟨.bl _, H, I.kept (LSm.kept_iter hk), rfl, q⟩
theorem IsAll.bools {K : PySem.W.Frag} {H : Hp} : ∀ {vs : List V} {bs : List Bool}, IsAll K H vs (bs.map D.bl) → vs = bs.map V.bl
  | _, [], .nil => rfl
  | _, b :: bs, .cons h r => by
    cases h.bl_inv
    rw [IsAll.bools r]
    rfl
section
variable {X : Cx} {e a b c : Expr} {es : List Expr} {ρ : Ro} {d : D} {ds : List D} {pos : Pos} {i j : Int} {k k' : Bool}
theorem ev_all {p : Pos} {bs : List Bool} (hc : X.calm = true) (hm : X.mg "all" = none) (ha : Ev X a ρ (.ls (bs.map D.bl))) (hg : Gl X "all" := by rfl) (he : starEach [a] X.env = [(false, eval a X.env)] := by rfl) : Ev X (.Call (.Name "all" p) [a] [] pos) ρ (.bl (bs.all id)) :=
  ev_callB (call_all hc) hm boot_all (ea_cons ha ea_nil he) (fun vs H Q h0 q => by
    obtain ⟨v, rfl, h⟩ := one_inv h0
    obtain ⟨l, xs, rfl, h1, h2⟩ := h.ls_inv
    cases h2.bools
    exact ⟨l, bs, rfl, h1, q _ H (Same.refl H) (.bl _)⟩) hg (by decide) (by decide) he rfl
end
theorem kit_b {K : PySem.W.Frag} {T U : String} {k : Bool} (hne : (Value.type T == Value.type U) = false) (hm : PySem.W.kitMeta U = true) (hs : (fastBuiltinMro T).map (·.contains (.type U)) = some k) : PySem.W.kitOne K (.type T) (.type U) = some k := by
  unfold PySem.W.kitOne
  rw [hne, if_neg Bool.false_ne_true]
  unfold PySem.W.kitCls
  dsimp only
  rw [if_pos hm]
  exact hs
theorem kit_s {K : PySem.W.Frag} {T : String} : PySem.W.kitOne K (.type T) (.type T) = some true := by
  unfold PySem.W.kitOne
  rw [if_pos (by simp)]
theorem kit_int_bool {K : PySem.W.Frag} : PySem.W.kitOne K (.type "int") (.type "bool") = some false := kit_b (by decide +kernel) (by decide +kernel) (by decide +kernel)
theorem bo_int : bootBuiltins "int" = some (.type "int") := by decide +kernel
theorem bo_bool : bootBuiltins "bool" = some (.type "bool") := by decide +kernel
theorem bo_tuple : bootBuiltins "tuple" = some (.type "tuple") := by decide +kernel
theorem bo_list : bootBuiltins "list" = some (.type "list") := by decide +kernel
/-! ### the law's head -/
theorem bits_of_lay {ns : List Int} (h : PySem.W.WData.layableAll [PySem.W.WData.list (ns.map PySem.W.WData.int)] = true) : ∀ z ∈ ns, Builtin.Int.intBits z ≤ 1048576 := fun z hz => by
  have h1 := PySem.W.layableW_arg h _ List.mem_cons_self
  have h2 := PySem.W.layableW_item h1 (.int z) (List.mem_map.mpr ⟨z, hz, rfl⟩)
  have h3 := PySem.W.layable0_of_all (PySem.W.lay0_int h2)
  exact PyData.bits_of_layable h3
end FL

/-! sizes by instances -/
namespace FL
open PySem
open Builtin.Int (intBits)
theorem Bd.up {i : Int} {m : Nat} (h : Bd i m) (n : Nat) (hn : m ≤ n) : Bd i n := ⟨Nat.le_trans h.lt hn⟩
theorem Bd.of_lt {i : Int} {m : Nat} (h : i.natAbs < 2 ^ m) : Bd i m := ⟨intBits_le_iff.mpr h⟩
theorem Bd.lit {i : Int} {m : Nat} (h : i.natAbs < 2 ^ m := by decide) : Bd i m := .of_lt h
theorem Bd.sub {i j : Int} {m n : Nat} (hi : Bd i m) (hj : Bd j n) (k : Nat) (h : max m n + 1 ≤ k) : Bd (i - j) k := ⟨Nat.le_trans (intBits_sub_le hi.lt hj.lt) h⟩
theorem Bd.mul {i j : Int} {m n : Nat} (hi : Bd i m) (hj : Bd j n) (k : Nat) (h : m + n ≤ k) : Bd (i * j) k := ⟨Nat.le_trans (intBits_mul_le hi.lt hj.lt) h⟩
instance bd_mul {i j : Int} {m n : Nat} [hi : Bd i m] [hj : Bd j n] : Bd (i * j) (m + n) := ⟨intBits_mul_le hi.lt hj.lt⟩
instance bd_2 : Bd 2 2 := .lit
instance bd_3 : Bd 3 2 := .lit
instance bd_4 : Bd 4 3 := .lit
theorem Bd.div {i j : Int} {m : Nat} (hi : Bd i m) (h : 0 < j) : Bd (i / j) m := by
  have e := intBits_fdiv_le (y := j) hi.lt
  rw [Int.fdiv_eq_ediv_of_nonneg i (by omega)] at e
  exact ⟨e⟩
theorem Bd.le {i j : Int} {m : Nat} (hj : Bd j m) (h : i.natAbs ≤ j.natAbs) : Bd i m := ⟨intBits_le_of_natAbs h hj.lt⟩
end FL

/-! FG: loops over any source, lists of a def's own making -/
namespace FL
open PySem PySem.Spec PyProof.Rows L2

/-- what is walked hands out ds as long as the body keeps to Ok -/
def SrcS (X : Cx) (Ok : Ro → Prop) (J : It) (ρ : Ro) (H : Hp) (ds : List D) : Prop :=
  ∀ ρ' H3 σ3, Go ρ H ρ' H3 → RelS X X.H₀ H3 σ3 ρ' → Ok ρ' → (∀ i, ds.length ≤ i → J.stop i H3) ∧ ∀ i d, ds[i]? = some d → J.go i H3 ∧ ∀ x H4, J.yld i H3 x H4 → H4 = H3 ∧ Is X.K H3 x d
def tSrcS (X : Cx) (Ok : Ro → Prop) (ρ : Ro) (ds : List D) : TI := fun σ H R => RelS X X.H₀ H σ ρ ∧ ∀ J H', Same H H' → SrcS X Ok J ρ H' ds → R J H'
def Wk (X : Cx) (Ok : Ro → Prop) (tg e : Expr) (ρ : Ro) (ds : List D) : Prop := PI X tg e (tSrcS X Ok ρ ds)

theorem srcS_T {X : Cx} {Ok : Ro → Prop} {ρ : Ro} {H : Hp} {σ : L2.St} {a : Addr} {xs : List V} {ds : List D} (r : RelS X X.H₀ H σ ρ) (hT : SqT X.K H a xs) (hA : IsAll X.K H xs ds) (hz : ∀ d ∈ ds, Fz d) : SrcS X Ok (Itt X.K a) ρ H ds := by
  intro ρ' H3 σ3 g r3 _
  have kt := g.kt r
  have hT3 := kt.seqT hT
  refine ⟨fun i hi => ⟨xs, hT3, by rw [hA.length]; exact hi⟩, fun i d hd => ?_⟩
  obtain ⟨v, hv, hI⟩ := (hA.keep kt hz).get hd
  exact ⟨⟨xs, v, hT3, hv⟩, fun x H4 ⟨e4, y⟩ => ⟨e4, by have := y xs hT3; rw [hv] at this; cases this; exact hI⟩⟩
/-- from the list at each point -/
theorem srcS_L {X : Cx} {Ok : Ro → Prop} {ρ : Ro} {H : Hp} {a : Addr} {ds : List D} (h : ∀ ρ' H3 σ3, Go ρ H ρ' H3 → RelS X X.H₀ H3 σ3 ρ' → Ok ρ' → ∃ xs, SqL X.K H3 a xs ∧ IsAll X.K H3 xs ds) : SrcS X Ok (Itl X.K a) ρ H ds := by
  intro ρ' H3 σ3 g r3 ok
  obtain ⟨xs, hT3, hA⟩ := h ρ' H3 σ3 g r3 ok
  refine ⟨fun i hi => ⟨xs, hT3, by rw [hA.length]; exact hi⟩, fun i d hd => ?_⟩
  obtain ⟨v, hv, hI⟩ := hA.get hd
  exact ⟨⟨xs, v, hT3, hv⟩, fun x H4 ⟨e4, y⟩ => ⟨e4, by have := y xs hT3; rw [hv] at this; cases this; exact hI⟩⟩
theorem srcS_R {X : Cx} {Ok : Ro → Prop} {ρ : Ro} {H : Hp} {lo : Int} {n : Nat} : SrcS X Ok (Itr lo n) ρ H ((List.range n).map fun (t : Nat) => D.int (lo + t)) := by
  intro ρ' H3 σ3 g r3 _
  exact srcOk_range (K := X.K) (H := H3) H3 (Same.refl H3)

section
variable {X : Cx} {e a b c tg : Expr} {es : List Expr} {ρ : Ro} {d : D} {ds : List D} {pos : Pos} {i j : Int} {rest A B : List Stmt} {P : Po}
theorem wk_tup (h : Ev X e ρ (.tup ds)) (hz : ∀ d ∈ ds, Fz d) : Wk X (fun _ => True) tg e ρ ds := by
  refine PI.imp (pi_tup h) ?_
  rintro σ H R ⟨r, q⟩
  refine ⟨r.e, fun v H1 s1 h1 => ?_⟩
  obtain ⟨p, xs, rfl, hT, hA⟩ := h1.tup_inv
  exact ⟨p, rfl, ⟨xs, hT⟩, q _ H1 s1 (srcS_T (r.mono s1) hT hA hz)⟩
/-- over a list of the def's own making, by its name: the body leaves it -/
theorem wk_own (n : Nat) {x : Str} {l : Addr} (hρ : ρ[n]? = some (some (.lst l ds)) := by rfl) (hN : X.N[n]? = some x := by rfl) (hv : Vis X.env.scope x := by first | exact Or.inl rfl | exact Or.inr (Or.inl rfl) | exact Or.inr (Or.inr rfl))
    (hd : (x == ("__debug__" : Str)) = false := by decide) (hcd : (x == ("__classdict__" : Str)) = false := by decide) : Wk X (fun ρ' => ρ'[n]? = some (some (.lst l ds))) tg (.Name x pos) ρ ds := by
  refine PI.imp (pi_list (pe_var hN hv hd hcd)) ?_
  rintro σ H R ⟨r, q⟩
  obtain ⟨v, e1, h1, h2⟩ := r.val n _ hρ
  obtain ⟨rfl, xs, hT, hA⟩ := h1.lst_inv
  refine ⟨_, e1, l, rfl, ⟨xs, .of hT⟩, q _ H (Same.refl H) (srcS_L fun ρ' H3 σ3 _ r3 ok => ?_)⟩
  obtain ⟨v', _, h3, _⟩ := r3.val n _ ok
  obtain ⟨_, ys, h4, h5⟩ := h3.lst_inv
  exact ⟨ys, .of h4, h5⟩
theorem wk_range1 {p : Pos} (hm : X.mg "range" = none) (ha : Ev X a ρ (.int j)) (h1 : -(2 ^ 62) ≤ j) (h2 : j < 2 ^ 62) (hg : Gl X "range" := by rfl) (hs : starEach [a] X.env = [(false, eval a X.env)] := by rfl) :
    Wk X (fun _ => True) tg (.Call (.Name "range" p) [a] [] pos) ρ ((List.range j.toNat).map fun (t : Nat) => D.int (0 + t)) := by
  refine PI.imp (pi_range1 hg hm (ea_cons ha ea_nil hs) hs) ?_
  rintro σ H R ⟨r, q⟩
  refine ⟨r.e, fun vs H1 s1 h3' => ?_⟩
  obtain ⟨v, rfl, h3⟩ := one_inv h3'
  cases h3.int_inv
  exact ⟨j, rfl, h1, h2, q _ H1 s1 srcS_R⟩
theorem wk_range2 {p : Pos} (hm : X.mg "range" = none) (ha : Ev X a ρ (.int i)) (hb : Ev X b ρ (.int j)) (h0 : -(2 ^ 62) ≤ i) (h0' : i < 2 ^ 62) (h1 : -(2 ^ 62) ≤ j) (h2 : j < 2 ^ 62) (hg : Gl X "range" := by rfl)
    (hs : starEach [a, b] X.env = [(false, eval a X.env), (false, eval b X.env)] := by rfl) (hs2 : starEach [b] X.env = [(false, eval b X.env)] := by rfl) :
    Wk X (fun _ => True) tg (.Call (.Name "range" p) [a, b] [] pos) ρ ((List.range (j - i).toNat).map fun (t : Nat) => D.int (i + t)) := by
  refine PI.imp (pi_range2 hg hm (ea_cons ha (ea_cons hb ea_nil hs2) (hs.trans (by rw [hs2]))) hs hs2) ?_
  rintro σ H R ⟨r, q⟩
  refine ⟨r.e, fun vs H1 s1 h3' => ?_⟩
  obtain ⟨v, v', rfl, h3, h4⟩ := two_inv h3'
  cases h3.int_inv
  cases h4.int_inv
  exact ⟨i, j, rfl, ⟨h0, h0', h1, h2⟩, q _ H1 s1 srcS_R⟩

/-- for x in e: the items are plain data; Iv by the number of turns -/
theorem do_for (n : Nat) {x : Str} {p' : Pos} {Ok : Ro → Prop} (Iv : Nat → Ro → Prop) (M : Ro → Prop) (hp : PassesOwn (model X.prog X.w) X.A X.env X.xe) (hc : X.calm = true) (he : Wk X Ok (.Name x p') e ρ ds) (hz : ∀ d ∈ ds, Fz d) (hok : ∀ i ρ, Iv i ρ → Ok ρ) (h0 : Iv 0 ρ)
    (hs : ∀ (i : Nat) (d : D) (ρ : Ro), ds[i]? = some d → Iv i ρ → Do X A (ρ.set n (some d)) { nx := Iv (i + 1), rt := P.rt, bk := M, ct := Iv (i + 1) }) (hd : ∀ ρ, Iv ds.length ρ → M ρ)
    (h : ∀ ρ', M ρ' → Do X rest ρ' P) (hN : X.N.Nodup) (hi : X.N[n]? = some x := by rfl) (hx : Loc X.env.scope x := by first | exact Or.inl rfl | exact Or.inr rfl)
    (hf : X.fn x = true ∨ X.env.scope.names.lookup x = some .local := by first | exact .inl rfl | exact .inr rfl) (hset : ∀ x, foldedSetIterable e X.env x = pure x := by intro _; rfl) : Do X (.For (.Name x p') e A [] pos :: rest) ρ P := by
  refine do_seq (M := M) ?_ h
  have hb : PSs X A (fun D σ H => ∃ i d ρ, ds[i]? = some d ∧ Iv i ρ ∧ tPo X (ρ.set n (some d)) { nx := Iv (i + 1), rt := P.rt, bk := M, ct := Iv (i + 1) } D σ H) :=
    fun pins s σ H D I ⟨i, d, ρ, e1, e2, q⟩ => hs i d ρ e1 e2 pins s σ H D I q
  refine PS.imp (ps_for hp hc he (pg_name hN hi hx hf) hb hset) ?_
  rintro D σ H ⟨r, q1, q2, q3, q4⟩
  refine ⟨r, fun J H1 s1 src => ?_⟩
  have g1 : Go ρ H ρ H1 := Go.same s1
  refine ⟨fun i m σ' H' => m = ds.length - i ∧ i ≤ ds.length ∧ ∃ ρ', Iv i ρ' ∧ RelS X X.H₀ H' σ' ρ' ∧ Go ρ H1 ρ' H', ⟨ds.length, by simp, Nat.zero_le _, ρ, h0, r.mono s1, Go.refl ρ H1⟩, ?_⟩
  rintro i m σ' H' ⟨rfl, hil, ρ', iv, r', g⟩
  obtain ⟨stop, go⟩ := src ρ' H' σ' g r' (hok i ρ' iv)
  by_cases hlt : i < ds.length
  · obtain ⟨g0, y⟩ := go i ds[i] (by simp [hlt])
    refine .inr ⟨g0, fun σ2 H2 => ∃ ρ2, Iv (i + 1) ρ2 ∧ RelS X X.H₀ H2 σ2 ρ2 ∧ Go ρ H1 ρ2 H2, fun σ2 H2 p2 => ⟨ds.length - (i + 1), by omega, rfl, hlt, p2⟩, fun v H4 hy => ?_⟩
    obtain ⟨rfl, hv⟩ := y v H4 hy
    have fz : Fz ds[i] := hz _ (List.getElem_mem hlt)
    have no : ∀ a es, ds[i] = .lst a es → False := fun a es z => by rw [z] at fz; cases fz
    have g2 : Go ρ H1 (ρ'.set n (some ds[i])) H4 := g.trans (Go.set (Same.refl H4) fun a es z => (no a es z).elim)
    refine ⟨i, ds[i], ρ', by simp [hlt], iv, r'.set hv n (.inl fz) (fun a es z => (no a es z).elim), ?_, q2, ?_, ?_⟩
    · exact fun σ2 H2 ρ2 g' r2 iv2 => ⟨ρ2, iv2, r2, g2.trans g'⟩
    · exact fun σ2 H2 ρ2 g' r2 m => q1 σ2 H2 ρ2 (g1.trans (g2.trans g')) r2 m
    · exact fun σ2 H2 ρ2 g' r2 iv2 => ⟨ρ2, iv2, r2, g2.trans g'⟩
  · have e : i = ds.length := by omega
    subst e
    exact .inl ⟨stop _ (Nat.le_refl _), q1 σ' H' ρ' (g1.trans g) r' (hd ρ' iv)⟩

/-- a new list is stored -/
theorem do_setN (n : Nat) {x : Str} {pos' : Pos} (he : EvN X e ρ ds) (hz : ∀ d ∈ ds, Fz d) (h : ∀ l, ¬ Mu ρ l → Do X rest (ρ.set n (some (.lst l ds))) P) (hN : X.N.Nodup) (hi : X.N[n]? = some x := by rfl) (hx : Loc X.env.scope x := by first | exact Or.inl rfl | exact Or.inr rfl)
    (hs : swapsWith e (some (.Name x pos')) pos.line X.env = pure false := by rfl) (hf : X.fn x = true ∨ X.env.scope.names.lookup x = some .local := by first | exact .inl rfl | exact .inr rfl) : Do X (.Assign [.Name x pos'] e pos :: rest) ρ P := by
  refine do_seq (M := fun ρ' => ∃ l, ¬ Mu ρ l ∧ ρ' = ρ.set n (some (.lst l ds))) (PS.imp (ps_set hN hi hx he hs hf) ?_) (fun _ ⟨l, hl, z⟩ => z ▸ h l hl)
  rintro D σ H ⟨r, q1, q2, q3, q4⟩
  refine ⟨r.e, fun l vs H' hl s e1 h' => q1 _ H' _ (Go.set s fun a es z => ?_) ((r.mono s).set (.lst e1 h') n (.inr (.inr ⟨l, ds, rfl, hz⟩)) fun a es z => ?_) ⟨l, fun m => ?_, rfl⟩⟩
  · cases z
    exact .inr hl
  · cases z
    exact r.same.free hl
  · obtain ⟨ys, z⟩ := r.mu m
    rw [hl] at z
    cases z
/-- xs.append(e) -/
theorem do_append (n : Nat) {x : Str} {l : Addr} {p1 p2 p3 : Pos} (hρ : ρ[n]? = some (some (.lst l ds))) (he : Ev X e ρ d) (hz : Fz d) (hl : ds.length < 1000000) (hothers : ∀ (j : Nat) (es : List D), j ≠ n → ρ[j]? ≠ some (some (.lst l es)))
    (h : Do X rest (ρ.set n (some (.lst l (ds ++ [d])))) P) (hN : X.N[n]? = some x := by rfl) (hv : Vis X.env.scope x := by first | exact Or.inl rfl | exact Or.inr (Or.inl rfl) | exact Or.inr (Or.inr rfl))
    (hd : (x == ("__debug__" : Str)) = false := by decide) (hcd : (x == ("__classdict__" : Str)) = false := by decide)
    (hbase : attributeBase (.Name x p1) "append" X.env (eval (.Name x p1) X.env) = eval (.Name x p1) X.env := by rfl)
    (hfew : ((backTo p3 (starEach [e] X.env)).all (fun x => !x.1) && (backToKw p3 (keywordEach [] X.env)).all (fun x => x.1.isSome) && decide ([e].length + ([] : List Keyword).length + (if ([] : List Keyword).isEmpty then 0 else 1) < 30)) = true := by rfl)
    (hline : (p2.endLine == p3.line) = true := by rfl) (hstar : starEach [e] X.env = [(false, eval e X.env)] := by rfl) (hs : swapsWith (.Call (.Attribute (.Name x p1) "append" p2) [e] [] p3) none pos.line X.env = pure false := by rfl) :
    Do X (.Expr (.Call (.Attribute (.Name x p1) "append" p2) [e] [] p3) pos :: rest) ρ P := by
  refine do_seq (M := fun ρ' => ρ' = ρ.set n (some (.lst l (ds ++ [d])))) (PS.imp (ps_expr (pe_bm PySem.F.plainAttrs_list PySem.F.slot_list_append PySem.F.type_list_append mt_append (pe_var hN hv hd hcd) (ea_cons he ea_nil hstar) hbase hfew hline hstar rfl) hs) ?_) (fun _ z => z ▸ h)
  rintro D σ H ⟨r, q1, q2, q3, q4⟩
  obtain ⟨v, e1, h1, h2⟩ := r.val n _ hρ
  obtain ⟨rfl, xs, hT, hA⟩ := h1.lst_inv
  have fds : ∀ e ∈ ds, Fz e := by
    rcases h2 with z | z | ⟨a, es, z, f⟩
    · cases z
    · obtain ⟨_, ys, z, _⟩ := z.lst_inv
      rw [r.own l ⟨n, ds, hρ⟩] at z
      cases z
    · cases z; exact f
  refine ⟨_, e1, .inl ⟨rfl, xs, .of hT⟩, r.e, fun vs H2 s2 h3' => ?_⟩
  obtain ⟨v2, rfl, h3⟩ := one_inv h3'
  have hT2 := s2 _ _ hT
  have lx : xs.length = ds.length := hA.length
  refine ⟨l, xs, v2, rfl, rfl, hT2, by rw [sizeLine_eq]; omega, ?_⟩
  have kt : KT H2 (upd H2 l (.lst (xs ++ [v2]))) :=
    ⟨fun b xs h => by rw [upd_ne (ne_of h hT2 (by intro z; cases z))]; exact h, fun b o u h => by rw [upd_ne (ne_of h hT2 (by intro z; cases z))]; exact h⟩
  have r2 := r.mono s2
  have h0 : X.H₀ l = none := r.own l ⟨n, ds, hρ⟩
  have same : Same X.H₀ (upd H2 l (.lst (xs ++ [v2]))) := fun b o h => by
    rw [upd_ne (ne_of_none h h0)]
    exact r2.same b o h
  have hnl : n < ρ.length := (List.getElem?_eq_some_iff.mp hρ).1
  have go : Go ρ H (ρ.set n (some (.lst l (ds ++ [d])))) (upd H2 l (.lst (xs ++ [v2]))) := by
    refine ⟨fun b o h nm => ?_, ?_⟩
    · have : b ≠ l := fun z => nm (z ▸ ⟨n, ds, hρ⟩)
      rw [upd_ne this]
      exact s2 _ _ h
    · rintro a ⟨j, es, hj⟩
      rcases set_get hj with ⟨rfl, z, _⟩ | ⟨_, hj⟩
      · cases z
        exact .inl ⟨_, ds, hρ⟩
      · exact .inl ⟨j, es, hj⟩
  have own : ∀ a, Mu (ρ.set n (some (.lst l (ds ++ [d])))) a → X.H₀ a = none := by
    rintro a ⟨j, es, hj⟩
    rcases set_get hj with ⟨rfl, z, _⟩ | ⟨_, hj⟩
    · cases z
      exact h0
    · exact r.own a ⟨j, es, hj⟩
  refine q1 _ _ _ go ⟨same, by simp [r.len], fun j e' hj => ?_, own⟩ rfl
  rcases set_get hj with ⟨rfl, rfl, _⟩ | ⟨hne, hj⟩
  · refine ⟨.ref l, e1, .lst upd_same ?_, .inr (.inr ⟨l, _, rfl, fun e' he' => ?_⟩)⟩
    · exact ((hA.mono s2).keep kt fds).append (.cons (h3.keep kt hz) .nil)
    · rcases List.mem_append.mp he' with z | z
      · exact fds _ z
      · rw [List.mem_singleton.mp z]; exact hz
  · obtain ⟨u, f1, f2, f3⟩ := r2.val j e' hj
    refine ⟨u, f1, ?_, f3⟩
    rcases f3 with z | z | ⟨a, es, rfl, z⟩
    · exact f2.keep kt z
    · exact z.mono same
    · obtain ⟨rfl, ys, g1, g2⟩ := f2.lst_inv
      have : a ≠ l := fun z => hothers j es hne (z ▸ hj)
      exact .lst (by rw [upd_ne this]; exact g1) (g2.keep kt z)
end
end FL

/-! FE: == of plain data, in and not in, slices, lists handed back -/
namespace FL
open PySem PySem.Spec PyProof.Rows L2
/-! what == tells apart as data does; n: how deep the tuples lie -/
mutual
inductive Cm : Nat → D → D → Prop
  | non {n : Nat} : Cm n .non .non
  | bl {n : Nat} (a b : Bool) : Cm n (.bl a) (.bl b)
  | int {n : Nat} (i j : Int) : Cm n (.int i) (.int j)
  | str {n : Nat} (x y : Str) : Cm n (.str x) (.str y)
  | tup {n : Nat} {ds es : List D} (h : Cms n ds es) : Cm (n + 1) (.tup ds) (.tup es)
inductive Cms : Nat → List D → List D → Prop
  | nil {n : Nat} : Cms n [] []
  | short {n : Nat} (e : D) (es : List D) : Cms n [] (e :: es)
  | long {n : Nat} (d : D) (ds : List D) : Cms n (d :: ds) []
  | cons {n : Nat} {d e : D} {ds es : List D} (h : Cm n d e) (r : Cms n ds es) : Cms n (d :: ds) (e :: es)
end
theorem Cms.ints {n : Nat} : ∀ (ns ms : List Int), Cms n (ns.map D.int) (ms.map D.int)
  | [], [] => .nil
  | [], m :: ms => .short _ _
  | n :: ns, [] => .long _ _
  | n :: ns, m :: ms => .cons (.int n m) (Cms.ints ns ms)
theorem Cm.ints {n : Nat} (ns ms : List Int) : Cm (n + 1) (.tup (ns.map D.int)) (.tup (ms.map D.int)) := .tup (Cms.ints ns ms)
theorem Cms.get {n : Nat} : ∀ {ds es : List D}, Cms n ds es → ∀ (j : Nat) (d e : D), ds[j]? = some d → es[j]? = some e → Cm n d e
  | _, _, .nil, j, d, e, h, _ => by simp at h
  | _, _, .short _ _, j, d, e, h, _ => by simp at h
  | _, _, .long _ _, j, d, e, _, h => by simp at h
  | _, _, .cons h r, 0, d, e, h1, h2 => by simp at h1 h2; subst h1 h2; exact h
  | _, _, .cons h r, j + 1, d, e, h1, h2 => Cms.get r j d e (by simpa using h1) (by simpa using h2)
open Classical in
/-- the answer of == -/
noncomputable def eqb (d e : D) : Bool := decide (d = e)
open Classical in
theorem eqb_iff {d e : D} : eqb d e = true ↔ d = e := by unfold eqb; exact decide_eq_true_iff
theorem eqb_of {d e : D} {k : Bool} (h : k = true ↔ d = e) : eqb d e = k := by
  cases k with
  | true => exact eqb_iff.mpr (h.mp rfl)
  | false =>
    cases q : eqb d e with
    | false => rfl
    | true => exact absurd (h.mpr (eqb_iff.mp q)) Bool.false_ne_true

section
variable {X : Cx} {pins : List (Addr × Obj)} {σ : L2.St} {H : Hp} {s : Shared}
mutual
theorem Is.inj (I : L2.Inv X pins σ H s) : ∀ {n : Nat} {d e : D} {v : V}, Cm n d e → Is X.K H v d → Is X.K H v e → d = e
  | _, _, _, _, .non, _, _ => rfl
  | _, _, _, _, .bl a b, h1, h2 => by cases h1.bl_inv; cases h2.bl_inv; rfl
  | _, _, _, _, .int a b, h1, h2 => by cases h1.int_inv; cases h2.int_inv; rfl
  | _, _, _, _, .str a b, h1, h2 => by cases h1.str_inv; cases h2.str_inv; rfl
  | _, _, _, _, .tup c, h1, h2 => by
    obtain ⟨a, xs, rfl, t1, r1⟩ := h1.tup_inv
    obtain ⟨a', ys, z, t2, r2⟩ := h2.tup_inv
    cases z
    cases I.tuple_inj t1 t2
    rw [IsAll.inj I c r1 r2]
theorem IsAll.inj (I : L2.Inv X pins σ H s) : ∀ {n : Nat} {ds es : List D} {vs : List V}, Cms n ds es → IsAll X.K H vs ds → IsAll X.K H vs es → ds = es
  | _, _, _, _, .nil, _, _ => rfl
  | _, _, _, _, .short _ _, h1, h2 => by have a := h1.length; have b := h2.length; rw [a] at b; simp at b
  | _, _, _, _, .long _ _, h1, h2 => by have a := h1.length; have b := h2.length; rw [a] at b; simp at b
  | _, _, _, _, .cons c r, .cons h1 r1, .cons h2 r2 => by rw [Is.inj I c h1 h2, IsAll.inj I r r1 r2]
end
theorem tup_eq_iff {ds es : List D} : D.tup ds = D.tup es ↔ ds.length = es.length ∧ ∀ (j : Nat) (d e : D), ds[j]? = some d → es[j]? = some e → d = e := by
  constructor
  · intro h
    cases h
    exact ⟨rfl, fun j d e h1 h2 => by rw [h1] at h2; exact Option.some.inj h2⟩
  · rintro ⟨h1, h2⟩
    congr 1
    refine List.ext_getElem? fun j => ?_
    by_cases hj : j < ds.length
    · have hj' : j < es.length := by omega
      rw [List.getElem?_eq_getElem hj, List.getElem?_eq_getElem hj', h2 j _ _ (List.getElem?_eq_getElem hj) (List.getElem?_eq_getElem hj')]
    · rw [List.getElem?_eq_none (by omega), List.getElem?_eq_none (by omega)]
/-- item by item -/
noncomputable def fEq (ds es : List D) (j : Nat) : Bool := match ds[j]?, es[j]? with
  | some d, some e => eqb d e
  | _, _ => true
theorem fEq_at {ds es : List D} {j : Nat} {d e : D} (h1 : ds[j]? = some d) (h2 : es[j]? = some e) : fEq ds es j = eqb d e := by
  unfold fEq
  rw [h1, h2]
theorem fEq_all {ds es : List D} {n m : Nat} (l1 : n = ds.length) (l2 : m = es.length) : eqb (.tup ds) (.tup es) = ((List.range (min n m)).all (fEq ds es) && n == m) := by
  subst l1 l2
  refine eqb_of ?_
  rw [tup_eq_iff, Bool.and_eq_true, List.all_eq_true, beq_iff_eq]
  simp only [List.mem_range]
  constructor
  · rintro ⟨g1, g2⟩
    refine ⟨g2, fun j d e hd he => ?_⟩
    have hj : j < ds.length := (List.getElem?_eq_some_iff.mp hd).1
    have := g1 j (by omega)
    rw [fEq_at hd he] at this
    exact eqb_iff.mp this
  · rintro ⟨g2, g1⟩
    refine ⟨fun j hj => ?_, g2⟩
    have d1 : ds[j]? = some ds[j] := List.getElem?_eq_getElem (by omega)
    have d2 : es[j]? = some es[j] := List.getElem?_eq_getElem (by omega)
    rw [fEq_at d1 d2]
    exact eqb_iff.mpr (g1 j _ _ d1 d2)
theorem fEq_items {A : Around} {xs ys : List V} {us ws : List Value} {ds es : List D} (q1 : IsAll X.K H xs ds) (q2 : IsAll X.K H ys es) (w1 : Vals xs us) (w2 : Vals ys ws)
    (hit : ∀ (j : Nat) (d e : D) (v1 v2 : V) (u1 u2 : Value), ds[j]? = some d → es[j]? = some e → Is X.K H v1 d → Is X.K H v2 e → RelV v1 u1 → RelV v2 u2 → SeqAt.EqAt A s u1 u2 (eqb d e)) :
    ∀ (j : Nat) (h1 : j < us.toArray.size) (h2 : j < ws.toArray.size), SeqAt.EqAt A s us.toArray[j] ws.toArray[j] (fEq ds es j) := by
  intro j h1 h2
  have l1 : us.length = ds.length := by rw [← w1.length, q1.length]
  have l2 : ws.length = es.length := by rw [← w2.length, q2.length]
  have j1 : j < us.length := by simpa using h1
  have j2 : j < ws.length := by simpa using h2
  have d1 : ds[j]? = some ds[j] := List.getElem?_eq_getElem (by omega)
  have d2 : es[j]? = some es[j] := List.getElem?_eq_getElem (by omega)
  obtain ⟨v1, g1, i1⟩ := q1.get d1
  obtain ⟨v2, g2, i2⟩ := q2.get d2
  obtain ⟨u1, g3, k1⟩ := w1.get g1
  obtain ⟨u2, g4, k2⟩ := w2.get g2
  have e1 : us.toArray[j] = u1 := by
    have : us[j]? = some us[j] := List.getElem?_eq_getElem j1
    rw [g3] at this
    simpa using (Option.some.inj this).symm
  have e2 : ws.toArray[j] = u2 := by
    have : ws[j]? = some ws[j] := List.getElem?_eq_getElem j2
    rw [g4] at this
    simpa using (Option.some.inj this).symm
  rw [e1, e2, fEq_at d1 d2]
  exact hit j _ _ v1 v2 u1 u2 d1 d2 i1 i2 k1 k2
theorem eqAt_D (I : L2.Inv X pins σ H s) : ∀ {n : Nat} {d e : D} {v u : V} {v' u' : Value} (A : Around), Cm n d e → A.units + n < cLine → Is X.K H v d → Is X.K H u e → RelV v v' → RelV u u' → SeqAt.EqAt A s v' u' (eqb d e)
  | n, _, _, v, u, v', u', A, .non, _, h1, h2, r1, r2 => by
    cases h1.non_inv; cases h2.non_inv; cases r1; cases r2
    rw [eqb_of (k := true) (by simp)]
    exact SeqAt.EqAt.same _
  | n, _, _, v, u, v', u', A, .bl a b, _, h1, h2, r1, r2 => by
    cases h1.bl_inv; cases h2.bl_inv
    rw [eqb_of (k := eqV (.bl a) (.bl b)) (by show (a == b) = true ↔ _; simp)]
    exact eqAt_V r1 r2 rfl rfl
  | n, _, _, v, u, v', u', A, .int a b, _, h1, h2, r1, r2 => by
    cases h1.int_inv; cases h2.int_inv
    rw [eqb_of (k := eqV (.int a) (.int b)) (by show (a == b) = true ↔ _; simp)]
    exact eqAt_V r1 r2 rfl rfl
  | n, _, _, v, u, v', u', A, .str a b, _, h1, h2, r1, r2 => by
    cases h1.str_inv; cases h2.str_inv
    rw [eqb_of (k := eqV (.str a) (.str b)) (by show (a == b) = true ↔ _; simp)]
    exact eqAt_V r1 r2 rfl rfl
  | n + 1, .tup ds, .tup es, v, u, v', u', A, .tup c, hu, h1, h2, r1, r2 => by
    obtain ⟨a, xs, rfl, t1, q1⟩ := h1.tup_inv
    obtain ⟨b, ys, rfl, t2, q2⟩ := h2.tup_inv
    cases r1
    cases r2
    by_cases hab : a = b
    · subst hab
      cases I.tuple_inj t1 t2
      rw [IsAll.inj I c q1 q2, eqb_of (k := true) (by simp)]
      exact SeqAt.EqAt.same _
    · obtain ⟨us, w1, p1, _⟩ := I.tuple t1
      obtain ⟨ws, w2, p2, _⟩ := I.tuple t2
      rw [fEq_all (n := us.toArray.size) (m := ws.toArray.size) (by rw [List.size_toArray, ← w1.length, q1.length]) (by rw [List.size_toArray, ← w2.length, q2.length])]
      exact SeqAt.EqAt.of_refs hab (SeqAt.RcAt.tuples p1 p2 (by omega) (fEq_items q1 q2 w1 w2 fun j d e v1 v2 u1 u2 d1 d2 i1 i2 k1 k2 => eqAt_D I A.in1 (c.get j _ _ d1 d2) (by show A.units + 1 + n < cLine; omega) i1 i2 k1 k2))
end
section
variable {X : Cx}
variable {e a b c : Expr} {es : List Expr} {ρ : Ro} {d : D} {ds fs : List D} {pos : Pos} {i j : Int} {k k' : Bool}
/-! ### slices of lists, lists written out -/
def cutD (ds : List D) (lo hi : Option Int) : List D := (ds.drop (HT.sIx ds.length 0 lo)).take (HT.sIx ds.length ds.length hi - HT.sIx ds.length 0 lo)
theorem IsAll.drop {K : PySem.W.Frag} {H : Hp} : ∀ {vs : List V} {ds : List D} (n : Nat), IsAll K H vs ds → IsAll K H (vs.drop n) (ds.drop n)
  | _, _, 0, h => h
  | _, _, _ + 1, .nil => .nil
  | _, _, n + 1, .cons _ r => IsAll.drop n r
theorem IsAll.take {K : PySem.W.Frag} {H : Hp} : ∀ {vs : List V} {ds : List D} (n : Nat), IsAll K H vs ds → IsAll K H (vs.take n) (ds.take n)
  | _, _, 0, _ => .nil
  | _, _, _ + 1, .nil => .nil
  | _, _, n + 1, .cons h r => .cons h (IsAll.take n r)
theorem IsAll.cut {K : PySem.W.Frag} {H : Hp} {vs : List V} {ds : List D} (h : IsAll K H vs ds) (lo hi : Option Int) : IsAll K H (cutV vs lo hi) (cutD ds lo hi) := by
  unfold cutV cutD
  rw [h.length]
  exact (h.drop _).take _
/-- a part of a slice -/
def EvO (X : Cx) (e : Option Expr) (ρ : Ro) (o : Option Int) : Prop := PO X e (fun σ H Q => RelE X H σ ρ ∧ ∀ H', Same H H' → Q o H')
theorem PO.imp {o : Option Expr} {t t' : TO} (h : PO X o t) (f : ∀ σ H Q, t' σ H Q → t σ H Q) : PO X o t' := fun pins s σ H Q I q => h pins s σ H Q I (f σ H Q q)
theorem eo_none : EvO X none ρ none := PO.imp po_none fun _ H _ ⟨_, q⟩ => q H (Same.refl H)
theorem eo_some (h : Ev X e ρ (.int i)) : EvO X (some e) ρ (some i) := PO.imp (po_some h) fun σ H Q ⟨r, q⟩ => ⟨r, fun v H' s' h' => ⟨i, h'.int_inv, q H' s'⟩⟩
theorem evn_list (h : EvA X es ρ ds) (hl : ds.length ≤ 1000 := by exact Nat.le_of_ble_eq_true rfl) : EvN X (.List es pos) ρ ds := by
  refine PE.imp (pe_lst h) ?_
  rintro σ H Q ⟨r, q⟩
  exact ⟨r, fun vs H1 s1 h1 => ⟨by rw [h1.length]; exact Nat.le_of_lt (small1000 hl), fun p hp => q p vs _ (s1.free hp) (s1.trans (same_new hp)) upd_same (h1.mono (same_new hp))⟩⟩
end
/-! ### defs that hand back a new list -/
def SpL (K : PySem.W.Frag) (Pf : List D → List D → Prop) : Sp := fun vs H Q _ => ∃ ds es, IsAll K H vs ds ∧ Pf ds es ∧ ∀ a us H', H a = none → Same H H' → H' a = some (.lst us) → IsAll K H' us es → Q (.ref a) H'
def FnL (P : Program) (w : World) (K : PySem.W.Frag) (mg : Str → Option Value) (base : Heap) (k : Nat) (x : Str) (Pf : List D → List D → Prop) : Prop :=
  ∃ f fd ps, FnOk P w K mg base CX0 k f fd ps (SpL K Pf) ∧ mg x = some (.ref f) ∧ PySem.W.keepIn K (.ref f) = true ∧ Binds K fd ps []
section
variable {X : Cx} {e a b c : Expr} {es : List Expr} {ρ : Ro} {d : D} {ds : List D} {pos : Pos} {rest : List Stmt} {Q : Po}
theorem evn_call {k : Nat} {x : Str} {Pf : List D → List D → Prop} {fs : List D} {p : Pos} (C : FnL X.prog X.w X.K X.mg X.base k x Pf) (hr : Room k X.A) (ha : EvA X (e :: es) ρ ds) (hp : Pf ds fs) (hg : Gl X x := by rfl) (hdb : (x == ("__debug__" : Str)) = false := by decide)
    (he : starEach (e :: es) X.env = (false, eval e X.env) :: starEach es X.env := by rfl) (hpl : (backTo pos (starEach es X.env)).any (·.1) = false := by rfl) : EvN X (.Call (.Name x p) (e :: es) [] pos) ρ fs := by
  obtain ⟨f, fd, ps, F, hm, hk, hb⟩ := C
  refine PE.imp (pe_call F hr hg hm hk hb .nil pass0 ha hdb he hpl) ?_
  rintro σ H Q ⟨r, q⟩
  refine ⟨r, fun vs H1 s1 h1 => ⟨ds, fs, ?_, hp, fun v us H' hv s' e' h' => q v us H' (s1.free hv) (s1.trans s') e' h'⟩⟩
  rw [List.append_nil]
  exact h1
/-- return of a new list -/
theorem do_retL (he : EvN X e ρ ds) (h : ∀ l, Q.rt (.lst l ds)) : Do X (.Return (some e) pos :: rest) ρ Q := by
  refine PSs.imp (pss_cons (u := tNever) (ps_ret he) pss_never) ?_
  rintro D σ H ⟨r, q1, q2, q3, q4⟩
  exact ⟨r.e, fun l vs H' hl s e' h' => q2 _ H' _ (r.same.trans s) (.lst e' h') (fun a es z => by cases z; exact r.same.free hl) (h l)⟩
end
section
variable {P : Program} {w : World} {K : PySem.W.Frag} {mg : Str → Option Value} {base : Heap}
theorem fnl_mk {x qual : Str} {st : Stmt} {f : Addr} {fd : FuncData} {N ps : List Str} {k : Nat} {Pf : List D → List D → Prop} (F : Fun K x qual st f fd) (S : FnScope N ps (defScope st)) (hm : mg x = some (.ref f)) (hb : Binds K fd ps [])
    (hl : ∀ ds es, Pf ds es → ds.length = ps.length ∧ ∀ a fs, D.lst a fs ∉ ds)
    (hbody : ∀ (cdv : Value) (A : Around) (outer : List Env) (s : Shared) (H : Hp) (E : XK), Room k (A.deeper (envOfC qual (defScope st) s.heap.objs.size f cdv)) → ∀ ds es, Pf ds es →
      Do (cxD P w K mg base N qual st f cdv A outer s H E) (defBody st) (ini N ds) { nx := fun _ => False, rt := fun d' => ∃ l, d' = .lst l es }) : FnL P w K mg base (k + 1) x Pf := by
  refine ⟨f, fd, ps, F.ok S (fun vs H Q E h => ?_) (fun cdv A outer s H vs Q E hr h => ?_), hm, F.kp, hb⟩
  · obtain ⟨ds, es, h1, h2, _⟩ := h
    rw [h1.length]
    exact (hl ds es h2).1
  · obtain ⟨ds, es, h1, h2, q⟩ := h
    refine ⟨_, hbody cdv A outer s H E hr ds es h2, ?_⟩
    refine ⟨relS_start (X := cxD P w K mg base N qual st f cdv A outer s H E) h1 (hl ds es h2).2, fun _ _ _ _ _ z => z.elim, fun v H' d' sm hv fr z => ?_, fun _ _ _ _ _ z => z.elim, fun _ _ _ _ _ z => z.elim⟩
    obtain ⟨l, z⟩ : ∃ l, d' = .lst l es := z
    subst z
    obtain ⟨rfl, us, e1, e2⟩ := hv.lst_inv
    exact q l us H' (fr l es rfl) sm e1 e2
end
end FL

/-! FR: promises that tell what is true of the answer -/
namespace FL
open PySem PySem.Spec PyProof.Rows L2
section
variable {X : Cx} {e a b c : Expr} {es : List Expr} {ρ : Ro} {d : D} {ds : List D} {pos : Pos} {i j : Int} {rest : List Stmt} {P : Po} {R S : D → Prop} {Rs : List D → Prop}
end
section
variable {X : Cx} {e : Expr} {es : List Expr} {ρ : Ro} {ds : List D} {pos : Pos} {Rs : List D → Prop}
end
section
variable {P : Program} {w : World} {K : PySem.W.Frag} {mg : Str → Option Value} {base : Heap}
end
end FL

/-! FI: in, not in; == of lists; items by an open place -/
namespace FL
open PySem PySem.Spec PyProof.Rows L2
section
variable {X : Cx} {pins : List (Addr × Obj)} {σ : L2.St} {H : Hp} {s : Shared}
theorem Cm.cast {n : Nat} {d e f : D} (h : Cm n d f) (z : e = f) : Cm n d e := z ▸ h
open Classical in
/-- the answers of the items of a list, by their values -/
noncomputable def ansU (K : PySem.W.Frag) (H : Hp) (ds : List D) (x : D) (u : Value) : Bool := decide (∃ v d, RelV v u ∧ Is K H v d ∧ d ∈ ds ∧ d = x)
open Classical in
theorem ansU_at (I : L2.Inv X pins σ H s) {n : Nat} {ds : List D} {x d : D} {v : V} {u : Value} (hc : ∀ d ∈ ds, Cm n d x) (hd : d ∈ ds) (h : Is X.K H v d) (r : RelV v u) : ansU X.K H ds x u = eqb d x := by
  rw [Bool.eq_iff_iff, eqb_iff]
  unfold ansU
  rw [decide_eq_true_iff]
  constructor
  · rintro ⟨v', d', r', h', hd', e⟩
    cases r.inj r'
    have c : Cm n d d' := (hc d hd).cast e
    rw [Is.inj I c h h', e]
  · intro e
    exact ⟨v, d, r, h, hd, e⟩
theorem ansU_any (I : L2.Inv X pins σ H s) {n : Nat} {x : D} {ds0 : List D} (hc : ∀ d ∈ ds0, Cm n d x) : ∀ {vs : List V} {us : List Value} {ds : List D}, (∀ d ∈ ds, d ∈ ds0) → IsAll X.K H vs ds → Vals vs us → us.any (ansU X.K H ds0 x) = ds.any (fun d => eqb d x)
  | _, _, _, _, .nil, .nil => rfl
  | _, _, _, hs, .cons h q, .cons r t => by
    rw [List.any_cons, List.any_cons, ansU_at I hc (hs _ List.mem_cons_self) h r, ansU_any I hc (fun d hd => hs d (List.mem_cons_of_mem _ hd)) q t]
theorem ansU_items (I : L2.Inv X pins σ H s) {A : Around} {n : Nat} {x : D} {vx : V} {ux : Value} {ds0 : List D} (hc : ∀ d ∈ ds0, Cm n d x) (hu : A.units + n < cLine) (hx : Is X.K H vx x) (rx : RelV vx ux) :
    ∀ {vs : List V} {us : List Value} {ds : List D}, (∀ d ∈ ds, d ∈ ds0) → IsAll X.K H vs ds → Vals vs us → ∀ y ∈ us, SeqAt.EqAt A s y ux (ansU X.K H ds0 x y)
  | _, _, _, _, .nil, .nil => fun y hy => by cases hy
  | _, _, _, hs, .cons h q, .cons r t => fun y hy => by
    rcases List.mem_cons.mp hy with rfl | hy
    · rw [ansU_at I hc (hs _ List.mem_cons_self) h r]
      exact eqAt_D I A (hc _ (hs _ List.mem_cons_self)) hu h hx r rx
    · exact ansU_items I hc hu hx rx (fun d hd => hs d (List.mem_cons_of_mem _ hd)) q t y hy
end
section
variable {X : Cx}
noncomputable def inD (x : D) (ds : List D) : Bool := ds.any fun d => eqb d x
theorem inD_iff {x : D} {ds : List D} : inD x ds = true ↔ x ∈ ds := by
  unfold inD
  rw [List.any_eq_true]
  constructor
  · rintro ⟨d, h1, h2⟩
    rw [eqb_iff] at h2
    exact h2 ▸ h1
  · intro h
    exact ⟨x, h, eqb_iff.mpr rfl⟩
def rInD (X : Cx) (neg : Bool) : R2 := fun x y H Q => ∃ n d e ds, Is X.K H x d ∧ Is X.K H y e ∧ (lsD e = some ds ∨ e = .tup ds) ∧ (∀ z ∈ ds, Cm n z d) ∧ X.A.units + n + 1 < cLine ∧ Q (.bl (if neg then !inD d ds else inD d ds)) H
theorem op_inD : OpR X (compareOp .In) (rInD X false) := by
  intro pins s σ H x y v u Q I rx ry h
  obtain ⟨n, d, e, ds, h1, h2, h3, hc, hu, q⟩ := h
  rcases h3 with h3 | rfl
  · obtain ⟨a, xs, rfl, t, r⟩ := h2.lsD_inv h3
    cases ry
    obtain ⟨us, w1, p1, _⟩ := I.list t
    refine SeqAt.in_listAt (ansU X.K H ds d) p1.isList (fun z hz => ansU_items I hc (by show X.A.units + 1 + n < cLine; omega) h1 rx (fun _ h => h) r w1 z (by simpa using hz)) ?_
    have e' : us.toArray.any (ansU X.K H ds d) = inD d ds := by rw [List.any_toArray]; exact ansU_any I hc (fun _ h => h) r w1
    rw [e']
    exact ⟨.bl _, H, I, rfl, q⟩
  · obtain ⟨a, xs, rfl, t, r⟩ := h2.tup_inv
    cases ry
    obtain ⟨us, w1, p1, _⟩ := I.tuple t
    refine SeqAt.in_tupleAt (ansU X.K H ds d) p1 (fun z hz => ansU_items I hc (by show X.A.units + 1 + n < cLine; omega) h1 rx (fun _ h => h) r w1 z (by simpa using hz)) ?_
    have e' : us.toArray.any (ansU X.K H ds d) = inD d ds := by rw [List.any_toArray]; exact ansU_any I hc (fun _ h => h) r w1
    rw [e']
    exact ⟨.bl _, H, I, rfl, q⟩
theorem op_notInD : OpR X (compareOp .NotIn) (rInD X true) := by
  intro pins s σ H x y v u Q I rx ry h
  obtain ⟨n, d, e, ds, h1, h2, h3, hc, hu, q⟩ := h
  rcases h3 with h3 | rfl
  · obtain ⟨a, xs, rfl, t, r⟩ := h2.lsD_inv h3
    cases ry
    obtain ⟨us, w1, p1, _⟩ := I.list t
    refine SeqAt.notIn_listAt (ansU X.K H ds d) p1.isList (fun z hz => ansU_items I hc (by show X.A.units + 1 + n < cLine; omega) h1 rx (fun _ h => h) r w1 z (by simpa using hz)) ?_
    have e' : us.toArray.any (ansU X.K H ds d) = inD d ds := by rw [List.any_toArray]; exact ansU_any I hc (fun _ h => h) r w1
    rw [e']
    exact ⟨.bl _, H, I, rfl, q⟩
  · obtain ⟨a, xs, rfl, t, r⟩ := h2.tup_inv
    cases ry
    obtain ⟨us, w1, p1, _⟩ := I.tuple t
    refine SeqAt.notIn_tupleAt (ansU X.K H ds d) p1 (fun z hz => ansU_items I hc (by show X.A.units + 1 + n < cLine; omega) h1 rx (fun _ h => h) r w1 z (by simpa using hz)) ?_
    have e' : us.toArray.any (ansU X.K H ds d) = inD d ds := by rw [List.any_toArray]; exact ansU_any I hc (fun _ h => h) r w1
    rw [e']
    exact ⟨.bl _, H, I, rfl, q⟩
variable {e a b c : Expr} {es : List Expr} {ρ : Ro} {d f : D} {ds fs : List D} {pos : Pos} {i j : Int} {k k' : Bool}
theorem rInD_of {n m : Nat} {neg : Bool} {x : D} (hr : Room m X.A) (hf : lsD f = some ds ∨ f = .tup ds) (hc : ∀ z ∈ ds, Cm n z x) (hn : n ≤ 60) (hk : d = .bl (if neg then !inD x ds else inD x ds)) :
    ∀ v1 v2 H Q, Is X.K H v1 x → Is X.K H v2 f → (∀ v H', Same H H' → Is X.K H' v d → Q v H') → rInD X neg v1 v2 H Q :=
  fun _ _ H _ h1 h2 q => ⟨n, x, f, ds, h1, h2, hf, hc, (by have := hr.units; omega), q _ H (Same.refl H) (hk ▸ .bl _)⟩
theorem ev_in {n m : Nat} (hr : Room m X.A) (ha : Ev X a ρ d) (hb : Ev X b ρ f) (hf : lsD f = some ds ∨ f = .tup ds) (hc : ∀ z ∈ ds, Cm n z d) (hn : n ≤ 60 := by decide) (hm : behindInMarks .In b = false := by rfl) : Ev X (.Compare a [.In] [b] pos) ρ (.bl (inD d ds)) :=
  ev_cmp op_inD ha hb hm (rInD_of hr hf hc hn rfl)
theorem et_notin {n m : Nat} (hr : Room m X.A) (ha : Ev X a ρ d) (hb : Ev X b ρ f) (hf : lsD f = some ds ∨ f = .tup ds) (hc : ∀ z ∈ ds, Cm n z d) (hn : n ≤ 60 := by decide) (hm : behindInMarks .NotIn b = false := by rfl) : Et X (.Compare a [.NotIn] [b] pos) ρ (!inD d ds) :=
  et_cmp op_notInD ha hb hm (rInD_of hr hf hc hn rfl)
/-! == of two lists of plain data -/
def rEqL (X : Cx) (neg : Bool) : R2 := fun x y H Q => ∃ n d e ds es, Is X.K H x d ∧ Is X.K H y e ∧ lsD d = some ds ∧ lsD e = some es ∧ Cms n ds es ∧ X.A.units + n + 1 < cLine ∧ Q (.bl (if neg then !eqb (.tup ds) (.tup es) else eqb (.tup ds) (.tup es))) H
theorem op_eqL : OpR X (compareOp .Eq) (rEqL X false) := by
  intro pins s σ H x y v u Q I rx ry h
  obtain ⟨n, d, e, ds, es, h1, h2, l1, l2, c, hu, q⟩ := h
  obtain ⟨a, xs, rfl, t1, q1⟩ := h1.lsD_inv l1
  obtain ⟨b, ys, rfl, t2, q2⟩ := h2.lsD_inv l2
  cases rx
  cases ry
  obtain ⟨us, w1, p1, _⟩ := I.list t1
  obtain ⟨ws, w2, p2, _⟩ := I.list t2
  have e1 : us.length = ds.length := by rw [← w1.length, q1.length]
  have e2 : ws.length = es.length := by rw [← w2.length, q2.length]
  by_cases hz : ds.length = es.length
  · refine SeqAt.eq_listAt p1.isList p2.isList (by simp; omega) (by omega) (fEq_items q1 q2 w1 w2 fun j d e v1 v2 u1 u2 d1 d2 i1 i2 k1 k2 => eqAt_D I X.A.in1 (c.get j _ _ d1 d2) (by show X.A.units + 1 + n < cLine; omega) i1 i2 k1 k2) ?_
    have ek : (List.range us.toArray.size).all (fEq ds es) = eqb (.tup ds) (.tup es) := by
      rw [fEq_all (n := us.length) (m := ws.length) e1 e2, List.size_toArray, show min us.length ws.length = us.length by omega, show (us.length == ws.length) = true by simp; omega, Bool.and_true]
    rw [ek]
    exact ⟨.bl _, H, I, rfl, q⟩
  · refine SeqAt.eq_list_lengthsAt p1.isList p2.isList (by simp; omega) (by omega) ?_
    have ek : eqb (.tup ds) (.tup es) = false := eqb_of (by
      constructor
      · intro z; cases z
      · intro z; cases z; exact absurd rfl hz)
    rw [ek] at q
    exact ⟨.bl _, H, I, rfl, q⟩
theorem op_neL : OpR X (compareOp .NotEq) (rEqL X true) := by
  intro pins s σ H x y v u Q I rx ry h
  obtain ⟨n, d, e, ds, es, h1, h2, l1, l2, c, hu, q⟩ := h
  obtain ⟨a, xs, rfl, t1, q1⟩ := h1.lsD_inv l1
  obtain ⟨b, ys, rfl, t2, q2⟩ := h2.lsD_inv l2
  cases rx
  cases ry
  obtain ⟨us, w1, p1, _⟩ := I.list t1
  obtain ⟨ws, w2, p2, _⟩ := I.list t2
  have e1 : us.length = ds.length := by rw [← w1.length, q1.length]
  have e2 : ws.length = es.length := by rw [← w2.length, q2.length]
  by_cases hz : ds.length = es.length
  · refine SeqAt.RcNeAt.lists p1.isList p2.isList (by simp; omega) (by omega) (fEq_items q1 q2 w1 w2 fun j d e v1 v2 u1 u2 d1 d2 i1 i2 k1 k2 => eqAt_D I X.A.in1 (c.get j _ _ d1 d2) (by show X.A.units + 1 + n < cLine; omega) i1 i2 k1 k2) _ _ _ _ ?_
    have ek : (List.range us.toArray.size).all (fEq ds es) = eqb (.tup ds) (.tup es) := by
      rw [fEq_all (n := us.length) (m := ws.length) e1 e2, List.size_toArray, show min us.length ws.length = us.length by omega, show (us.length == ws.length) = true by simp; omega, Bool.and_true]
    rw [ek]
    exact ⟨.bl _, H, I, rfl, q⟩
  · refine SeqAt.RcNeAt.lists_lengths p1.isList p2.isList (by simp; omega) (by omega) _ _ _ _ ?_
    have ek : eqb (.tup ds) (.tup es) = false := eqb_of (by
      constructor
      · intro z; cases z
      · intro z; cases z; exact absurd rfl hz)
    rw [ek] at q
    exact ⟨.bl _, H, I, rfl, q⟩
theorem rEqL_of {n m : Nat} {neg : Bool} {g : D} (hr : Room m X.A) (l1 : lsD f = some ds) (l2 : lsD g = some fs) (c : Cms n ds fs) (hn : n ≤ 60) (hk : d = .bl (if neg then !eqb (.tup ds) (.tup fs) else eqb (.tup ds) (.tup fs))) :
    ∀ v1 v2 H Q, Is X.K H v1 f → Is X.K H v2 g → (∀ v H', Same H H' → Is X.K H' v d → Q v H') → rEqL X neg v1 v2 H Q :=
  fun _ _ H _ h1 h2 q => ⟨n, f, g, ds, fs, h1, h2, l1, l2, c, (by have := hr.units; omega), q _ H (Same.refl H) (hk ▸ .bl _)⟩
theorem et_neL {n m : Nat} {g : D} (hr : Room m X.A) (ha : Ev X a ρ f) (hb : Ev X b ρ g) (l1 : lsD f = some ds) (l2 : lsD g = some fs) (c : Cms n ds fs) (hn : n ≤ 60 := by decide) : Et X (.Compare a [.NotEq] [b] pos) ρ (!eqb (.tup ds) (.tup fs)) :=
  et_cmp op_neL ha hb (nomark _) (rEqL_of hr l1 l2 c hn rfl)
theorem ev_eqL {n m : Nat} {g : D} (hr : Room m X.A) (ha : Ev X a ρ f) (hb : Ev X b ρ g) (l1 : lsD f = some ds) (l2 : lsD g = some fs) (c : Cms n ds fs) (hn : n ≤ 60 := by decide) : Ev X (.Compare a [.Eq] [b] pos) ρ (.bl (eqb (.tup ds) (.tup fs))) :=
  ev_cmp op_eqL ha hb (nomark _) (rEqL_of hr l1 l2 c hn rfl)
end
end FL

/-! FT: what sorted() gives for fewer than 64 items, for any order that whole numbers tell -/
namespace FT
open PySem PySem.W PyProof.Rows
section
variable {r : Nat → Int} {n : Nat} {p p' : Array Nat}
end
end FT
/-! FT, further: the call of sorted() over a heap -/
namespace FT
open PySem PySem.W PySem.Calls PyProof.Rows
section
variable {prog : Program} {w : World} {A : Around} {E : Value → Shared → Prop} {s : Shared} {vs : List Value} {r : Nat → Int} {κ : SortKind}
end
end FT
/-! FT, the end: sorted() of tuples of whole numbers, fewer than 64 -/
namespace FT
open PySem PySem.W PySem.Spec PySem.Calls PyProof.Rows L2 FL
abbrev tupI (t : List Int) : D := .tup (t.map D.int)
section
variable {prog : Program} {w : World} {A : Around} {s : Shared}
end
end FT
namespace FT
open PySem PySem.W PySem.Spec PySem.Calls PyProof.Rows L2 FL
theorem ints_of {K : PySem.W.Frag} {H : Hp} : ∀ {ys : List V} {ns : List Int}, IsAll K H ys (ns.map D.int) → ys = ns.map V.int
  | _, [], h => by cases h; rfl
  | _, n :: ns, h => by
    cases h with
    | cons h1 h2 => rw [h1.int_inv, ints_of h2]; rfl
section
variable {X : Cx} {pins : List (Addr × Obj)} {σ : L2.St} {H : Hp} {s : Shared}
variable {e : Expr} {ρ : Ro} {d : D} {pos p : Pos} {ts : List (List Int)} {k : Nat}
end
end FT

/-! FU: the order of tuples of whole numbers, asked by >= -/
namespace FU
open PySem PyProof.Rows HT
theorem lexLt_iff : ∀ (ns ms : List Int), lexLt ns ms = decide (ns < ms)
  | [], [] => by simp [HT.lexLt]
  | [], _ :: _ => by simp [HT.lexLt]
  | _ :: _, [] => by simp [HT.lexLt]
  | x :: xs, y :: ys => by
    rw [lexLt_cons]
    by_cases e : x = y
    · subst e
      rw [if_pos rfl, lexLt_iff, decide_eq_decide, List.cons_lt_cons_iff]
      simp
    · rw [if_neg e, decide_eq_decide, List.cons_lt_cons_iff]
      simp [e]
theorem rcGe_int (A : Around) (s : Shared) (a : Int) (t : Tok) (c : Int) (u : Tok) (prog : Program) (w : World) (E : Value → Shared → Prop) (Q : Value → Shared → Prop) (h : Q (.bool (decide (c ≤ a))) s) :
    wpAny (model prog w) A (richCompare .GtE (.int a t) (.int c u)) Q E s :=
  (PyProof.Rows.ge_int h : wpAny (model prog w) A (compareOp .GtE (.int a t) (.int c u)) Q E s)
section
open PySem.SeqAt
open PySem.AutoSeq1 (wpAny_loadPart')
open PySem.MeetsSeq PySem.MeetsSeq2 PySem.MeetsSeq3
theorem tuple_ge_ints (l b : Addr) (items items2 : Array Value) (n n2 : Nat) (dd dd2 : Option Addr) (sl sl2 : Array (Option Value)) (ns ms : List Int) (hi : IntsAre items.toList ns) (hj : IntsAre items2.toList ms) :
    Meets (Builtin.«tuple.__ge__» ⟨[.ref l, .ref b], []⟩)
      (fun _ R s => s.heap.get? l = some { cls := .type "tuple", dict := dd, data := .seq items n, slots := sl } ∧ s.heap.get? b = some { cls := .type "tuple", dict := dd2, data := .seq items2 n2, slots := sl2 } ∧
        R (.ok (.ret (.bool (!lexLt ns ms)))) s) :=
  .of_wp fun prog w A R s h => by
    obtain ⟨hp, g, d, tk, os⟩ := s; obtain ⟨hl, hb, h⟩ := h
    have f2 := AutoSeq1.sub_tuple_tuple
    have z1 : items.size = ns.length := by rw [← hi.length]; simp
    have z2 : items2.size = ms.length := by rw [← hj.length]; simp
    wp_walk using wpAny_loadPart' hl, wpAny_loadPart' hb, wpAny_forIn_list _ (fun rest b s' => b.1 = none ∧ s' = ⟨hp, g, d, tk, os⟩ ∧ ∃ (vs ws : List Value) (ns' ms' : List Int), rest = vs.zip ws ∧
      IntsAre vs ns' ∧ IntsAre ws ms' ∧ ns'.length + items2.size = ms'.length + items.size ∧ R (.ok (.ret (.bool (!lexLt ns' ms')))) ⟨hp, g, d, tk, os⟩) _
    case turn =>
      rintro ⟨y, x⟩ rest b s' ⟨hb', rfl, vs, ws, ns', ms', hz, hvi, hwi, hlen, hR⟩
      cases hvi with
      | nil => rw [List.zip_nil_left] at hz; cases hz
      | cons a t hvi' =>
        cases hwi with
        | nil => rw [List.zip_nil_right] at hz; cases hz
        | cons c u hwi' =>
          rw [List.zip_cons_cons] at hz
          injection hz with hyx hrest
          injection hyx with hy hx
          subst hy hx
          rw [lexLt_cons] at hR
          simp only [List.length_cons] at hlen
          obtain ⟨e, he, hiff⟩ := eqAt_int A.in1 ⟨hp, g, d, tk, os⟩ a t c u
          refine wpAny_bind (he prog w _ _ ?_)
          cases e with
          | true =>
            rw [if_pos (hiff.mp rfl)] at hR
            wp_walk
            exact ⟨rfl, rfl, _, _, _, _, hrest, hvi', hwi', by omega, hR⟩
          | false =>
            rw [if_neg (fun q => absurd (hiff.mpr q) Bool.false_ne_true)] at hR
            have e2 : (!decide (a < c)) = decide (c ≤ a) := by
              by_cases z : a < c
              · rw [decide_eq_true z, decide_eq_false (by omega)]; rfl
              · rw [decide_eq_false z, decide_eq_true (by omega)]; rfl
            rw [e2] at hR
            have hri := rcGe_int A.in1 ⟨hp, g, d, tk, os⟩ a t c u prog w
            wp_walk using hri
            exact ⟨_, rfl, by simpa using hR⟩
    case fin =>
      rintro ⟨b1, b2⟩ s' ⟨hb', rfl, vs, ws, ns', ms', hz, hvi, hwi, hlen, hR⟩
      simp only at hb'
      subst hb'
      have hv : (!lexLt ns' ms') = decide (items.size ≥ items2.size) := by
        cases hvi with
        | nil =>
          cases hwi with
          | nil =>
            simp only [List.length_nil] at hlen
            rw [lexLt_nil_nil]
            exact (decide_eq_true (by omega)).symm
          | cons c u hw =>
            simp only [List.length_nil, List.length_cons] at hlen
            rw [lexLt_nil_cons]
            exact (decide_eq_false (by omega)).symm
        | cons a t hv =>
          cases hwi with
          | nil =>
            simp only [List.length_nil, List.length_cons] at hlen
            rw [lexLt_cons_nil]
            exact (decide_eq_true (by omega)).symm
          | cons c u hw =>
            rw [List.zip_cons_cons] at hz
            cases hz
      rw [hv] at hR
      wp_walk
      exact ⟨_, rfl, by simpa [Builtin.Tuple.tupleCompareSizes] using hR⟩
    case h =>
      exact ⟨rfl, rfl, items.toList, items2.toList, ns, ms, rfl, hi, hj, by omega, h⟩
end
section
variable {prog : Program} {w : World} {A : Around} {E : Value → Shared → Prop} {s : Shared}
theorem ge_tupInts {l b : Addr} {items items2 : Array Value} {ns ms : List Int} {Q : Value → Shared → Prop} (hl : IsTup s.heap l items) (hb : IsTup s.heap b items2) (hi : IntsAre items.toList ns) (hj : IntsAre items2.toList ms)
    (hu : A.units < cLine) (h : Q (.bool (!lexLt ns ms)) s) : wpAny (model prog w) A (compareOp .GtE (.ref l) (.ref b)) Q E s := by
  obtain ⟨⟨cls, dd, data, sl⟩, ho, hc, n, hd⟩ := id hl
  obtain ⟨⟨cls2, dd2, data2, sl2⟩, ho2, hc2, n2, hd2⟩ := id hb
  simp only at hc hd hc2 hd2
  subst hc hd hc2 hd2
  exact richCompare_meets_room (op := .GtE) ⟨_, ho, rfl⟩ ⟨_, ho2, rfl⟩ PySem.F.slot_tuple_ge PySem.F.entry_tuple_ge (PySem.F.args_tuple_ge_2 _ _) (tuple_ge_ints l b items items2 n n2 dd dd2 sl sl2 ns ms hi hj)
    ⟨ho, ho2, show Value.bool (!lexLt ns ms) ≠ Value.notImplemented ∧ Q (.bool (!lexLt ns ms)) s from ⟨(fun x => nomatch x), h⟩⟩ hu
end
end FU
namespace FU
open PySem PySem.Spec PyProof.Rows L2 FL
section
variable {X : Cx} {a b : Expr} {ρ : Ro} {pos : Pos} {ns ms : List Int} {m : Nat}
def rGeT (K : PySem.W.Frag) : R2 := fun x y H Q => ∃ a b ns ms, x = .ref a ∧ y = .ref b ∧ SqT K H a (ns.map V.int) ∧ SqT K H b (ms.map V.int) ∧ Q (.bl (!HT.lexLt ns ms)) H
theorem op_geT (hu : X.A.units < cLine) : OpR X (compareOp .GtE) (rGeT X.K) := by
  intro pins s σ H x y v u Q I rx ry h
  obtain ⟨a, b, ns, ms, rfl, rfl, ha, hb, q⟩ := h
  cases rx
  cases ry
  obtain ⟨its, r1, p1, _⟩ := I.tuple ha
  obtain ⟨its2, r2, p2, _⟩ := I.tuple hb
  exact ge_tupInts p1 p2 (intsAre_of r1) (intsAre_of r2) hu ⟨.bl (!HT.lexLt ns ms), H, I, rfl, q⟩
theorem inv2 {H : Hp} {v : V} {t : List Int} (h : Is X.K H v (FT.tupI t)) : ∃ a, v = .ref a ∧ SqT X.K H a (t.map V.int) := by
  obtain ⟨a, xs, e, h1, h2⟩ := h.tup_inv
  rw [FT.ints_of h2] at h1
  exact ⟨a, e, h1⟩
theorem et_geT (hr : Room m X.A) (ha : Ev X a ρ (FT.tupI ns)) (hb : Ev X b ρ (FT.tupI ms)) : Et X (.Compare a [.GtE] [b] pos) ρ (decide (ms ≤ ns)) :=
  et_cmp (op_geT (by have := hr.units; omega)) ha hb (nomark _) fun v1 v2 H Q h1 h2 q => by
    obtain ⟨x, rfl, q1⟩ := inv2 h1
    obtain ⟨y, rfl, q2⟩ := inv2 h2
    refine ⟨x, y, ns, ms, rfl, rfl, q1, q2, ?_⟩
    have e : (!HT.lexLt ns ms) = decide (ms ≤ ns) := by
      rw [lexLt_iff, ← decide_not, decide_eq_decide]
      exact List.not_lt
    exact q _ H (Same.refl H) (e ▸ .bl _)
end
end FU

/-! FV: names of the text that hold plain data; chains of comparisons; a list that is extended -/
namespace FL
open PySem PySem.Spec PyProof.Rows L2
/-- a name of the text that holds plain data -/
def Con (K : PySem.W.Frag) (mg : Str → Option Value) (x : Str) (d : D) : Prop := ∃ v u, mg x = some u ∧ RelV v u ∧ ∀ H, Is K H v d
theorem con_int {K : PySem.W.Frag} {mg : Str → Option Value} {x : Str} {i : Int} {t : Tok} (h : mg x = some (.int i t)) : Con K mg x (.int i) := ⟨.int i, _, h, ⟨t, rfl⟩, fun _ => .int i⟩
section
variable {X : Cx} {e a b c f : Expr} {es : List Expr} {ρ : Ro} {d : D} {ds gs : List D} {pos : Pos} {i j k l : Int} {rest : List Stmt} {P : Po}
theorem ev_con {x : Str} (C : Con X.K X.mg x d) (hg : Gl X x := by rfl) (hd : (x == ("__debug__" : Str)) = false := by decide) : Ev X (.Name x pos) ρ d := by
  obtain ⟨v, u, hm, r, h⟩ := C
  exact PE.imp (pe_glob hg hm r hd) fun _ H _ ⟨_, q⟩ => q _ H (Same.refl H) (h H)
/-- a op b op' c op'' d -/
def tChain3 (r r' r'' : R2) (ta tb tc td : TE) : TE := fun σ H Q => ta σ H fun x H1 => tb σ H1 fun y H2 => r x y H2 fun z H3 => ∃ k, z = .bl k ∧
  (if k = true then tc σ H3 fun w' H4 => r' y w' H4 fun z' H5 => ∃ k', z' = .bl k' ∧ (if k' = true then td σ H5 fun w2 H6 => r'' w' w2 H6 Q else Q (.bl false) H5) else Q (.bl false) H3)
theorem pe_chain3 {op op' op'' : CmpOp} {r r' r'' : R2} {ta tb tc td : TE} (ho : OpR X (compareOp op) r) (ho' : OpR X (compareOp op') r') (ho'' : OpR X (compareOp op'') r'') (ha : PE X a ta) (hb : PE X b tb) (hc : PE X c tc) (hf : PE X f td)
    (hm : lastMarks [op, op', op''] [b, c, f] = false := by with_unfolding_all rfl) : PE X (.Compare a [op, op', op''] [b, c, f] pos) (tChain3 r r' r'' ta tb tc td) := by
  intro pins s σ H Q I h
  refine Compare_chain (thn (ha pins s σ H _ I h) fun v s1 ⟨x, H1, I1, r1, q1⟩ => chain_link (thn (hb pins s1 σ H1 _ I1 q1) fun u s2 ⟨y, H2, I2, r2, q2⟩ =>
    thn (ho pins s2 σ H2 x y v u _ I2 r1 r2 q2) fun d s3 ⟨z, H3, I3, r3, k, e, q3⟩ => ?_)) hm
  subst e
  cases r3
  refine wpAny_truthy_bool ?_
  cases k with
  | false => exact ite_ff ⟨.bl false, H3, I3, rfl, q3⟩
  | true =>
    refine ite_tt (chain_link (thn (hc pins s3 σ H3 _ I3 q3) fun w' s4 ⟨z', H4, I4, r4, q4⟩ => thn (ho' pins s4 σ H4 y z' u w' _ I4 r2 r4 q4) fun d' s5 ⟨z2, H5, I5, r5, k2, e2, q5⟩ => ?_))
    subst e2
    cases r5
    refine wpAny_truthy_bool ?_
    cases k2 with
    | false => exact ite_ff ⟨.bl false, H5, I5, rfl, q5⟩
    | true => exact ite_tt (chain_last (thn (hf pins s5 σ H5 _ I5 q5) fun w2 s6 ⟨z3, H6, I6, r6, q6⟩ => ho'' pins s6 σ H6 z' z3 w' w2 Q I6 r4 r6 q6))
/-- three comparisons of whole numbers, as a value -/
theorem ev_chain3 {op op' op'' : CmpOp} {g g' g'' : Int → Int → Bool} (ho : OpR X (compareOp op) (rI0 fun i j => .bl (g i j))) (ho' : OpR X (compareOp op') (rI0 fun i j => .bl (g' i j))) (ho'' : OpR X (compareOp op'') (rI0 fun i j => .bl (g'' i j)))
    (ha : Ev X a ρ (.int i)) (hb : Ev X b ρ (.int j)) (hc : Ev X c ρ (.int k)) (hf : Ev X f ρ (.int l)) (hm : lastMarks [op, op', op''] [b, c, f] = false := by with_unfolding_all rfl) : Ev X (.Compare a [op, op', op''] [b, c, f] pos) ρ (.bl (g i j && (g' j k && g'' k l))) := by
  refine PE.imp (pe_chain3 ho ho' ho'' ha hb hc hf hm) ?_
  rintro σ H Q ⟨r, q⟩
  refine ⟨r, fun v1 H1 s1 h1 => ⟨r.mono s1, fun v2 H2 s2 h2 => ⟨i, j, h1.int_inv, h2.int_inv, g i j, rfl, ?_⟩⟩⟩
  cases hg : g i j with
  | false => rw [hg] at q; exact iteF (q _ H2 (s1.trans s2) (.bl _))
  | true =>
    rw [hg] at q
    refine iteT ⟨r.mono (s1.trans s2), fun v3 H3 s3 h3 => ⟨j, k, h2.int_inv, h3.int_inv, g' j k, rfl, ?_⟩⟩
    cases hg' : g' j k with
    | false => rw [hg'] at q; exact iteF (q _ H3 ((s1.trans s2).trans s3) (.bl _))
    | true =>
      rw [hg'] at q
      exact iteT ⟨r.mono ((s1.trans s2).trans s3), fun v4 H4 s4 h4 => ⟨k, l, h3.int_inv, h4.int_inv, q _ H4 (((s1.trans s2).trans s3).trans s4) (.bl _)⟩⟩
/-- xs.extend(a new list) -/
theorem do_extend (n : Nat) {x : Str} {l : Addr} {p1 p2 p3 : Pos} (hρ : ρ[n]? = some (some (.lst l ds))) (he : EvN X e ρ gs) (hz : ∀ d ∈ gs, Fz d) (hl : ds.length + gs.length < 1000000) (hothers : ∀ (j : Nat) (es : List D), j ≠ n → ρ[j]? ≠ some (some (.lst l es)))
    (h : Do X rest (ρ.set n (some (.lst l (ds ++ gs)))) P) (hN : X.N[n]? = some x := by rfl) (hv : Vis X.env.scope x := by first | exact Or.inl rfl | exact Or.inr (Or.inl rfl) | exact Or.inr (Or.inr rfl))
    (hd : (x == ("__debug__" : Str)) = false := by decide) (hcd : (x == ("__classdict__" : Str)) = false := by decide)
    (hbase : attributeBase (.Name x p1) "extend" X.env (eval (.Name x p1) X.env) = eval (.Name x p1) X.env := by rfl)
    (hfew : ((backTo p3 (starEach [e] X.env)).all (fun x => !x.1) && (backToKw p3 (keywordEach [] X.env)).all (fun x => x.1.isSome) && decide ([e].length + ([] : List Keyword).length + (if ([] : List Keyword).isEmpty then 0 else 1) < 30)) = true := by rfl)
    (hline : (p2.endLine == p3.line) = true := by rfl) (hstar : starEach [e] X.env = [(false, eval e X.env)] := by rfl) (hs : swapsWith (.Call (.Attribute (.Name x p1) "extend" p2) [e] [] p3) none pos.line X.env = pure false := by rfl) :
    Do X (.Expr (.Call (.Attribute (.Name x p1) "extend" p2) [e] [] p3) pos :: rest) ρ P := by
  refine do_seq (M := fun ρ' => ρ' = ρ.set n (some (.lst l (ds ++ gs)))) (PS.imp (ps_expr (pe_bm PySem.F.plainAttrs_list PySem.F.slot_list_extend PySem.F.type_list_extend mt_extend (pe_var hN hv hd hcd) (pa_cons he pa_nil hstar) hbase hfew hline hstar rfl) hs) ?_) (fun _ z => z ▸ h)
  rintro D σ H ⟨r, q1, q2, q3, q4⟩
  obtain ⟨v, e1, h1, h2⟩ := r.val n _ hρ
  obtain ⟨rfl, xs, hT, hA⟩ := h1.lst_inv
  have fds : ∀ e ∈ ds, Fz e := by
    rcases h2 with z | z | ⟨a, es, z, f⟩
    · cases z
    · obtain ⟨_, ys, z, _⟩ := z.lst_inv
      rw [r.own l ⟨n, ds, hρ⟩] at z
      cases z
    · cases z; exact f
  refine ⟨_, e1, .inl ⟨rfl, xs, .of hT⟩, r.e, fun b zs H2 hfr s2 hB h3 => ?_⟩
  have hT2 := s2 _ _ hT
  have lx : xs.length = ds.length := hA.length
  have lz : zs.length = gs.length := h3.length
  refine ⟨l, b, xs, zs, rfl, rfl, hT2, hB, by rw [sizeLine_eq]; omega, ?_⟩
  have kt : KT H2 (upd H2 l (.lst (xs ++ zs))) :=
    ⟨fun b xs h => by rw [upd_ne (ne_of h hT2 (by intro z; cases z))]; exact h, fun b o u h => by rw [upd_ne (ne_of h hT2 (by intro z; cases z))]; exact h⟩
  have r2 := r.mono s2
  have h0 : X.H₀ l = none := r.own l ⟨n, ds, hρ⟩
  have same : Same X.H₀ (upd H2 l (.lst (xs ++ zs))) := fun b o h => by
    rw [upd_ne (ne_of_none h h0)]
    exact r2.same b o h
  have hnl : n < ρ.length := (List.getElem?_eq_some_iff.mp hρ).1
  have go : Go ρ H (ρ.set n (some (.lst l (ds ++ gs)))) (upd H2 l (.lst (xs ++ zs))) := by
    refine ⟨fun b o h nm => ?_, ?_⟩
    · have : b ≠ l := fun z => nm (z ▸ ⟨n, ds, hρ⟩)
      rw [upd_ne this]
      exact s2 _ _ h
    · rintro a ⟨j, es, hj⟩
      rcases set_get hj with ⟨rfl, z, _⟩ | ⟨_, hj⟩
      · cases z
        exact .inl ⟨_, ds, hρ⟩
      · exact .inl ⟨j, es, hj⟩
  have own : ∀ a, Mu (ρ.set n (some (.lst l (ds ++ gs)))) a → X.H₀ a = none := by
    rintro a ⟨j, es, hj⟩
    rcases set_get hj with ⟨rfl, z, _⟩ | ⟨_, hj⟩
    · cases z
      exact h0
    · exact r.own a ⟨j, es, hj⟩
  refine q1 _ _ _ go ⟨same, by simp [r.len], fun j e' hj => ?_, own⟩ rfl
  rcases set_get hj with ⟨rfl, rfl, _⟩ | ⟨hne, hj⟩
  · refine ⟨.ref l, e1, .lst upd_same ?_, .inr (.inr ⟨l, _, rfl, fun e' he' => ?_⟩)⟩
    · exact ((hA.mono s2).keep kt fds).append (h3.keep kt hz)
    · rcases List.mem_append.mp he' with z | z
      · exact fds _ z
      · exact hz _ z
  · obtain ⟨u, f1, f2, f3⟩ := r2.val j e' hj
    refine ⟨u, f1, ?_, f3⟩
    rcases f3 with z | z | ⟨a, es, rfl, z⟩
    · exact f2.keep kt z
    · exact z.mono same
    · obtain ⟨rfl, ys, g1, g2⟩ := f2.lst_inv
      have : a ≠ l := fun z => hothers j es hne (z ▸ hj)
      exact .lst (by rw [upd_ne this]; exact g1) (g2.keep kt z)
end
/-- the names that a comprehension takes from around it -/
theorem hcl_of {cl cells : List (Str × Addr)} (h : ∀ p ∈ cl, cells.lookup p.1 = some p.2) : ∀ y c, cl.lookup y = some c → cells.lookup y = some c := fun y c e => h (y, c) (PySem.mem_of_lookup e)
theorem has_of {scope : Scope} {env : Env} {cl : List (Str × Addr)} (h1 : ∀ p ∈ scope.names, p.2 ≠ .cell) (h2 : ∀ p ∈ scope.names, p.2 = .free → ∃ c, cl.lookup p.1 = some c) :
    ∀ y, (relabel scope env).names.lookup y = some .cell ∨ (relabel scope env).names.lookup y = some .free → ∃ c, cl.lookup y = some c := by
  have key : ∀ p ∈ (relabel scope env).names, (p.2 = .cell ∨ p.2 = .free) → ∃ c, cl.lookup p.1 = some c := by
    intro p hp hk'
    obtain ⟨⟨n, k⟩, hm, e⟩ := List.mem_map.mp (show p ∈ scope.names.map _ from hp)
    have hk := h1 _ hm
    by_cases hf : k = .free
    · have h3 := h2 _ hm hf
      have e1 : p.1 = n := by
        rw [← e]
        dsimp only
        split <;> rfl
      rw [e1]
      exact h3
    · have hf' : (k == NameKind.free) = false := by simpa using hf
      simp only [hf', Bool.false_and, Bool.false_eq_true, if_false] at e
      subst e
      rcases hk' with z | z
      · exact absurd z hk
      · exact absurd z hf
  intro y z
  rcases z with z | z
  · exact key _ (PySem.mem_of_lookup z) (.inl rfl)
  · exact key _ (PySem.mem_of_lookup z) (.inr rfl)
end FL

/-! FW: floor division by any number but nought; tuple(list); comprehensions, with what they take from around them -/
namespace FL
open PySem PySem.Spec PyProof.Rows L2
section
variable {X : Cx} {e a b c f : Expr} {es : List Expr} {ρ : Ro} {d d' : D} {ds gs : List D} {pos : Pos} {i j k l : Int} {rest : List Stmt} {P : Po}
theorem map_at {α β : Type} {g h : α → β} : ∀ {xs : List α}, xs.map g = xs.map h → ∀ x ∈ xs, g x = h x
  | [], _, x, hx => by cases hx
  | y :: ys, e, x, hx => by
    simp only [List.map_cons, List.cons.injEq] at e
    rcases List.mem_cons.mp hx with rfl | hx
    · exact e.1
    · exact map_at e.2 x hx
/-- a comprehension that takes names from around it -/
theorem evn_compC {elt iter : Expr} {x : Str} {px : Pos} {ifs : List Expr} {scope : Scope} (cl : List (Str × Addr)) (ys : List Str) (js : List Nat) (p : D → Bool) (f : D → D)
    (hi : Src X (.Name x px) iter ρ ds) (hz : ds.length ≤ 1000000) (hfz : ∀ d ∈ ds, p d = true → Fz (f d))
    (ht : ∀ C s₀ H₀ fp, ∀ d ∈ ds, Ets (blk X scope cl (x :: ys) C s₀ H₀ fp) ifs (some d :: freesD js ρ) (p d))
    (he : ∀ C s₀ H₀ fp, ∀ d ∈ ds, p d = true → Ev (blk X scope cl (x :: ys) C s₀ H₀ fp) elt (some d :: freesD js ρ) (f d))
    (hc : X.calm = true := by rfl) (hclos : closureFor scope X.env = pure cl := by rfl) (hcell : scope.names.all (fun y => !(y.2 == .cell)) = true := by rfl) (hkind : scope.kind = .function := by rfl)
    (hnames : scope.names.all (fun y => !(y.2 == .local) || (scope.names.lookup y.1 == some .local)) = true := by rfl) (hx : scope.names.lookup x = some .local := by rfl) (hnd : (x :: ys).Nodup := by decide)
    (hcl : cl.map (fun p => X.env.cells.lookup p.1) = cl.map (fun p => some p.2) := by rfl) (hhas : scope.names.all (fun y => !(y.2 == .free) || (cl.lookup y.1).isSome) = true := by rfl)
    (hjs : js.length = ys.length := by rfl) (hN : js.map (fun j => X.N[j]?) = ys.map some := by rfl) (hK : ys.map (fun y => X.env.scope.names.lookup y) = ys.map (fun _ => some .cell) := by rfl) (hR : ys.map (fun y => (relabel scope X.env).names.lookup y) = ys.map (fun _ => some .cell) := by rfl)
    (hs : ∀ x, foldedSetIterable iter X.env x = pure x := by intro _; rfl) : EvN X (.ListComp elt [⟨.Name x px, iter, ifs, 0⟩] scope pos) ρ ((ds.filter p).map f) := by
  have hcell' : ∀ y ∈ scope.names, y.2 ≠ .cell := fun y hy z => by
    have := List.all_eq_true.mp hcell y hy
    rw [z] at this
    cases this
  refine evn_comp (cl := cl) (ys := ys) (js := js) p f hc hi hz hfz ht he hclos hcell' hkind (fun y hy z => ?_) hx hnd (hcl_of fun q hq => map_at hcl q hq) (has_of hcell' fun q hq z => ?_) hjs (fun i j y hj hy => ?_) hs
  · have := List.all_eq_true.mp hnames y hy
    rw [z] at this
    simpa using this
  · have := List.all_eq_true.mp hhas q hq
    rw [z] at this
    have h2 : (cl.lookup q.1).isSome = true := by simpa using this
    exact Option.isSome_iff_exists.mp h2
  · have my : y ∈ ys := List.mem_of_getElem? hy
    have e1 : X.N[j]? = some y := by
      have : (js.map (fun j => X.N[j]?))[i]? = (ys.map some)[i]? := by rw [hN]
      rw [List.getElem?_map, List.getElem?_map, hj, hy] at this
      simpa using this
    have e2 := map_at hK y my
    have e3 := map_at hR y my
    exact ⟨e1, .inr (.inl e2), .inl e2, .inl e3⟩
end
end FL
namespace FL
open PySem PySem.Spec PyProof.Rows L2
section
variable {P : Program} {w : World} {K : PySem.W.Frag} {mg : Str → Option Value} {base : Heap} {k : Nat} {x : Str}
end
end FL

/-! FX: a comprehension that is stored under a name -/
namespace FL
open PySem PySem.Spec PyProof.Rows L2
theorem comp_core {X : Cx} {elt iter : Expr} {x : Str} {px : Pos} {ifs : List Expr} {scope : Scope} {cl : List (Str × Addr)} {pos : Pos} {ys : List Str} {js : List Nat} {wi : TI} {tt : Cx → TT} {te : Cx → TE}
    (hc : X.calm = true) (hi : PI X (.Name x px) iter wi)
    (ht : ∀ C s₀ H₀ fp, PTs (blk X scope cl (x :: ys) C s₀ H₀ fp) ifs (tt (blk X scope cl (x :: ys) C s₀ H₀ fp)))
    (he : ∀ C s₀ H₀ fp, PE (blk X scope cl (x :: ys) C s₀ H₀ fp) elt (te (blk X scope cl (x :: ys) C s₀ H₀ fp)))
    (hclos : closureFor scope X.env = pure cl) (hcell : ∀ y ∈ scope.names, y.2 ≠ .cell) (hkind : scope.kind = .function)
    (hnames : ∀ y ∈ scope.names, y.2 = .local → scope.names.lookup y.1 = some .local) (hx : scope.names.lookup x = some .local) (hnd : (x :: ys).Nodup)
    (hcl : ∀ y c, cl.lookup y = some c → X.env.cells.lookup y = some c)
    (hhas : ∀ y, (relabel scope X.env).names.lookup y = some .cell ∨ (relabel scope X.env).names.lookup y = some .free → ∃ c, cl.lookup y = some c)
    (hjs : js.length = ys.length) (hjy : ∀ (i j : Nat) (y : Str), js[i]? = some j → ys[i]? = some y → X.N[j]? = some y ∧ Vis X.env.scope y ∧ (X.env.kindOf y = some .cell ∨ X.env.kindOf y = some .free) ∧ ((relabel scope X.env).names.lookup y = some .cell ∨ (relabel scope X.env).names.lookup y = some .free))
    (hs : ∀ x, foldedSetIterable iter X.env x = pure x)
    {use : Option (Value → Sem Unit)} {R : Value → Shared → Prop} {pins : List (Addr × Obj)} {s : Shared} {σ : L2.St} {H : Hp} {Q : VK} {pos2 : Pos} (I : Inv X pins σ H s) (h : tComp X js wi tt te σ H Q)
    (hend : ∀ D C s5 H4, Q (.ref D) H4 → H4 C = none → (∃ m, s5.heap.Ns C m) → (∀ h6, Heap.SameBut C s5.heap h6 → Inv X pins σ H4 { s5 with heap := h6 }) →
      (X.s₀.heap.objs.size ≤ C ∧ C ≠ X.env.locals ∧ (∀ x c, X.env.cells.lookup x = some c → c ≠ C) ∧ ∀ p ∈ X.pn ++ pins, p.1 ≠ C) → compPost (model X.prog X.w) X.A X.xe use R (.ref D) C (.ok .next) s5) :
    wpAny (model X.prog X.w) X.A (comprehension (.ListComp elt [⟨.Name x px, iter, ifs, 0⟩] scope pos) scope X.env pos2 (newList []) false (eval iter X.env) use) R X.xe s := by
  refine wpAny_comprehension_free (use := use) rfl hs hclos hkind hnames (thn (hi pins s σ H _ I h) fun v s1 h1 => thn h1 fun itv s2 h2 => ?_)
  obtain ⟨it, fp, tn, J, H2, e, I2, T, st2, f2, h2⟩ := h2
  subst e
  refine wpAny_newObj_type (wpAny_newFunctionEnv hcell (by intro y hy; simp at hy) (fun h₁ hns₁ hsb₁ => ?_) hkind)
  dsimp only at hns₁ hsb₁ ⊢
  -- the list
  have hD : H2 s2.heap.objs.size = none := I2.hok.fresh (Nat.le_refl _)
  generalize eD : s2.heap.objs.size = D at hD hns₁ hsb₁ ⊢
  generalize eH : s2.heap.push { cls := .type "list", dict := none, data := .seq ([] : List Value).toArray } = P3 at hns₁ hsb₁ ⊢
  have k23 : ∀ b o, s2.heap.get? b = some o → P3.get? b = some o := fun b o q => by rw [← eH]; exact Heap.get?_push_of_some _ q
  have hDo : P3.get? D = some { cls := .type "list", dict := none, data := .seq ([] : List Value).toArray } := by rw [← eH, ← eD]; exact Heap.get?_push_size _ rfl
  have I3 : Inv X pins σ (upd H2 D (.lst [])) { s2 with heap := P3, toks := s2.toks } := I2.laid (t' := s2.toks) k23 (Nat.le_of_eq eD) ⟨Nat.zero_le _, [], 0, .nil, hDo⟩
  have hCs : P3.objs.size = D + 1 := by rw [← eH, Heap.size_push, eD]
  generalize eC : P3.objs.size = C at hns₁ hsb₁ hCs ⊢
  have k34 : ∀ b o, P3.get? b = some o → h₁.get? b = some o := fun b o q => hsb₁.extBut b o (by rw [← eC]; exact Nat.ne_of_lt (Heap.lt_size q)) (Heap.get?_push_of_some _ q)
  have fpD : ∀ b ∈ fp, b < D := fun b hb => by
    obtain ⟨o, q, _⟩ := T.obj 0 _ st2 b hb
    rw [← eD]
    exact Heap.lt_size q
  have hC0 : upd H2 D (.lst []) C = none := I3.hok.fresh (by show P3.objs.size ≤ C; rw [eC]; exact Nat.le_refl _)
  -- the block's context
  have okY : (blk X scope cl (x :: ys) C { s2 with heap := P3, toks := s2.toks } (upd H2 D (.lst [])) fp).Ok := by
    refine ⟨I3.ok.mod, hkind, I3.ok.glob, I3.ok.blt, by show P3.objs.size ≤ C; rw [eC]; exact Nat.le_refl _, fun y z c h1 h2 => I3.ok.inj y z c (hcl y c h1) (hcl z c h2), fun y hy => hhas y hy, fun y c hf _ => (by cases hf),
      I3.ok.hd, I3.ok.frames, .inl rfl, fun b hb => ⟨(by show b ≠ C; rw [hCs]; exact Nat.ne_of_lt (Nat.lt_succ_of_lt (fpD b hb))), fun y c hy => (f2 b hb).2.2.2.2.1 y c (hcl y c hy)⟩, fun b o q => ?_, ?_, fun b o q hb => ?_, fun b hb z => ?_, I3.stack, I3.stkFree⟩
    · exact I3.bs b o q
    · exact Nat.le_trans I3.ok.bsz I3.sz
    · rcases (f2 b hb).2.2.2.1 with z | z
      · exact I3.ok.noex b o q z
      · exact absurd (Nat.lt_of_lt_of_le (Heap.lt_size (I3.ok.bs b o q).1) z) (Nat.lt_irrefl _)
    · rcases List.mem_cons.mp (I3.stkSub b z) with z | z
      · exact (f2 b hb).2.1 z
      · exact (f2 b hb).2.2.1 z
  generalize eY : blk X scope cl (x :: ys) C { s2 with heap := P3, toks := s2.toks } (upd H2 D (.lst [])) fp = Y at okY
  have IY : Inv Y [] (none :: frees js σ) (upd H2 D (.lst [])) { s2 with heap := h₁, toks := s2.toks + ([] : List (Str × Value)).length } := by
    subst eY
    refine ⟨okY, I3.os.trans I3.os.symm |>.trans rfl, I3.bare, Un.kept k34, ⟨_, hns₁, fun i y v h1 h2 h3 => ?_⟩, fun y c hy => ?_, hC0, fun y c hy => I3.freeC y c (hcl y c hy), fun p hp => absurd (show p ∈ ([] : List (Addr × Obj)) from hp) (by simp), I3.hok.kept k34, ?_⟩
    · cases i with
      | zero => cases h2
      | succ i =>
        have h1' : ys[i]? = some y := h1
        have h2' : (frees js σ)[i]? = some (some v) := h2
        unfold frees at h2'
        rw [List.getElem?_map] at h2'
        cases q : js[i]? with
        | none => rw [q] at h2'; cases h2'
        | some j =>
          rw [q] at h2'
          have h4 : (σ[j]?).join = some v := Option.some.inj h2'
          have h5 : σ[j]? = some (some v) := by
            cases z : σ[j]? with
            | none => rw [z] at h4; cases h4
            | some o => rw [z] at h4; have h4' : o = some v := h4; rw [h4']
          obtain ⟨n1, n2, n3, n4⟩ := hjy i j y q h1'
          obtain ⟨m, _, hl⟩ := I3.loc
          obtain ⟨u, ru, lk⟩ := hl j y v n1 h5 n2
          refine ⟨u, ru, .inr ⟨n4, ?_⟩⟩
          obtain ⟨c, hc'⟩ := hhas y n4
          rcases lk with ⟨z, _⟩ | ⟨_, c', e1, e2⟩
          · rcases n3 with n3 | n3 <;> (rw [n3] at z; cases z)
          · have : c' = c := Option.some.inj (e1.symm.trans (hcl y c hc'))
            subst this
            obtain ⟨o, ho, hod⟩ := e2
            exact ⟨c', hc', o, k34 _ _ ho, hod⟩
    · obtain ⟨v, o, ho, hod⟩ := I3.cell y c (hcl y c hy)
      exact ⟨v, o, k34 _ _ ho, hod⟩
    · show (frees js σ).length + 1 = (x :: ys).length
      unfold frees
      simp [hjs]
  have eYA : Y.A = X.A := by rw [← eY]; rfl
  have eYp : Y.prog = X.prog := by rw [← eY]; rfl
  have eYw : Y.w = X.w := by rw [← eY]; rfl
  have eYK : Y.K = X.K := by rw [← eY]; rfl
  have eYe : Y.env = compEnvC scope cl C X.env := by rw [← eY]; rfl
  have eYH : Y.H₀ = upd H2 D (.lst []) := by rw [← eY]; rfl
  have eYc : Y.calm = true := by rw [← eY]; exact hc
  have eYx : Y.xe = fun _ _ => False := by rw [← eY]; rfl
  have eYex : Y.ex = fp := by rw [← eY]; rfl
  have eYfs : Y.fs = frs X.stack := by rw [← eY]; rfl
  have eYs : Y.s₀ = { s2 with heap := P3, toks := s2.toks } := by rw [← eY]; rfl
  have eYl : Y.env.locals = C := by rw [eYe]; rfl
  have ht' : PTs Y ifs (tt Y) := by rw [← eY]; exact ht C _ _ fp
  have he' : PE Y elt (te Y) := by rw [← eY]; exact he C _ _ fp
  have hg' : PG Y (.Name x px) (gName 0) := by
    rw [← eY]
    exact pg_name hnd rfl (.inl (lookup_relabel_local hx)) (.inr (lookup_relabel_local hx))
  have T' : Turn Y.prog Y.w Y.K (.Name x px) J fp it tn := by rw [eYp, eYw, eYK]; exact T
  obtain ⟨W, ⟨m0, w0⟩, turn⟩ := h2 D hD Y eYH eYK
  have stat : ∀ {H' : Hp}, (∀ b ∈ fp, H' b = none) → ∀ b ∈ fp, FpOk Y [] H' b := fun {H'} hn b hb => by
    obtain ⟨_, g1, g2, g3, g4, g5⟩ := f2 b hb
    refine ⟨hn b hb, (by rw [eYl, hCs]; exact Nat.ne_of_lt (Nat.lt_succ_of_lt (fpD b hb))), fun z => ?_, .inl (by rw [eYex]; exact hb), fun y c hy => ?_, fun p hp => ?_⟩
    · rw [eYfs] at z
      rcases List.mem_cons.mp (I3.stkSub b z) with z | z
      · exact g1 z
      · exact g2 z
    · rw [eYe] at hy
      exact g4 y c (hcl y c hy)
    · have e0 : Y.pn = [] := by rw [← eY]; rfl
      rw [e0] at hp
      exact absurd (show p ∈ ([] : List (Addr × Obj)) from hp) (by simp)
  -- the loop
  have loop : ∀ s₃ : Shared, s₃ = { s2 with heap := h₁, toks := s2.toks + ([] : List (Str × Value)).length } →
      codeAny (model X.prog X.w) X.A (.compLoop (.ListComp elt [⟨.Name x px, iter, ifs, 0⟩] scope pos) 0 (.ref it) (.ref D) (compEnvC scope cl C X.env))
        (compPost (model X.prog X.w) X.A X.xe use R (.ref D) C) s₃ := by
    rintro s₃ rfl
    rw [← eYe, ← eYA, ← eYp, ← eYw]
    refine compLoop_any (fun n s' => ∃ i z H' zs, Inv Y [] (z :: frees js σ) H' s' ∧ tn i s'.heap ∧ (∀ b ∈ fp, H' b = none) ∧ H' D = some (.lst zs) ∧ W i n zs H') ?_ m0
      ⟨0, none, _, [], IY, T.keep 0 _ _ st2 (fun b _ o q => k34 b o (k23 b o q)), fun b hb => ?_, upd_same, w0⟩
    · rintro n s4 ⟨i, z, H4, zs, I4, st4, fr4, hz4, w4⟩
      rcases turn i n zs H4 hz4 w4 with ⟨stop, qn⟩ | ⟨go, step⟩
      · refine thn (T'.done Y rfl rfl rfl eYc i [] s4 _ H4 _ I4 (stat fr4) st4 stop) fun r s5 ⟨hr, I5⟩ => ?_
        subst hr
        obtain ⟨m, hm, _⟩ := id I5.loc
        rw [eYl] at hm
        have hC5 : H4 C = none := by rw [← eYl]; exact I5.free
        have hC3 : P3.objs.size = C := eC
        show compPost (model Y.prog Y.w) Y.A X.xe use R (.ref D) C (.ok .next) s5
        rw [eYp, eYw, eYA]
        refine hend D C s5 H4 qn hC5 ⟨m, hm⟩ (fun h6 sb => ?_) ⟨?_, ?_, ?_, ?_⟩
        · have un5 := I5.base
          rw [eYfs, eYex, eYH, eYs] at un5
          have un6 : Un (frs X.stack) fp (upd H2 D (.lst [])) H4 P3 h6 := by
            have nC : ∀ b o, P3.get? b = some o → b ≠ C := fun b o q => by rw [← eC]; exact Nat.ne_of_lt (Heap.lt_size q)
            refine ⟨fun b o q n hb hx => (sb.2 b (nC b o q)).trans (un5.keep b o q n hb hx), fun b o q n hb hx => ?_, un5.free, fun b o q hx => ?_, un5.tups, un5.frzs, un5.tbls⟩
            · obtain ⟨sl, q2⟩ := un5.slot b o q n hb hx
              exact ⟨sl, (sb.2 b (nC b o q)).trans q2⟩
            · obtain ⟨o', q2⟩ := un5.there b o q hx
              exact ⟨o', (sb.2 b (nC b o q)).trans q2⟩
          have hok6 : HOk X.prog X.w H4 h6 := fun b ob q => by
            have q5 := I5.hok b ob q
            rw [eYp, eYw] at q5
            refine q5.stay (fun c w' hc' q' => (sb.2 c ?_).trans q') (fun _ q' => q') fun _ _ q' => q'
            rintro rfl
            rcases hc' with rfl | hc'
            · rw [hC5] at q; cases q
            · rw [hC5] at hc'; cases hc'
          have os5 : s5.os = s2.os := by have := I5.os; rw [eYs] at this; exact this
          refine I3.call' (s' := { s5 with heap := h6 }) (ch := fp) os5 un6 hok6 I5.bare fun b hb => ?_
          obtain ⟨_, g1, g2, g3, g4, g5⟩ := f2 b hb
          exact ⟨g3, g1, g4, g5⟩
        · rw [← hC3]
          exact I3.sz
        · obtain ⟨m', ⟨oL, _, _, hoL, _⟩, _⟩ := I3.loc
          rw [← hC3]
          exact (Nat.ne_of_lt (Heap.lt_size hoL)).symm
        · intro y c hy
          obtain ⟨_, o, ho, _⟩ := I3.cell y c hy
          rw [← hC3]
          exact Nat.ne_of_lt (Heap.lt_size ho)
        · intro p hp
          rw [← hC3]
          exact Nat.ne_of_lt (Heap.lt_size (I3.pin p hp).1)
      · refine thn (T'.item Y rfl rfl rfl eYc i [] s4 _ H4 _ I4 (stat fr4) st4 go) fun r s5 ⟨u, hr, h5⟩ => ?_
        subst hr
        refine thn h5 fun _ s6 ⟨y, H6, I6, r6, y6, st6, fr6⟩ => ?_
        have I6' := I6.pinned (stat fr6) (T.obj _ _ st6)
        have q6 := step y H6 y6
        have back : ∀ {σ7 : L2.St} {H7 : Hp} {s7 : Shared}, Inv Y ([] ++ pinsAt fp s6.heap) σ7 H7 s7 → tn (i + 1) s7.heap ∧ ∀ b ∈ fp, H7 b = none := fun {σ7 H7 s7} I7 =>
          ⟨T.keep _ _ _ st6 fun b hb o e => (I7.pin (b, o) (List.mem_append_right _ (List.mem_append_right _ (mem_pinsAt hb e)))).1, fun b hb => by
            obtain ⟨o, e, _⟩ := T.obj _ _ st6 b hb
            exact (I7.pin (b, o) (List.mem_append_right _ (List.mem_append_right _ (mem_pinsAt hb e)))).2.1⟩
        refine wpAny_mono (hg' _ s6 _ H6 y u (fun σ' H' => σ' = some y :: frees js σ ∧ H' = H6) I6' r6 ⟨rfl, rfl⟩) (fun _ s7 ⟨σ7, H7, I7, e7, e7'⟩ => ?_) fun _ _ z => by rw [eYx] at z; exact z
        subst e7 e7'
        refine wpAny_mono (ht' _ s7 _ H7 _ I7 q6) (fun ok s8 ⟨H8, I8, q8⟩ => ?_) fun _ _ z => by rw [eYx] at z; exact z
        cases ok with
        | false =>
          rw [if_neg Bool.false_ne_true] at q8 ⊢
          obtain ⟨zs', m', hz', hm', w'⟩ := q8
          obtain ⟨b1, b2⟩ := back I8
          exact ⟨m', hm', i + 1, some y, H8, zs', I8.unpinned, b1, b2, hz', w'⟩
        | true =>
          rw [if_pos rfl] at q8 ⊢
          refine wpAny_mono (he' _ s8 _ H8 _ I8 q8) (fun u9 s9 ⟨v9, H9, I9, r9, zs9, hz9, hl9, m9, hm9, w9⟩ => ?_) fun _ _ z => by rw [eYx] at z; exact z
          refine wpAny_mono (mt_append (X := Y) _ s9 _ H9 (.ref D) [v9] (.ref D) [u9] (fun _ H' => H' = upd H9 D (.lst (zs9 ++ [v9]))) I9 rfl (.cons r9 .nil) ⟨D, zs9, v9, rfl, rfl, hz9, hl9, rfl⟩) (fun _ s10 ⟨_, H10, I10, _, e10⟩ => ?_) fun _ _ z => by rw [eYx] at z; exact z
          subst e10
          obtain ⟨b1, b2⟩ := back I10
          exact ⟨m9, hm9, i + 1, some y, _, zs9 ++ [v9], I10.unpinned, b1, b2, upd_same, w9⟩
    · rw [upd_ne (Nat.ne_of_lt (fpD b hb))]
      exact (f2 b hb).1
  exact codeAny_compStart_list (loop _ rfl) (T.self _ 0 _ _ _ (T.keep 0 _ _ st2 (fun b _ o q => k34 b o (k23 b o q))) (loop _ rfl))

theorem comp_reading {X : Cx} {js : List Nat} {ρ : Ro} {ds : List D} (p : D → Bool) (f : D → D) (hz : ds.length ≤ 1000000) (hfz : ∀ d ∈ ds, p d = true → Fz (f d)) :
    ∀ σ H Q, tN X ρ ((ds.filter p).map f) σ H Q → tComp X js (tSrc X ρ ds) (fun Y σ H Q => ∃ d, d ∈ ds ∧ tB Y (some d :: freesD js ρ) (p d) σ H Q) (fun Y σ H Q => ∃ d, d ∈ ds ∧ p d = true ∧ tD Y (some d :: freesD js ρ) (f d) σ H Q) σ H Q := by
  rintro σ H Q ⟨r, q⟩
  refine ⟨r, fun J H2 s2 ok D hD Y eH eK => ?_⟩
  -- the invariant: what was there stands, the list holds what came of the items so far
  have fzs : ∀ (i : Nat), ∀ d ∈ ((ds.take i).filter p).map f, Fz d := fun i d hd => by
    obtain ⟨d', h1, rfl⟩ := List.mem_map.mp hd
    obtain ⟨h2, h3⟩ := List.mem_filter.mp h1
    exact hfz d' (List.mem_of_mem_take h2) h3
  refine ⟨fun i m zs H3 => m = ds.length - i ∧ i ≤ ds.length ∧ (∀ b o, H2 b = some o → H3 b = some o) ∧ IsAll X.K H3 zs (((ds.take i).filter p).map f), ⟨ds.length, by simp, Nat.zero_le _, same_new hD, ?_⟩, ?_⟩
  · simpa using IsAll.nil
  · rintro i m zs H3 hzs ⟨rfl, hil, k3, hA⟩
    obtain ⟨stop, go⟩ := ok H3 k3
    by_cases hlt : i < ds.length
    · obtain ⟨g, y⟩ := go i ds[i] (by simp [hlt])
      refine .inr ⟨g, fun v H4 hy => ?_⟩
      obtain ⟨rfl, hv⟩ := y v H4 hy
      have hmem : ds[i] ∈ ds := List.getElem_mem hlt
      have r3 : RelE X H4 σ ρ := r.mono (s2.trans k3)
      refine ⟨ds[i], hmem, relE_blk eK r3 hv, fun H5 s5 => ?_⟩
      have etake : ds.take (i + 1) = ds.take i ++ [ds[i]] := by rw [List.take_succ_eq_append_getElem hlt]
      cases hp : p ds[i] with
      | false =>
        refine iteF ⟨zs, ds.length - (i + 1), s5 _ _ hzs, by omega, rfl, hlt, fun b o h => s5 _ _ (k3 b o h), ?_⟩
        rw [etake, List.filter_append]
        simpa [hp] using hA.mono s5
      | true =>
        refine iteT ⟨ds[i], hmem, hp, (relE_blk eK r3 hv).mono s5, fun y H6 s6 hy6 => ⟨zs, s6 _ _ (s5 _ _ hzs), ?_, ds.length - (i + 1), by omega, rfl, hlt, fun b o h => ?_, ?_⟩⟩
        · have e1 := hA.length
          rw [List.length_map] at e1
          have e2 := List.length_filter_le p (ds.take i)
          rw [List.length_take] at e2
          rw [sizeLine_eq]
          omega
        · rw [upd_ne (ne_of_none h hD)]
          exact s6 _ _ (s5 _ _ (k3 b o h))
        · have hD6 : H6 D = some (.lst zs) := s6 _ _ (s5 _ _ hzs)
          have kt : KT H6 (upd H6 D (.lst (zs ++ [y]))) :=
            ⟨fun b xs h => by rw [upd_ne (ne_of h hD6 (by intro z; cases z))]; exact h, fun b o u h => by rw [upd_ne (ne_of h hD6 (by intro z; cases z))]; exact h⟩
          rw [etake, List.filter_append, List.map_append]
          refine IsAll.append ((hA.mono (s5.trans s6)).keep kt (fzs i)) ?_
          rw [eK] at hy6
          simpa [hp] using IsAll.cons (hy6.keep kt (hfz _ hmem hp)) .nil
    · refine .inl ⟨stop i (by omega), q D zs H3 (s2.free hD) (s2.trans k3) hzs ?_⟩
      have : ds.take i = ds := List.take_of_length_le (by omega)
      rw [this] at hA
      exact hA

theorem ps_setComp {X : Cx} {elt iter : Expr} {x : Str} {px : Pos} {ifs : List Expr} {scope : Scope} {cl : List (Str × Addr)} {pos : Pos} {ys : List Str} {js : List Nat} {wi : TI} {tt : Cx → TT} {te : Cx → TE} {i : Nat} {y : Str} {py spos : Pos}
    (hN : X.N.Nodup) (hi0 : X.N[i]? = some y) (hy : X.env.scope.names.lookup y = some .local) (hsw : swapsWith (.ListComp elt [⟨.Name x px, iter, ifs, 0⟩] scope pos) (some (.Name y py)) spos.line X.env = pure true)
    (hc : X.calm = true) (hi : PI X (.Name x px) iter wi)
    (ht : ∀ C s₀ H₀ fp, PTs (blk X scope cl (x :: ys) C s₀ H₀ fp) ifs (tt (blk X scope cl (x :: ys) C s₀ H₀ fp)))
    (he : ∀ C s₀ H₀ fp, PE (blk X scope cl (x :: ys) C s₀ H₀ fp) elt (te (blk X scope cl (x :: ys) C s₀ H₀ fp)))
    (hclos : closureFor scope X.env = pure cl) (hcell : ∀ y ∈ scope.names, y.2 ≠ .cell) (hkind : scope.kind = .function)
    (hnames : ∀ y ∈ scope.names, y.2 = .local → scope.names.lookup y.1 = some .local) (hx : scope.names.lookup x = some .local) (hnd : (x :: ys).Nodup)
    (hcl : ∀ y c, cl.lookup y = some c → X.env.cells.lookup y = some c)
    (hhas : ∀ y, (relabel scope X.env).names.lookup y = some .cell ∨ (relabel scope X.env).names.lookup y = some .free → ∃ c, cl.lookup y = some c)
    (hjs : js.length = ys.length) (hjy : ∀ (i j : Nat) (y : Str), js[i]? = some j → ys[i]? = some y → X.N[j]? = some y ∧ Vis X.env.scope y ∧ (X.env.kindOf y = some .cell ∨ X.env.kindOf y = some .free) ∧ ((relabel scope X.env).names.lookup y = some .cell ∨ (relabel scope X.env).names.lookup y = some .free))
    (hs : ∀ x, foldedSetIterable iter X.env x = pure x) :
    PS X (.Assign [.Name y py] (.ListComp elt [⟨.Name x px, iter, ifs, 0⟩] scope pos) spos) (tAsg (tComp X js wi tt te) (gName i)) := by
  intro pins s σ H Dn I h
  rw [exec_Assign_Name_used _ _ _ _ hsw]
  refine wpAny_bind (wpAny_standAt (wpAny_bind ?_))
  show wpAny _ X.A (do let _ ← comprehension (.ListComp elt [⟨.Name x px, iter, ifs, 0⟩] scope pos) scope X.env _ (newList []) false (eval iter X.env) (some (assign (.Name y py) X.env))) _ _ s
  refine wpAny_bind (wpAny_mono (comp_core (use := some (assign (.Name y py) X.env)) (R := fun _ s' => SP X pins Dn .next s') hc hi ht he hclos hcell hkind hnames hx hnd hcl hhas hjs hjy hs I h (fun D C s5 H4 q hC ns inv cc => ?_)) (fun _ s' hq => wpAny_pure (wpAny_pure hq)) fun _ _ e => e)
  show wpAny _ X.A (assign (.Name y py) X.env (.ref D)) _ _ s5
  have I5 : Inv X pins σ H4 s5 := inv s5.heap (Heap.SameBut.refl _ _)
  refine wpAny_assign_Name (store_ok2 (v := .ref D) I5 hN hi0 (.inl hy) rfl (fun s6 I6 ⟨a, sb, ha⟩ => ?_) (.inr hy))
  obtain ⟨m, hm⟩ := ns
  have aC : C ≠ a := by
    rcases ha with rfl | ha
    · exact cc.2.1
    · exact fun z => cc.2.2.1 _ _ ha z.symm
  refine ⟨m, hm.sameBut sb aC, fun h7 sb7 => ⟨_, H4, ?_, q⟩⟩
  have un : Un (frs X.stack) [C] H4 H4 s6.heap h7 := by
    have nC : ∀ b, b ∉ [C] → b ≠ C := fun b hb z => hb (z ▸ List.mem_cons_self)
    exact ⟨fun b o q n hb hx => (sb7.2 b (nC b hx)).trans q, fun b o q n hb hx => ⟨o.slots, (sb7.2 b (nC b hx)).trans q⟩, fun b o q n hx => n, fun b o q hx => ⟨o, (sb7.2 b (nC b hx)).trans q⟩, fun _ _ q => q, fun _ _ _ q => q, fun _ ps q => ⟨#[], by rw [Array.append_empty]; exact q⟩⟩
  have hok7 : HOk X.prog X.w H4 h7 := fun b ob q => by
    refine (I6.hok b ob q).stay (fun c w' hc' q' => (sb7.2 c ?_).trans q') (fun _ q' => q') fun _ _ q' => q'
    rintro rfl
    rcases hc' with rfl | hc'
    · rw [hC] at q; cases q
    · rw [hC] at hc'; cases hc'
  refine I6.call' (s' := { s6 with heap := h7 }) (ch := [C]) rfl un hok7 I6.bare fun b hb => ?_
  obtain rfl : b = C := List.mem_singleton.mp hb
  exact ⟨.inr cc.1, cc.2.1, cc.2.2.1, cc.2.2.2⟩
section
variable {X : Cx} {ρ : Ro} {ds : List D} {pos spos py : Pos} {rest : List Stmt} {P : Po}
/-- x = [.. for .. in ..] -/
theorem do_setC (n : Nat) {elt iter : Expr} {x y : Str} {px : Pos} {ifs : List Expr} {scope : Scope} (cl : List (Str × Addr)) (ys : List Str) (js : List Nat) (p : D → Bool) (f : D → D)
    (hi : Src X (.Name x px) iter ρ ds) (hz : ds.length ≤ 1000000) (hfz : ∀ d ∈ ds, p d = true → Fz (f d))
    (ht : ∀ C s₀ H₀ fp, ∀ d ∈ ds, Ets (blk X scope cl (x :: ys) C s₀ H₀ fp) ifs (some d :: freesD js ρ) (p d))
    (he : ∀ C s₀ H₀ fp, ∀ d ∈ ds, p d = true → Ev (blk X scope cl (x :: ys) C s₀ H₀ fp) elt (some d :: freesD js ρ) (f d))
    (h : ∀ l, ¬ Mu ρ l → Do X rest (ρ.set n (some (.lst l ((ds.filter p).map f)))) P) (hN : X.N.Nodup) (hi0 : X.N[n]? = some y := by rfl) (hy : X.env.scope.names.lookup y = some .local := by rfl)
    (hsw : swapsWith (.ListComp elt [⟨.Name x px, iter, ifs, 0⟩] scope pos) (some (.Name y py)) spos.line X.env = pure true := by rfl)
    (hc : X.calm = true := by rfl) (hclos : closureFor scope X.env = pure cl := by rfl) (hcell : scope.names.all (fun y => !(y.2 == .cell)) = true := by rfl) (hkind : scope.kind = .function := by rfl)
    (hnames : scope.names.all (fun y => !(y.2 == .local) || (scope.names.lookup y.1 == some .local)) = true := by rfl) (hx : scope.names.lookup x = some .local := by rfl) (hnd : (x :: ys).Nodup := by decide)
    (hcl : cl.map (fun p => X.env.cells.lookup p.1) = cl.map (fun p => some p.2) := by rfl) (hhas : scope.names.all (fun y => !(y.2 == .free) || (cl.lookup y.1).isSome) = true := by rfl)
    (hjs : js.length = ys.length := by rfl) (hNj : js.map (fun j => X.N[j]?) = ys.map some := by rfl) (hK : ys.map (fun y => X.env.scope.names.lookup y) = ys.map (fun _ => some .cell) := by rfl) (hR : ys.map (fun y => (relabel scope X.env).names.lookup y) = ys.map (fun _ => some .cell) := by rfl)
    (hs : ∀ x, foldedSetIterable iter X.env x = pure x := by intro _; rfl) : Do X (.Assign [.Name y py] (.ListComp elt [⟨.Name x px, iter, ifs, 0⟩] scope pos) spos :: rest) ρ P := by
  have hcell' : ∀ y ∈ scope.names, y.2 ≠ .cell := fun y hy z => by
    have := List.all_eq_true.mp hcell y hy
    rw [z] at this
    cases this
  have hz' : ∀ d ∈ (ds.filter p).map f, Fz d := fun d hd => by
    obtain ⟨d', h1, rfl⟩ := List.mem_map.mp hd
    exact hfz d' (List.mem_filter.mp h1).1 (List.mem_filter.mp h1).2
  refine do_seq (M := fun ρ' => ∃ l, ¬ Mu ρ l ∧ ρ' = ρ.set n (some (.lst l ((ds.filter p).map f)))) (PS.imp (ps_setComp (cl := cl) (ys := ys) (js := js) (wi := tSrc X ρ ds) (tt := fun Y σ H Q => ∃ d, d ∈ ds ∧ tB Y (some d :: freesD js ρ) (p d) σ H Q) (te := fun Y σ H Q => ∃ d, d ∈ ds ∧ p d = true ∧ tD Y (some d :: freesD js ρ) (f d) σ H Q) hN hi0 hy hsw hc hi
    (fun C s₀ H₀ fp pins s σ H Q I ⟨d, hd, q⟩ => ht C s₀ H₀ fp d hd pins s σ H Q I q) (fun C s₀ H₀ fp pins s σ H Q I ⟨d, hd, hp, q⟩ => he C s₀ H₀ fp d hd hp pins s σ H Q I q) hclos hcell' hkind (fun y hy z => ?_) hx hnd (hcl_of fun q hq => map_at hcl q hq) (has_of hcell' fun q hq z => ?_) hjs (fun i j y hj hy => ?_) hs) ?_) (fun _ ⟨l, z, e⟩ => e ▸ h l z)
  · have := List.all_eq_true.mp hnames y hy
    rw [z] at this
    simpa using this
  · have := List.all_eq_true.mp hhas q hq
    rw [z] at this
    have h2 : (cl.lookup q.1).isSome = true := by simpa using this
    exact Option.isSome_iff_exists.mp h2
  · have my : y ∈ ys := List.mem_of_getElem? hy
    have e1 : X.N[j]? = some y := by
      have : (js.map (fun j => X.N[j]?))[i]? = (ys.map some)[i]? := by rw [hNj]
      rw [List.getElem?_map, List.getElem?_map, hj, hy] at this
      simpa using this
    have e2 := map_at hK y my
    have e3 := map_at hR y my
    exact ⟨e1, .inr (.inl e2), .inl e2, .inl e3⟩
  · rintro D σ H ⟨r, q1, q2, q3, q4⟩
    refine comp_reading p f hz hfz σ H _ ⟨r.e, fun l vs H' hl s e1 h' => q1 _ H' _ (Go.set s fun a es z => ?_) ((r.mono s).set (.lst e1 h') n (.inr (.inr ⟨l, _, rfl, hz'⟩)) fun a es z => ?_) ⟨l, fun m => ?_, rfl⟩⟩
    · cases z
      exact .inr hl
    · cases z
      exact r.same.free hl
    · obtain ⟨ys, z⟩ := r.mu m
      rw [hl] at z
      cases z
end
end FL

/-! FY: x += e; range with a step; | 1 -/
namespace FL
open PySem PySem.Spec PyProof.Rows L2
section
variable {X : Cx} {e a b c tg : Expr} {es : List Expr} {ρ : Ro} {d : D} {ds : List D} {pos : Pos} {i j k : Int} {rest A B : List Stmt} {P : Po}
theorem do_aug (n : Nat) {x : Str} {pos' : Pos} (hρ : ρ[n]? = some (some (.int i))) (he : Ev X e ρ (.int j)) (h : Do X rest (ρ.set n (some (.int (i + j)))) P) (hN : X.N.Nodup) (hi : X.N[n]? = some x := by rfl) (hx : Loc X.env.scope x := by first | exact Or.inl rfl | exact Or.inr rfl)
    (hf : X.fn x = true ∨ X.env.scope.names.lookup x = some .local := by first | exact .inl rfl | exact .inr rfl) : Do X (.AugAssign (.Name x pos') .Add e pos :: rest) ρ P := by
  refine do_seq (M := fun ρ' => ρ' = ρ.set n (some (.int (i + j)))) (PS.imp (ps_aug hN hi hx he ip_add hf) ?_) (fun _ z => z ▸ h)
  rintro D σ H ⟨r, q1, q2, q3, q4⟩
  obtain ⟨v, e1, h1, _⟩ := r.val n _ hρ
  cases h1.int_inv
  refine ⟨.int i, e1, r.e, fun v H' s h' => ?_⟩
  cases h'.int_inv
  exact ⟨i, j, rfl, rfl, q1 _ H' _ (Go.set s fun a ds z => by cases z) ((r.mono s).set (.int _) n (.inl (.int _)) fun a ds z => by cases z) rfl⟩
end
section
variable {X : Cx} {e a b c tg : Expr} {es : List Expr} {ρ : Ro} {d : D} {ds : List D} {pos : Pos} {i j k : Int} {rest A B : List Stmt} {P : Po}
end
end FL

/-! FN: a def within the law's body that reads one name of it; calling what a name holds -/
namespace FN
open PySem PySem.Spec PyProof.Rows L2 FL

/-! ### calling what a name holds -/
theorem callWith_F {M : Model} {A : Around} {E : Value → Shared → Prop} {s : Shared} {env : Env} {pos : Pos} {first : List Value} {Q : Value → Shared → Prop} {f : Addr} {e : Expr} {rest : List Expr} {oc : Value} {od : Option Addr} {fd : FuncData} {osl : Array (Option Value)}
    (h : wpAny M A (spliced (backTo pos (starEach (e :: rest) env))) (fun vs s₁ => s₁.heap.get? f = some ⟨oc, od, .func fd, osl⟩ ∧ wpAny M A (call (.ref f) (first ++ vs)) Q E s₁) E s)
    (he : starEach (e :: rest) env = (false, eval e env) :: starEach rest env) (hpl : (backTo pos (starEach rest env)).any (·.1) = false) : wpAny M A (callWith pos (.ref f) first (backTo pos (starEach (e :: rest) env)) []) Q E s := by
  rw [he] at h ⊢
  exact PySem.W.callWith_of (P := fun h => h.get? f = some ⟨oc, od, .func fd, osl⟩) (by show ((false || (backTo pos (starEach rest env)).any (·.1)) || false) = false; rw [hpl]; rfl)
    (fun h hh => ⟨.frame, .inl rfl, (PySem.W.Looks.ld (part := none) hh).andThen .now⟩) (PySem.Calls.evalArgs_plain h)
section
variable {X : Cx} {e : Expr} {es : List Expr} {ρ : Ro} {d : D} {ds : List D} {pos : Pos}
theorem ev_callV {k : Nat} {x : Str} {f : Addr} {fd : FuncData} {ps : List Str} {Pf : List D → D → Prop} {p : Pos} {oc : Value} {od : Option Addr} {osl : Array (Option Value)} (F : FnOk X.prog X.w X.K X.mg X.base CX0 k f fd ps (SpD X.K Pf))
    (hf : X.base.get? f = some ⟨oc, od, .func fd, osl⟩) (hb : Binds X.K fd ps []) (hr : Room k X.A) (hv : Ev X (.Name x p) ρ (.ob f)) (ha : EvA X (e :: es) ρ ds) (hp : Pf ds d)
    (he : starEach (e :: es) X.env = (false, eval e X.env) :: starEach es X.env := by rfl) (hpl : (backTo pos (starEach es X.env)).any (·.1) = false := by rfl) : Ev X (.Call (.Name x p) (e :: es) [] pos) ρ d := by
  intro pins s σ H Q I hq
  obtain ⟨r, q⟩ := hq
  refine wpAny_Call_Name_kw (thn (hv pins s σ H (fun v H' => v = .ref f ∧ Same H H') I ⟨r, fun v H' s' h' => ⟨h'.ob_inv, s'⟩⟩) fun u s1 hu => ?_)
  obtain ⟨v, H1, I1, rv, rfl, sm⟩ := hu
  obtain rfl : u = Value.ref f := rv
  refine callWith_F (oc := oc) (od := od) (fd := fd) (osl := osl) ?_ he hpl
  refine thn (ha pos pins s1 σ H1 (fun vs H2 => Same H1 H2 ∧ IsAll X.K H2 vs ds) I1 ⟨r.mono sm, fun vs H2 s2 h2 => ⟨s2, h2⟩⟩) fun us s2 hu => ?_
  obtain ⟨vs, H2, I2, rvs, sm2, hvs⟩ := hu
  refine ⟨I2.bk _ _ hf, ?_⟩
  exact run_fn F hr hb .nil pass0 I2 rvs ⟨ds, d, by rw [List.append_nil]; exact hvs, hp, fun v H' s' h' => q v H' ((sm.trans sm2).trans s') h'⟩
end

/-! ### the def that reads one name x of the body around it (its cell at c), with one parameter p -/
def clFd (name qualname : Str) (params : Arguments) (body : List Stmt) (scope : Scope) (globals : Addr) (x : Str) (c T : Addr) (pm code doc : Value) : FuncData :=
  { name, qualname, params, body := .stmts body, scope, globals, closure := [(x, c)], closureTuple := .ref T, defaults := .none, kwdefaults := .none, annotations := none, pyModule := pm, code, doc, builtins := builtinsNs }
def envCl (qual : Str) (scope : Scope) (L f : Addr) (cd : Value) (x : Str) (c : Addr) : Env :=
  { scope := scope, locals := L, globals := mainGlobals, cells := [(x, c)], qual := qual ++ ".<locals>.", func := some f, code := cd, frame := some L, builtins := builtinsNs }
/-- the context of its body -/
def cxCl (P : Program) (w : World) (K : PySem.W.Frag) (mg : Str → Option Value) (base : Heap) (p : Str) (qual : Str) (scope : Scope) (f : Addr) (cd : Value) (x : Str) (c : Addr) (A : Around) (outer : List Env) (s : Shared) (H : Hp) : Cx where
  prog := P
  w := w
  K := K
  mg := mg
  base := base
  A := A.deeper (envCl qual scope s.heap.objs.size f cd x c)
  N := [p, x]
  s₀ := s
  H₀ := H
  env := envCl qual scope s.heap.objs.size f cd x c
  outer := outer
  stack := envCl qual scope s.heap.objs.size f cd x c :: outer
  ex := []
  calm := true
  fn := fun _ => false
  pn := []
  xe := fun _ _ => False
structure ClScope (p x : Str) (sc : Scope) : Prop where
  kind : sc.kind = .function
  co : sc.isCoroutine = false
  gen : sc.isGenerator = false
  ne : p ≠ x
  par : sc.names.lookup p = some .local
  fre : sc.names.lookup x = some .free
  nocell : ∀ y ∈ sc.names, y.2 ≠ .cell
  only : ∀ y, sc.names.lookup y = some .free → y = x
section
variable {P : Program} {w : World} {K : PySem.W.Frag} {mg : Str → Option Value} {base : Heap}
theorem cl_start {p x qual : Str} {scope : Scope} {f c : Addr} {cd u uc : Value} {v vc : V} {A : Around} {outer : List Env} {s : Shared} {H : Hp} {h' : Heap} {t : Nat} (S : ClScope p x scope) (hd : A.handled = none) (e0 : Env0 P w K mg base A outer s H) (r : RelV v u)
    (hc : base.IsCell c (some uc)) (rc : RelV vc uc) (hn : h'.Ns s.heap.objs.size (fun y => [(p, u)].reverse.lookup y)) (hk : ∀ b o, s.heap.get? b = some o → h'.get? b = some o) :
    Inv (cxCl P w K mg base p qual scope f cd x c A outer s H) [] [some v, some vc] H { s with heap := h', toks := t } := by
  have noA : ∀ b : Addr, b ∉ (cxCl P w K mg base p qual scope f cd x c A outer s H).ex := fun b z => absurd (show b ∈ ([] : List Addr) from z) (by simp)
  obtain ⟨oc, hoc, hod⟩ := hc
  have hcs := e0.bs c oc hoc
  have lk : ∀ {y : Str} {c' : Addr}, ([(x, c)] : List (Str × Addr)).lookup y = some c' → y = x ∧ c' = c := fun {y c'} h => by
    rw [List.lookup_cons] at h
    cases hb : y == x with
    | true => rw [hb] at h; cases h; exact ⟨eq_of_beq hb, rfl⟩
    | false => rw [hb] at h; cases h
  have lx : ([(x, c)] : List (Str × Addr)).lookup x = some c := by rw [List.lookup_cons, beq_self_eq_true]
  have noc : ∀ y, scope.names.lookup y = some .cell → False := fun y hy => S.nocell _ (PySem.mem_of_lookup hy) rfl
  refine ⟨⟨e0.mod, S.kind, rfl, rfl, Nat.le_refl _, fun y z c' h1 h2 => (lk h1).1.trans (lk h2).1.symm, fun y hy => ?_, fun y c' h => absurd (show (false : Bool) = true from h) Bool.false_ne_true, fun _ => hd, Around.frames_deeper e0.frames, .inr ⟨rfl, rfl⟩,
      fun b z => absurd z (noA b), e0.bs, e0.bsz, fun b _ _ => noA b, fun b z => absurd z (noA b), e0.funs, e0.frf⟩,
    rfl, e0.bare, Un.kept hk, ⟨_, hn, fun i y v' h1 h2 h3 => ?_⟩, fun y c' h => ?_, e0.hok.fresh (Nat.le_refl _), fun y c' h => ?_, fun p hp => absurd (show p ∈ ([] : List (Addr × Obj)) from hp) (by simp), e0.hok.kept hk, rfl⟩
  · have hy : scope.names.lookup y = some .cell ∨ scope.names.lookup y = some .free := hy
    rcases hy with hy | hy
    · exact (noc y hy).elim
    · cases S.only y hy
      exact ⟨c, lx⟩
  · match i, h1, h2 with
    | 0, h1, h2 =>
      cases h1; cases h2
      exact ⟨u, r, .inl ⟨S.par, by simp⟩⟩
    | 1, h1, h2 =>
      cases h1; cases h2
      exact ⟨uc, rc, .inr ⟨.inr S.fre, c, lx, oc, hk _ _ hcs.1, hod⟩⟩
    | n + 2, h1, _ => simp [cxCl] at h1
  · obtain ⟨rfl, rfl⟩ := lk h
    exact ⟨_, oc, hk _ _ hcs.1, hod⟩
  · obtain ⟨rfl, rfl⟩ := lk h
    exact hcs.2
/-- THE RULE: such a def keeps its promise wherever it is part of the base -/
theorem cl_ok {name p x qual : Str} {params : Arguments} {body : List Stmt} {scope : Scope} {f c T : Addr} {pm cd doc oc uc : Value} {vc : V} {od : Option Addr} {osl : Array (Option Value)} {k : Nat} {dc : D} {Pf : List D → D → Prop} (S : ClScope p x scope)
    (hf : base.get? f = some ⟨oc, od, .func (clFd name qual params body scope mainGlobals x c T pm cd doc), osl⟩) (hcd : base.CodeRec cd qual) (hc : base.IsCell c (some uc)) (rc : RelV vc uc) (hvc : ∀ H, Is K H vc dc)
    (hl : ∀ ds d, Pf ds d → ∃ d0, ds = [d0] ∧ ∀ a es, d0 ≠ .lst a es)
    (hbody : ∀ (A : Around) (outer : List Env) (s : Shared) (H : Hp), Room k (A.deeper (envCl qual scope s.heap.objs.size f cd x c)) → ∀ d0 d, Pf [d0] d →
      Do (cxCl P w K mg base p qual scope f cd x c A outer s H) body [some d0, some dc] { nx := fun _ => d = .non, rt := fun d' => d' = d }) (hfz : Fz dc) :
    FnOk P w K mg base CX0 (k + 1) f (clFd name qual params body scope mainGlobals x c T pm cd doc) [p] (SpD K Pf) := by
  have one : ∀ {vs : List V} {d0 : D} {H : Hp}, IsAll K H vs [d0] → ∃ v, vs = [v] ∧ Is K H v d0 := fun {vs d0 H} h => by
    cases h with
    | cons h r => cases r; exact ⟨_, rfl, h⟩
  refine ⟨fun vs H Q E ⟨ds, d, h1, h2, _⟩ => ?_, fun A outer s H args us vs Q E hr e0 hb r hsp => ?_⟩
  · obtain ⟨d0, rfl, _⟩ := hl ds d h2
    exact h1.length
  obtain ⟨ds, d, h1, h2, q⟩ := hsp
  obtain ⟨d0, rfl, nl⟩ := hl ds d h2
  obtain ⟨v, rfl, hv⟩ := one h1
  obtain ⟨u, rfl, ru⟩ : ∃ u, us = [u] ∧ RelV v u := by
    cases r with
    | cons r t => cases t; exact ⟨_, rfl, r⟩
  have lim : s.heap.NoLimit := e0.mod.nolimit.keeps fun b o e => (e0.bs b o e).1
  refine codeAny_call_function hr.depth (e0.bs _ _ hf).1 rfl S.co S.gen rfl (hcd.keeps fun b o e => (e0.bs b o e).1) (hb _ _ _ _ ?_)
  refine wpAny_newFunctionEnv S.nocell (fun y hy => ?_) (fun h' hn hs => ?_) S.kind
  · have hy' : y = (p, u) := by simpa using hy
    subst hy'
    exact S.par
  have hk : ∀ b o, s.heap.get? b = some o → h'.get? b = some o := fun b o e => (hs.2 b (Nat.ne_of_lt (Heap.lt_size e))).trans (Heap.get?_push_of_some _ e)
  refine ⟨lim.keeps hk, codeAny_func ?_⟩
  have I : Inv (cxCl P w K mg base p qual scope f cd x c A outer s H) [] [some v, some vc] H { s with heap := h', toks := s.toks + [(p, u)].length } := cl_start S hr.hd e0 ru hc rc hn hk
  have hrel : RelS (cxCl P w K mg base p qual scope f cd x c A outer s H) H H [some v, some vc] [some d0, some dc] := by
    refine ⟨Same.refl _, rfl, fun i d' e => ?_, fun a ⟨i, es, e⟩ => ?_⟩
    · match i, e with
      | 0, e => cases e; exact ⟨v, rfl, hv, .inr (.inl hv)⟩
      | 1, e => cases e; exact ⟨vc, rfl, hvc H, .inl hfz⟩
      | n + 2, e => simp at e
    · match i, e with
      | 0, e => simp only [List.getElem?_cons_zero, Option.some.injEq] at e; exact absurd e (nl a es)
      | 1, e => simp only [List.getElem?_cons_succ, List.getElem?_cons_zero, Option.some.injEq] at e; subst e; exact hfz.no_lst.elim
      | n + 2, e => simp at e
  refine wpAny_mono (hbody A outer s H (hr.deeper _) d0 d h2 [] _ _ H { nx := fun _ H' => Q .non H', rt := Q } I ⟨hrel, fun σ' H' ρ' _ r' z => ?_, fun v H' d' sm hv _ z => ?_, fun _ _ _ _ _ z => z.elim, fun _ _ _ _ _ z => z.elim⟩) (fun fl s' hs' => ?_) fun e s' hs' => hs'.elim
  · have z' : d = .non := z
    subst z'
    exact q _ H' r'.same .non
  · have z' : d' = d := z
    subst z'
    exact q v H' sm hv
  have fin : ∀ {σ' : L2.St} {H' : Hp} {v : V} {u : Value}, Inv (cxCl P w K mg base p qual scope f cd x c A outer s H) [] σ' H' s' → RelV v u → Q v H' → CE outer P w H s Q u s' :=
    fun {σ' H' v u} J rv q => ⟨v, H', J.os, J.bare, J.base, J.hok, rv, q⟩
  cases fl with
  | ret u =>
    obtain ⟨v, σ', H', J, rv, q⟩ := hs'
    exact fin J rv q
  | next =>
    obtain ⟨σ', H', J, q⟩ := hs'
    exact fin (v := V.non) (u := Value.none) J rfl q
  | brk =>
    obtain ⟨_, _, _, q⟩ := hs'
    exact False.elim q
  | cont =>
    obtain ⟨_, _, _, q⟩ := hs'
    exact False.elim q
end

/-! ### the law's own context: the table of its code, at Pl, may grow -/
abbrev tabO (ps : Array Value) : Obj := { cls := .none, data := .fields ps }
def cxN (P : Program) (w : World) (K : PySem.W.Frag) (mg : Str → Option Value) (base : Heap) (N : List Str) (qual : Str) (scope : Scope) (f : Addr) (cd : Value) (A : Around) (s : Shared) (H : Hp) (Pl : Addr) (pn : List (Addr × Obj)) : Cx where
  prog := P
  w := w
  K := K
  mg := mg
  base := base
  A := A.deeper (envOfC qual scope s.heap.objs.size f cd)
  N := N
  s₀ := s
  H₀ := H
  env := envOfC qual scope s.heap.objs.size f cd
  outer := []
  stack := [envOfC qual scope s.heap.objs.size f cd]
  ex := [Pl]
  calm := true
  fn := fun _ => true
  pn := pn
  xe := fun _ _ => False
section
variable {P : Program} {w : World} {K : PySem.W.Frag} {mg : Str → Option Value} {base : Heap} {N : List Str} {qual : Str} {scope : Scope} {f Pl : Addr} {cd : Value} {A : Around} {s₀ s : Shared} {H₀ H : Hp} {pn pn' : List (Addr × Obj)} {σ : L2.St}
theorem cxN_pn (I : Inv (cxN P w K mg base N qual scope f cd A s₀ H₀ Pl pn) [] σ H s) (h : ∀ q ∈ pn', s.heap.get? q.1 = some q.2 ∧ H q.1 = none ∧ q.1 ≠ s₀.heap.objs.size ∧ ∀ v, q.2.data ≠ .cell v) :
    Inv (cxN P w K mg base N qual scope f cd A s₀ H₀ Pl pn') [] σ H s :=
  ⟨⟨I.ok.mod, I.ok.kind, I.ok.glob, I.ok.blt, I.ok.above, I.ok.inj, I.ok.has, I.ok.cab, I.ok.hd, I.ok.frames, I.ok.stk, I.ok.exf, I.ok.bs, I.ok.bsz, I.ok.noex, I.ok.exfs, I.ok.funs, I.ok.frf⟩,
    I.os, I.bare, I.base, I.loc, I.cell, I.free, I.freeC, fun q hq => by
      have hq' : q ∈ pn' := by simpa [cxN] using hq
      obtain ⟨a, b, c, d⟩ := h q hq'
      exact ⟨a, b, c, fun z => absurd (show q.1 ∈ ([] : List Addr) from z) (by simp), d⟩, I.hok, I.len⟩
/-- what the law's def brings for its own inner def -/
structure Nst (base : Heap) (mg : Str → Option Value) (Pl cc : Addr) : Prop where
  code : ∀ h : Heap, (∀ b o, base.get? b = some o → h.get? b = some o) → h.get? Pl = some (tabO #[]) → h.IsCode cc Pl #[] ∧ h.TableAt cc Pl #[]
  bm : base.BuiltinsAt mg Pl
  gP : mainGlobals ≠ Pl
  no : base.get? Pl = none
theorem makeTail1 {M : Model} {E : Value → Shared → Prop} {name qualname : Str} {params : Arguments} {body : List Stmt} {sc : Scope} {env : Env} {mg : Str → Option Value} {c : Addr} {ps : Array Value} {pos : Pos} {firstLine : Nat} {x : Str} {c0 : Addr} {Q : Value → Shared → Prop}
    (hcl : closureFor sc env = pure [(x, c0)]) (hg : s.heap.Ns env.globals mg) (hcode : env.code = .ref c) (hok : s.heap.IsCode c Pl ps) (htb : s.heap.TableAt c Pl ps) (hnf : codeAmong pos ps.toList = none) (hgP : env.globals ≠ Pl) (hb : s.heap.BuiltinsAt mg Pl)
    (h : ∀ c' doc h' tk T, Heap.ExtBut Pl s.heap h' → s.heap.objs.size ≤ c' → c' < h'.objs.size → h'.get? Pl = some (tabO (ps ++ #[rawInt pos.line, rawInt pos.col, .ref c'])) → h'.CodeRec (.ref c') qualname →
      Q (.ref h'.objs.size) { s with heap := h'.push { cls := .type "function", data := .func (clFd name qualname params body sc env.globals x c0 T ((mg "__name__").getD .none) (.ref c') doc) }, toks := tk }) :
    wpAny M A (makeTail name qualname params (.stmts body) sc env .none .none none pos firstLine) Q E s := by
  unfold makeTail
  rw [hcl]
  simp only [pure_bind, List.isEmpty_cons, Bool.false_eq_true, if_false, List.mergeSort_singleton, List.map_cons, List.map_nil]
  refine wpAny_bind (wpAny_newTextTuple ?_)
  have hk : ∀ b o, s.heap.get? b = some o → (s.heap.push { cls := .type "tuple", data := .seq [Value.ref c0].toArray }).get? b = some o := fun b o e => Heap.get?_push_of_some _ e
  refine wpAny_bind (wpAny_functionCodeX (s := { s with heap := s.heap.push { cls := .type "tuple", data := .seq [Value.ref c0].toArray } }) hcode (hok.keeps hk) (htb.keeps hk) hnf fun c' h' tk hx hge hlt _ hrec htab _ => ?_)
  obtain ⟨bm, o, hbm, hne0, _, hneP, hbo, hcls, hdict, hdata⟩ := hb
  have hg' : h'.Ns env.globals mg := (hg.keeps hk).extBut hx hgP
  refine wpAny_bind (wpAny_builtinsFor hg' hbm hne0 (hx _ _ hneP (hk _ _ hbo)) hcls hdict hdata ?_)
  refine wpAny_bind (wpAny_nsGet hg' ?_)
  have hx' : Heap.ExtBut Pl s.heap h' := fun b o' hb' e => hx b o' hb' (hk b o' e)
  have hge' : s.heap.objs.size ≤ c' := Nat.le_trans (by rw [Heap.size_push]; exact Nat.le_succ _) hge
  cases hdoc : docOf body with
  | none => exact wpAny_bind (wpAny_pure (wpAny_newObj_type (h c' .none h' tk _ hx' hge' hlt htab.2 hrec) (by size_fits)))
  | some t => exact wpAny_bind (wpAny_mkText (wpAny_newObj_type (h c' _ h' _ _ hx' hge' hlt htab.2 hrec) (by size_fits)))
end
end FN
/-! ### the inner def runs -/
namespace FN
open PySem PySem.Spec PyProof.Rows L2 FL
section
variable {P : Program} {w : World} {K : PySem.W.Frag} {mg : Str → Option Value} {base : Heap} {N : List Str} {qual : Str} {scope : Scope} {f Pl : Addr} {A : Around} {s₀ s : Shared} {H₀ H : Hp} {σ : L2.St}
theorem exec_inner {cc c0 : Addr} {name p x : Str} {ppos pos : Pos} {body : List Stmt} {sc : Scope} {i : Nat} {Q : Flow → Shared → Prop} {E : Value → Shared → Prop} {M : Model} {A' : Around}
    (I : Inv (cxN P w K mg base N qual scope f (.ref cc) A s₀ H₀ Pl [(Pl, tabO #[])]) [] σ H s) (B : Nst base mg Pl cc) (hN : N.Nodup) (hi : N[i]? = some name) (hx : scope.names.lookup name = some .local)
    (hcl : closureFor sc (envOfC qual scope s₀.heap.objs.size f (.ref cc)) = pure [(x, c0)])
    (hq : qualnameIn (envOfC qual scope s₀.heap.objs.size f (.ref cc)) name name = qual ++ ".<locals>." ++ name)
    (h : ∀ (s' : Shared) (g c' T : Addr) (pm doc : Value) (o' : Obj) (ps : Array Value), (∃ vs t, o'.data = .fields vs ∧ vs[1]? = some (.str (qual ++ ".<locals>." ++ name) t)) →
      Inv (cxN P w K mg base N qual scope f (.ref cc) A s₀ H₀ Pl [(Pl, tabO ps), (g, { cls := .type "function", data := .func (clFd name (qual ++ ".<locals>." ++ name) ⟨[], [⟨p, none, ppos⟩], none, [], [], none, []⟩ body sc mainGlobals x c0 T pm (.ref c') doc) }), (c', o')]) [] (σ.set i (some (.ref g))) H s' → Q .next s') :
    wpAny M A' (exec (.FunctionDef name ⟨[], [⟨p, none, ppos⟩], none, [], [], none, []⟩ body [] none [] sc none name pos) (envOfC qual scope s₀.heap.objs.size f (.ref cc))) Q E s := by
  rw [exec_def, hq]
  refine wpAny_bind (wpAny_standAt (wpAny_bind (wpAny_holding ?_)))
  refine wpAny_bind (m := evalAll _) (wpAny_pure (a := ([] : List Value)) ?_)
  refine wpAny_bind (wpAny_holding (wpAny_pure (a := ([] : List (Option Value))) ?_))
  refine wpAny_holding ?_
  refine wpAny_bind (m := evalNamed _) (wpAny_pure (a := ([] : List (Str × Value))) ?_)
  rw [makeFunction_eq]
  refine wpAny_bind (wpAny_pure (a := Value.none) ?_)
  refine wpAny_bind (wpAny_pure (a := Value.none) ?_)
  refine wpAny_bind (wpAny_pure (a := (none : Option Addr)) ?_)
  have pin : s.heap.get? Pl = some (tabO #[]) ∧ H Pl = none ∧ Pl ≠ s₀.heap.objs.size := by
    obtain ⟨a, b, c, _⟩ := I.pin (Pl, tabO #[]) (by simp [cxN])
    exact ⟨a, b, c⟩
  have hg : s.heap.Ns mainGlobals mg := I.ok.mod.glob.keeps I.bk
  obtain ⟨bm, ob, b1, b2, b3, b4, b5, b6⟩ := B.bm
  refine makeTail1 (ps := #[]) hcl hg rfl (B.code s.heap I.bk pin.1).1 (B.code s.heap I.bk pin.1).2 rfl B.gP ⟨bm, ob, b1, b2, b3, b4, I.bk _ _ b5, b6⟩ fun c' doc h' tk T hxb hge hlt htab hrec => ?_
  have hsz : s.heap.objs.size < h'.objs.size := Nat.lt_of_le_of_lt hge hlt
  have hL : s₀.heap.objs.size < s.heap.objs.size := I.lt
  obtain ⟨cA, oA, vA, tA, eA, gA, dA, qA⟩ := hrec
  cases eA
  obtain ⟨fo, hfo⟩ : ∃ fo : Obj, { cls := .type "function", data := .func (clFd name (qual ++ ".<locals>." ++ name) ⟨[], [⟨p, none, ppos⟩], none, [], [], none, []⟩ body sc mainGlobals x c0 T ((mg "__name__").getD .none) (.ref c') doc) } = fo := ⟨_, rfl⟩
  have keep : ∀ b o, b ≠ Pl → s.heap.get? b = some o → (h'.push fo).get? b = some o := fun b o hb e => Heap.get?_push_of_some _ (hxb b o hb e)
  have trk : ∀ b, H b ≠ none → b ≠ Pl := fun b hb z => hb (z ▸ pin.2.1)
  have I0 : Inv (cxN P w K mg base N qual scope f (.ref cc) A s₀ H₀ Pl []) [] σ H s := cxN_pn I fun q hq => absurd hq (by simp)
  have hch : ∀ b ∈ [Pl], (b ∈ (cxN P w K mg base N qual scope f (.ref cc) A s₀ H₀ Pl []).ex ∨ s₀.heap.objs.size ≤ b) ∧ b ≠ s₀.heap.objs.size ∧ (∀ y c, (envOfC qual scope s₀.heap.objs.size f (.ref cc)).cells.lookup y = some c → c ≠ b) ∧
      ∀ q ∈ (cxN P w K mg base N qual scope f (.ref cc) A s₀ H₀ Pl []).pn ++ [], q.1 ≠ b := fun b hb => by
    obtain rfl : b = Pl := by simpa using hb
    exact ⟨.inl (by simp [cxN]), pin.2.2, fun y c e => (I.ok.exf b (by simp [cxN])).2 y c e, fun q hq => absurd hq (by simp [cxN])⟩
  have I1 : Inv (cxN P w K mg base N qual scope f (.ref cc) A s₀ H₀ Pl []) [] σ H { s with heap := h'.push fo, toks := tk } := by
    refine I0.step (g' := s.gens) (d' := s.drawn) (t' := tk) (ch := [Pl]) hch (fun b o _ _ hc e _ => keep b o (by simpa using hc) e) (fun b o _ _ hc e _ => ⟨o.slots, keep b o (by simpa using hc) e⟩) (fun b o _ e n => n)
      (fun b o hc e => ⟨o, keep b o (by simpa using hc) e⟩) (fun _ _ e => e) (fun _ _ _ e => e) (fun b ps e => ⟨#[], by simpa using e⟩) (fun m hm => ?_) (fun b o e => ?_) I0.bare
    · exact (hm.extBut hxb (fun z => pin.2.2 z.symm)).push _
    · refine (I0.hok b o e).stay (fun c u hc q => keep c u ?_ q) (fun _ q => q) fun _ _ q => q
      rcases hc with rfl | hc
      · exact trk c (by rw [e]; simp)
      · exact trk c (by rw [hc]; simp)
  have I2 : Inv (cxN P w K mg base N qual scope f (.ref cc) A s₀ H₀ Pl [(Pl, tabO (#[] ++ #[rawInt pos.line, rawInt pos.col, .ref c'])), (h'.objs.size, fo), (c', oA)]) [] σ H { s with heap := h'.push fo, toks := tk } := by
    refine cxN_pn I1 fun q hq => ?_
    have fr : ∀ b, s.heap.objs.size ≤ b → H b = none := fun b hb => I.hok.fresh hb
    rcases List.mem_cons.mp hq with rfl | hq
    · exact ⟨Heap.get?_push_of_some _ htab, pin.2.1, pin.2.2, fun v z => by cases z⟩
    rcases List.mem_cons.mp hq with rfl | hq
    · refine ⟨Heap.get?_push_size _ (by rw [← hfo]; rfl), fr _ (Nat.le_of_lt hsz), Nat.ne_of_gt (Nat.lt_trans hL hsz), fun v z => ?_⟩
      rw [← hfo] at z
      cases z
    · obtain rfl : q = (c', oA) := by simpa using hq
      refine ⟨Heap.get?_push_of_some _ gA, fr _ hge, Nat.ne_of_gt (Nat.lt_of_lt_of_le hL hge), fun v z => ?_⟩
      have z' : oA.data = .cell v := z
      rw [dA] at z'
      cases z'
  subst hfo
  refine wpAny_bind (wpAny_standAt (wpAny_bind (wpAny_bindName ?_)))
  refine store_ok (X := cxN P w K mg base N qual scope f (.ref cc) A s₀ H₀ Pl [(Pl, tabO (#[] ++ #[rawInt pos.line, rawInt pos.col, .ref c'])), (h'.objs.size, _), (c', oA)]) (v := V.ref h'.objs.size) I2 hN hi (.inl hx) rfl (fun s' I' => wpAny_pure ?_) (.inl rfl)
  exact h s' h'.objs.size c' T _ doc oA _ ⟨vA, tA, dA, qA⟩ I'
end
end FN
/-! ### a call of a def to which the inner one is handed: over the base with the inner def's objects -/
namespace FN
open PySem PySem.Spec PyProof.Rows L2 FL
theorem execs_app {env : Env} : ∀ (a b : List Stmt), execs (a ++ b) env = (do match ← execs a env with | .next => execs b env | f => pure f)
  | [], b => by rw [List.nil_append, execs_nil, pure_bind]
  | st :: a, b => by
    rw [List.cons_append, execs_cons, execs_cons, bind_assoc]
    congr 1
    funext fl
    cases fl with
    | next => exact execs_app a b
    | _ => simp only [pure_bind]
theorem wp_app {M : Model} {A : Around} {E : Value → Shared → Prop} {s : Shared} {env : Env} {a b : List Stmt} {Q : Flow → Shared → Prop}
    (h : wpAny M A (execs a env) (fun fl s' => match fl with | .next => wpAny M A (execs b env) Q E s' | fl => Q fl s') E s) : wpAny M A (execs (a ++ b) env) Q E s := by
  rw [execs_app]
  refine wpAny_bind (thn h fun fl s' q => ?_)
  cases fl with
  | next => exact q
  | ret u => exact wpAny_pure q
  | brk => exact wpAny_pure q
  | cont => exact wpAny_pure q
section
open Classical
variable {P : Program} {w : World} {K : PySem.W.Frag} {mg : Str → Option Value} {base : Heap} {N : List Str} {qual : Str} {scope : Scope} {f Pl : Addr} {cd : Value} {A : Around} {s₀ s : Shared} {H₀ H : Hp} {pn : List (Addr × Obj)} {σ : L2.St}
/-- the base with three objects more -/
noncomputable def more (base h : Heap) (l : List Addr) : Heap := hidT h (fun b => if (base.get? b).isSome = true ∨ b ∈ l then none else some (.tbl #[]))
theorem more_get {h : Heap} {l : List Addr} {b : Addr} {o : Obj} (e : h.get? b = some o) (hb : (base.get? b).isSome = true ∨ b ∈ l) : (more base h l).get? b = some o := hidT_get e (if_pos hb)
theorem of_more {h : Heap} {l : List Addr} {b : Addr} {o : Obj} (e : (more base h l).get? b = some o) : h.get? b = some o ∧ ((base.get? b).isSome = true ∨ b ∈ l) := by
  obtain ⟨a, c⟩ := of_hidT e
  refine ⟨a, ?_⟩
  by_cases hb : (base.get? b).isSome = true ∨ b ∈ l
  · exact hb
  · rw [if_neg hb] at c; cases c
theorem env_more {pins : List (Addr × Obj)} {l : List Addr} (I : Inv (cxN P w K mg base N qual scope f cd A s₀ H₀ Pl pn) pins σ H s) (hl : ∀ b ∈ l, H b = none ∧ b ≠ s₀.heap.objs.size) :
    Env0 P w K mg (more base s.heap l) (A.deeper (envOfC qual scope s₀.heap.objs.size f cd)) [envOfC qual scope s₀.heap.objs.size f cd] s H := by
  have sub : ∀ b o, base.get? b = some o → (more base s.heap l).get? b = some o := fun b o e => more_get (I.bk b o e) (.inl (by rw [e]; rfl))
  refine ⟨I.ok.frames, ⟨I.ok.mod.kin.keeps sub, I.ok.mod.glob.keeps sub, let ⟨mb, a, b⟩ := I.ok.mod.blt; ⟨mb, a.keeps sub, b⟩, I.ok.mod.nolimit.keeps sub⟩, fun b o e => ?_, Nat.le_of_eq (hidT_size _ _), ?_, I.stkFree, I.hok, I.bare⟩
  · obtain ⟨e1, h⟩ := of_more e
    refine ⟨e1, ?_⟩
    rcases h with h | h
    · obtain ⟨o2, e2⟩ := Option.isSome_iff_exists.mp h
      exact (I.bs b o2 e2).2
    · exact (hl b h).1
  · obtain ⟨m, hn, _⟩ := I.loc
    refine Heap.FunFrames.cons (by rw [show (envOfC qual scope s₀.heap.objs.size f cd).scope.kind = .function from I.ok.kind]; decide) rfl hn ?_ trivial
    cases q : (more base s.heap l).get? s₀.heap.objs.size with
    | none => rfl
    | some o =>
      obtain ⟨_, h⟩ := of_more q
      rcases h with h | h
      · obtain ⟨o2, e2⟩ := Option.isSome_iff_exists.mp h
        have h1 := Heap.lt_size e2
        have h2 : base.objs.size ≤ s₀.heap.objs.size := I.ok.bsz
        exact absurd (Nat.lt_of_lt_of_le h1 h2) (Nat.lt_irrefl _)
      · exact absurd rfl (hl _ h).2
theorem evn_callX {k fk : Nat} {fdk : FuncData} {ps : List Str} {x y : Str} {g c' c0 : Addr} {fo o' : Obj} {j : Nat} {z : Int} {ρ : Ro} {e : Expr} {es : List Expr} {ds fs : List D} {pos p : Pos} {Pf : List D → List D → Prop}
    (hm : mg y = some (.ref fk)) (hkp : PySem.W.keepIn K (.ref fk) = true) (hb : Binds K fdk ps []) (h1 : (g, fo) ∈ pn) (h2 : (c', o') ∈ pn)
    (hj : N[j]? = some x) (hxk : scope.names.lookup x = some .cell) (hρ : ρ[j]? = some (some (.int z))) (hc0 : (envOfC qual scope s₀.heap.objs.size f cd).cells.lookup x = some c0)
    (HF : ∀ (base' : Heap) (uc : Value), K.In base' → base'.Ns mainGlobals mg → base'.get? g = some fo → base'.get? c' = some o' → base'.IsCell c0 (some uc) → RelV (.int z) uc → FnOk P w K mg base' CX0 k fk fdk ps (SpL K Pf))
    (hr : Room k (A.deeper (envOfC qual scope s₀.heap.objs.size f cd))) (ha : EvA (cxN P w K mg base N qual scope f cd A s₀ H₀ Pl pn) (e :: es) ρ ds) (hp : Pf ds fs) (hg : Gl (cxN P w K mg base N qual scope f cd A s₀ H₀ Pl pn) y := by rfl)
    (hdb : (y == ("__debug__" : Str)) = false := by decide) (he : starEach (e :: es) (envOfC qual scope s₀.heap.objs.size f cd) = (false, eval e (envOfC qual scope s₀.heap.objs.size f cd)) :: starEach es (envOfC qual scope s₀.heap.objs.size f cd) := by rfl)
    (hpl : (backTo pos (starEach es (envOfC qual scope s₀.heap.objs.size f cd))).any (·.1) = false := by rfl) :
    EvN (cxN P w K mg base N qual scope f cd A s₀ H₀ Pl pn) (.Call (.Name y p) (e :: es) [] pos) ρ fs := by
  intro pins s σ H Q I hq
  obtain ⟨r, q⟩ := hq
  refine wpAny_Call_Name_kw (ld_glob I hg hm ?_ hdb)
  refine PySem.W.callWith_K (h₀ := base) I.ok.mod.kin hkp (thn (ha pos pins s σ H (fun vs H1 => Same H H1 ∧ IsAll K H1 vs ds) I ⟨r, fun vs H1 s1 h1 => ⟨s1, h1⟩⟩) fun us s1 hu => ?_) he hpl
  obtain ⟨vs, H1, I1, rvs, sm, hvs⟩ := hu
  refine ⟨I1.kIn, ?_⟩
  -- the cell's value
  obtain ⟨vz, ez, iz⟩ := r.val j (.int z) hρ
  cases iz.int_inv
  obtain ⟨m, hn, hloc⟩ := id I1.loc
  obtain ⟨uc, ruc, lk⟩ := hloc j x (.int z) hj ez (.inr (.inl hxk))
  have hcell : s1.heap.IsCell c0 (some uc) := by
    rcases lk with ⟨k1, _⟩ | ⟨_, c, e1, e2⟩
    · have k2 : scope.names.lookup x = some .local := k1
      rw [hxk] at k2
      cases k2
    · have e3 : (envOfC qual scope s₀.heap.objs.size f cd).cells.lookup x = some c := e1
      rw [hc0] at e3
      cases e3
      exact e2
  have p1 := I1.pin (g, fo) (List.mem_append_left _ h1)
  have p2 := I1.pin (c', o') (List.mem_append_left _ h2)
  have E0' := env_more (l := [c0, g, c']) I1 fun b hb => by
    rcases List.mem_cons.mp hb with rfl | hb
    · exact ⟨I1.freeC x b hc0, I1.cne x b hc0⟩
    rcases List.mem_cons.mp hb with rfl | hb
    · exact ⟨p1.2.1, p1.2.2.1⟩
    · obtain rfl : b = c' := by simpa using hb
      exact ⟨p2.2.1, p2.2.2.1⟩
  obtain ⟨oz, hoz, doz⟩ := hcell
  have F := HF (more base s1.heap [c0, g, c']) uc E0'.mod.kin E0'.mod.glob (more_get p1.1 (.inr (by simp))) (more_get p2.1 (.inr (by simp))) ⟨oz, more_get hoz (.inr (by simp)), doz⟩ ruc
  have hsp : SpL K Pf vs H1 Q E0 := ⟨ds, fs, hvs, hp, fun v us H' hv s' e' h' => q v us H' (sm.free hv) (sm.trans s') e' h'⟩
  have hl : us.length = ps.length := by rw [← rvs.length]; exact F.len _ _ _ _ hsp
  refine wpAny_call (codeAny_mono (F.run _ _ s1 H1 ⟨us, []⟩ us vs Q E0 hr E0' (by have := hb s1 us I1.kIn (by simpa using hl); simpa using this) rvs hsp) fun r s' hq => ?_)
  cases r with
  | error e => exact False.elim hq
  | ok fl =>
    cases fl with
    | ret u => exact I1.after hq
    | next => exact False.elim hq
    | brk => exact False.elim hq
    | cont => exact False.elim hq
end
end FN
/-! ### a law with an inner def: its call, and the head -/
namespace FN
open PySem PySem.Spec PyProof.Rows L2 FL
/-- the law's call, from any heap behind the top -/
def NestOk (P : Program) (w : World) (K : PySem.W.Frag) (mg : Str → Option Value) (base : Heap) (k : Nat) (f : Addr) (fd : FuncData) (Pf : List Int → Prop) : Prop :=
  ∀ (s : Shared) (H : Hp) (Pl cc a : Addr) (ns : List Int), Room k callerA → Env0 P w K mg base callerA [] s H → fd.code = .ref cc → Nst base mg Pl cc → s.heap.get? Pl = some (tabO #[]) → H Pl = none → SqL K H a (ns.map V.int) → Pf ns →
    codeAny (model P w) callerA (.call (.ref f) ⟨[.ref a], []⟩) (fun r s' => r = .ok (.ret (.bool true)) ∧ s'.os = s.os ∧ AllBare s'.gens ∧ (∃ ps, s'.heap.get? Pl = some (tabO ps)) ∧ ∃ H', Un [] [Pl] H H' s.heap s'.heap ∧ HOk P w H' s'.heap) s
section
variable {P : Program} {w : World} {K : PySem.W.Frag} {mg : Str → Option Value} {base : Heap}
theorem nest_ok {N : List Str} {st : Stmt} {f : Addr} {fd : FuncData} {k : Nat} {x0 name p x : Str} {ppos pos : Pos} {pre suf ibody : List Stmt} {sc : Scope} {i : Nat} {c0 : Addr → Addr} {Pf : List Int → Prop} (Mid : List Int → Ro → Prop)
    (F : Fun K "law" "law" st f fd) (S : FnScope N [x0] (defScope st)) (hb : ∀ (s : Shared) (u : Value), BindsTo s fd ⟨[u], []⟩ [(x0, u)])
    (hbody : defBody st = pre ++ .FunctionDef name ⟨[], [⟨p, none, ppos⟩], none, [], [], none, []⟩ ibody [] none [] sc none name pos :: suf)
    (hi : N[i]? = some name) (hx : (defScope st).names.lookup name = some .local) (hcl : ∀ L f cd, closureFor sc (envOfC "law" (defScope st) L f cd) = pure [(x, c0 L)])
    (hq : ∀ L f cd, qualnameIn (envOfC "law" (defScope st) L f cd) name name = "law" ++ ".<locals>." ++ name)
    (hA : ∀ (cd : Value) (s : Shared) (H : Hp) (Pl : Addr), Room k (callerA.deeper (envOfC "law" (defScope st) s.heap.objs.size f cd)) → ∀ ns, Pf ns →
      Do (cxN P w K mg base N "law" (defScope st) f cd callerA s H Pl [(Pl, tabO #[])]) pre (ini N [.ls (ns.map D.int)]) { nx := Mid ns, rt := fun d => d = .bl true })
    (hB : ∀ (cd : Value) (s : Shared) (H : Hp) (Pl : Addr), Room k (callerA.deeper (envOfC "law" (defScope st) s.heap.objs.size f cd)) → ∀ ns ρ, Pf ns → Mid ns ρ → ∀ (g c' T : Addr) (pm doc : Value) (o' : Obj) (ps : Array Value),
      (∃ vs t, o'.data = .fields vs ∧ vs[1]? = some (.str ("law" ++ ".<locals>." ++ name) t)) →
      Do (cxN P w K mg base N "law" (defScope st) f cd callerA s H Pl [(Pl, tabO ps), (g, { cls := .type "function", data := .func (clFd name ("law" ++ ".<locals>." ++ name) ⟨[], [⟨p, none, ppos⟩], none, [], [], none, []⟩ ibody sc mainGlobals x (c0 s.heap.objs.size) T pm (.ref c') doc) }), (c', o')])
        suf (ρ.set i (some (.ob g))) { nx := fun _ => False, rt := fun d => d = .bl true }) : NestOk P w K mg base (k + 1) f fd Pf := by
  intro s H Pl cc a ns hr e0 hcc B hPl hH hS hpf
  obtain ⟨oc, od, kV, doc, pm, an, cdv, ct, osl, rfl, lk, hcd⟩ := F.ex
  have hcv : cdv = .ref cc := hcc
  subst hcv
  have KX : K.In s.heap := e0.mod.kin.keeps fun b o e => (e0.bs b o e).1
  have lim : s.heap.NoLimit := e0.mod.nolimit.keeps fun b o e => (e0.bs b o e).1
  have hkind : ∀ y ∈ [x0].zip [Value.ref a], (defScope st).names.lookup y.1 = some .local ∨ ((defScope st).names.lookup y.1 = some .cell ∧ ((cellsFrom (s.heap.objs.size + 1) (defScope st).names []).lookup y.1).isSome = true) := fun ⟨n, v⟩ hy => by
    rcases S.par n (List.of_mem_zip hy).1 with q | q
    · exact .inl q
    · exact .inr ⟨q, PySem.W.cellsFrom_some _ _ _ (.inl q)⟩
  refine codeAny_call_function hr.depth (KX _ _ lk) rfl S.co S.gen rfl (PySem.W.codeRec_of KX hcd) (hb s (.ref a) _ _ _ _ ?_)
  refine wpAny_newFunctionEnv_cells S.kind hkind fun env he s1 xx => ?_
  subst he
  refine ⟨lim.keeps xx.toInCall.keep, codeAny_func ?_⟩
  have I : Inv (cxOf CX0 P w K mg base N "law" (defScope st) f (.ref cc) callerA [] s H E0) [] (start N [.ref a]) H s1 := inv_start (ps := [x0]) (us := [.ref a]) S hr.hd e0 rfl (.cons rfl .nil) xx
  have hlt := Heap.lt_size hPl
  have I1 : Inv (cxN P w K mg base N "law" (defScope st) f (.ref cc) callerA s H Pl [(Pl, tabO #[])]) [] (start N [.ref a]) H s1 := by
    refine ⟨⟨I.ok.mod, I.ok.kind, I.ok.glob, I.ok.blt, I.ok.above, I.ok.inj, I.ok.has, I.ok.cab, I.ok.hd, I.ok.frames, I.ok.stk, fun b hb => ?_, I.ok.bs, I.ok.bsz, fun b o e hb => ?_, fun b _ z => absurd (show b ∈ ([] : List Addr) from z) (by simp), I.ok.funs, I.ok.frf⟩,
      I.os, I.bare, I.base.mono (fun _ z => z) (fun b z => absurd (show b ∈ ([] : List Addr) from z) (by simp)), I.loc, I.cell, I.free, I.freeC, fun q hq => ?_, I.hok, I.len⟩
    · obtain rfl : b = Pl := by simpa [cxN] using hb
      refine ⟨Nat.ne_of_lt hlt, fun y c e => ?_⟩
      have h1 : s.heap.objs.size ≤ c := I.ok.cab y c rfl e
      exact Nat.ne_of_gt (Nat.lt_of_lt_of_le hlt h1)
    · obtain rfl : b = Pl := by simpa [cxN] using hb
      have e' : base.get? b = some o := e
      rw [B.no] at e'
      cases e'
    · obtain rfl : q = (Pl, tabO #[]) := by simpa [cxN] using hq
      exact ⟨xx.toInCall.keep _ _ hPl, hH, Nat.ne_of_lt hlt, fun z => absurd (show Pl ∈ ([] : List Addr) from z) (by simp), fun v z => by cases z⟩
  have hrd := hr.deeper (envOfC "law" (defScope st) s.heap.objs.size f (.ref cc))
  have hd0 : IsAll K H [.ref a] [.ls (ns.map D.int)] := .cons (.ls hS (IsAll.ints ns)) .nil
  have rel0 : RelS (cxN P w K mg base N "law" (defScope st) f (.ref cc) callerA s H Pl [(Pl, tabO #[])]) H H (start N [.ref a]) (ini N [.ls (ns.map D.int)]) :=
    relS_start (X := cxN P w K mg base N "law" (defScope st) f (.ref cc) callerA s H Pl [(Pl, tabO #[])]) hd0 (fun a es z => by simp at z)
  show wpAny (model P w) (callerA.deeper (envOfC "law" (defScope st) s.heap.objs.size f (.ref cc))) (execs (defBody st) (envOfC "law" (defScope st) s.heap.objs.size f (.ref cc))) _ _ s1
  rw [hbody]
  refine wp_app (wpAny_mono (hA (.ref cc) s H Pl hrd ns hpf [] s1 _ H { nx := fun σ' H' => ∃ ρ, RelS (cxN P w K mg base N "law" (defScope st) f (.ref cc) callerA s H Pl [(Pl, tabO #[])]) H H' σ' ρ ∧ Mid ns ρ, rt := fun v _ => v = .bl true } I1
    ⟨rel0, fun σ' H' ρ' _ r' z => ⟨ρ', r', z⟩, fun v H' d _ hv _ z => ?_, fun _ _ _ _ _ z => z.elim, fun _ _ _ _ _ z => z.elim⟩) (fun fl s2 q => ?_) fun _ _ z => z.elim)
  · have z' : d = .bl true := z
    subst z'
    exact hv.bl_inv
  have fin : ∀ {pn : List (Addr × Obj)} {σ' : L2.St} {H' : Hp} {s' : Shared} {v : V} {u : Value} {ps : Array Value}, Inv (cxN P w K mg base N "law" (defScope st) f (.ref cc) callerA s H Pl ((Pl, tabO ps) :: pn)) [] σ' H' s' → RelV v u → v = .bl true →
      ((.ok (.ret u) : Result) = .ok (.ret (.bool true)) ∧ s'.os = s.os ∧ AllBare s'.gens ∧ (∃ ps, s'.heap.get? Pl = some (tabO ps)) ∧ ∃ H', Un [] [Pl] H H' s.heap s'.heap ∧ HOk P w H' s'.heap) := fun {pn σ' H' s' v u ps} J rv q => by
    subst q
    obtain rfl : u = Value.bool true := rv
    exact ⟨rfl, J.os, J.bare, ⟨ps, (J.pin (Pl, tabO ps) (by simp [cxN])).1⟩, H', J.base, J.hok⟩
  cases fl with
  | ret u =>
    obtain ⟨v, σ', H', J, rv, q⟩ := q
    exact fin J rv q
  | brk => obtain ⟨_, _, _, q⟩ := q; exact False.elim q
  | cont => obtain ⟨_, _, _, q⟩ := q; exact False.elim q
  | next =>
    obtain ⟨σ2, H2, I2, ρ, r2, mid⟩ := q
    refine wpAny_execs_cons (exec_inner (c0 := c0 s.heap.objs.size) I2 B S.nd hi hx (hcl _ _ _) (hq _ _ _) fun s3 g c' T pm' doc' o' ps hcode I3 => ?_)
    have hn : i < σ2.length := by
      rw [I2.len]
      exact (List.getElem?_eq_some_iff.mp hi).1
    have r3 : RelS (cxN P w K mg base N "law" (defScope st) f (.ref cc) callerA s H Pl [(Pl, tabO ps), (g, { cls := .type "function", data := .func (clFd name ("law" ++ ".<locals>." ++ name) ⟨[], [⟨p, none, ppos⟩], none, [], [], none, []⟩ ibody sc mainGlobals x (c0 s.heap.objs.size) T pm' (.ref c') doc') }), (c', o')]) H H2
        (σ2.set i (some (.ref g))) (ρ.set i (some (.ob g))) := by
      have r2' : RelS (cxN P w K mg base N "law" (defScope st) f (.ref cc) callerA s H Pl [(Pl, tabO ps), (g, { cls := .type "function", data := .func (clFd name ("law" ++ ".<locals>." ++ name) ⟨[], [⟨p, none, ppos⟩], none, [], [], none, []⟩ ibody sc mainGlobals x (c0 s.heap.objs.size) T pm' (.ref c') doc') }), (c', o')]) H H2 σ2 ρ := ⟨r2.same, r2.len, r2.val, r2.own⟩
      exact r2'.set (.ob g) i (.inl (.ob g)) fun a ds z => by cases z
    refine wpAny_mono (hB (.ref cc) s H Pl hrd ns ρ hpf mid g c' T pm' doc' o' ps hcode [] s3 _ H2 { nx := fun _ _ => False, rt := fun v _ => v = .bl true } I3
      ⟨r3, fun _ _ _ _ _ z => z.elim, fun v H' d _ hv _ z => ?_, fun _ _ _ _ _ z => z.elim, fun _ _ _ _ _ z => z.elim⟩) (fun fl s' hs' => ?_) fun _ _ z => z.elim
    · have z' : d = .bl true := z
      subst z'
      exact hv.bl_inv
    cases fl with
    | ret u =>
      obtain ⟨v, σ', H', J, rv, q⟩ := hs'
      exact fin J rv q
    | next => obtain ⟨_, _, _, q⟩ := hs'; exact False.elim q
    | brk => obtain ⟨_, _, _, q⟩ := hs'; exact False.elim q
    | cont => obtain ⟨_, _, _, q⟩ := hs'; exact False.elim q
end
end FN
namespace FN
open PySem PySem.Spec PyProof.Rows L2 FL
/-- no table of a code object is written out -/
def noTab (K : PySem.W.Frag) : Bool := K.all fun p => match p.2.cls, p.2.data with
  | .none, .fields _ => false
  | _, _ => true
theorem mem_of_look : ∀ {K : PySem.W.Frag} {a : Addr} {o : Obj}, K.lookup a = some o → (a, o) ∈ K
  | [], _, _, e => by cases e
  | (b, x) :: r, a, o, e => by
    rw [List.lookup_cons] at e
    cases hb : a == b with
    | true => rw [hb] at e; cases e; rw [eq_of_beq hb]; exact .head _
    | false => rw [hb] at e; exact .tail _ (mem_of_look e)
theorem walk_nest {l : PySem.W.OpenLaw} {n k : Nat} {q : Program} {loose : List Str} {XP : (Str → Option Value) → Heap → Prop} {YP : World → Heap → Prop} {d : DefRec} {K : Params → PySem.W.Frag} {Pf : List Int → Prop}
    (hn : l.most = some n) (hn2 : n ≤ sizeLine) (hdf : d.params.defaults = []) (hr : Room k callerA) (hY : ∀ (w : World) (h : Heap), YP w h → (K w.params).In h) (hdm : d ∈ recsOf q) (hT : ∀ w : World, noTab (K w.params) = true)
    (F : ∀ (w : World) (mg : Str → Option Value) (fa : Addr) (h : Heap), (K w.params).In h → h.Ns mainGlobals mg → mg d.name = some (.ref fa) →
      ∃ fd : FuncData, (∃ o, h.get? fa = some o ∧ o.data = .func fd) ∧ ∀ base : Heap, (K w.params).In base → base.Ns mainGlobals mg → NestOk l.prog w (K w.params) mg base k fa fd Pf)
    (hsp : ∀ (ns : List Int), ns.length ≤ n → (∀ z ∈ ns, Builtin.Int.intBits z ≤ 1048576) → Pf ns) :
    PySem.W.WalkO q loose XP YP l.row.toRowW d [] (fun f vs => PySem.call f vs) := by
  intro w s₀ s₁ mg mb G Y fa o pm cd doc dV kV ho hd hcd hD hmg hg args vals as hpre hlay hrd hwl hlo
  obtain rfl : dV = .none := PySem.W.Dflts.none hD hdf
  obtain rfl : kV = .none := PySem.W.Dflts.noKw hD
  obtain ⟨a, vs, ns, rfl, rfl, hobj, hints, hlen⟩ := Att.script_of hn hpre hwl
  have hbits := bits_of_lay hlay
  have KX := hY w _ Y
  obtain ⟨fd, ⟨of, hof, dof⟩, hF⟩ := F w mg fa _ KX G.T.g hmg
  obtain ⟨a', oa, fd', c, Pl, t1, t2, t3, t4, t5, t6⟩ := G.T.tab d hdm
  have ea : a' = fa := by rw [hmg] at t1; cases t1; rfl
  subst ea
  have ef : fd' = fd := by
    rw [hof] at t2; cases t2
    rw [dof] at t3; cases t3; rfl
  subst ef
  have hPl : s₁.heap.get? Pl = some (tabO #[]) := t6.2
  have neA : ∀ {b : Addr} {o : Obj}, s₁.heap.get? b = some o → (∀ z n, o.data ≠ .seq z n) → b ≠ a := fun {b o} e h z => by
    subst z
    rw [hobj] at e; cases e
    exact h _ _ rfl
  have neP : ∀ {b : Addr} {o : Obj}, s₁.heap.get? b = some o → (∀ z, o.data ≠ .fields z) → b ≠ Pl := fun {b o} e h z => by
    subst z
    rw [hPl] at e; cases e
    exact h _ rfl
  have core : ∀ H : Hp, Only H → SqL (K w.params) H a (ns.map V.int) → HOk l.prog w H s₁.heap → (∀ b, H b ≠ none → b = a) → (H a ≠ none → (K w.params).lookup a = none) →
      codeAny (model l.prog w) callerA (.call (.ref a') ⟨[.ref a], []⟩) (fun r s' => r = .ok (.ret (.bool true)) ∧ OldK s₁.heap s'.heap ∧ s'.os = s₁.os ∧ AllBare s'.gens) s₁ := by
    intro H hO hS hok hA hK
    have noA : ∀ {b : Addr}, b ≠ a → H b = none := fun {b} hb => by
      cases q : H b with
      | none => rfl
      | some u => exact absurd (hA b (by rw [q]; simp)) hb
    have hP0 : H Pl = none := noA (neA hPl fun z n q => by cases q)
    have base_of : ∀ {b : Addr} {o : Obj}, s₁.heap.get? b = some o → H b = none → b ≠ Pl → (hidT s₁.heap (fun b => if b = Pl then some (.tbl #[]) else H b)).get? b = some o := fun e n hb => hidT_get e (by rw [if_neg hb]; exact n)
    have of_base : ∀ {b : Addr} {o : Obj}, (hidT s₁.heap (fun b => if b = Pl then some (.tbl #[]) else H b)).get? b = some o → s₁.heap.get? b = some o ∧ H b = none ∧ b ≠ Pl := fun {b o} e => by
      obtain ⟨e1, e2⟩ := of_hidT e
      by_cases hb : b = Pl
      · rw [if_pos hb] at e2; cases e2
      · rw [if_neg hb] at e2; exact ⟨e1, e2, hb⟩
    have nsK : ∀ {b : Addr} {m : Str → Option Value}, s₁.heap.Ns b m → (hidT s₁.heap (fun b => if b = Pl then some (.tbl #[]) else H b)).Ns b m := fun {b m} ⟨o, es, ep, e, dd, r⟩ =>
      ⟨o, es, ep, base_of e (noA (neA e fun z n q => by rw [dd] at q; cases q)) (neP e fun z q => by rw [dd] at q; cases q), dd, r⟩
    have hKb : (K w.params).In (hidT s₁.heap (fun b => if b = Pl then some (.tbl #[]) else H b)) := fun b o e => by
      have e1 := KX b o e
      refine base_of e1 ?_ ?_
      · cases q : H b with
        | none => rfl
        | some u =>
          have e' : b = a := hA b (by rw [q]; simp)
          subst e'
          rw [hK (by rw [q]; simp)] at e; cases e
      · intro z
        subst z
        rw [hPl] at e1
        cases e1
        have h2 := List.all_eq_true.mp (hT w) (b, tabO #[]) (mem_of_look e)
        exact absurd (show false = true from h2) Bool.false_ne_true
    have hM : Mod (K w.params) mg (hidT s₁.heap (fun b => if b = Pl then some (.tbl #[]) else H b)) := ⟨hKb, nsK G.T.g, ⟨mb, nsK G.T.b, G.T.builtins⟩, let ⟨mc, h1, h2⟩ := G.T.nolimit; ⟨mc, nsK h1, h2⟩⟩
    have e0 : Env0 l.prog w (K w.params) mg (hidT s₁.heap (fun b => if b = Pl then some (.tbl #[]) else H b)) callerA [] s₁ H :=
      ⟨rfl, hM, fun b o e => ⟨(of_base e).1, (of_base e).2.1⟩, Nat.le_of_eq (hidT_size _ _), trivial, fun b hb => absurd (show b ∈ ([] : List Addr) from hb) (by simp), hok, .of_eq hg⟩
    have hB : Nst (hidT s₁.heap (fun b => if b = Pl then some (.tbl #[]) else H b)) mg Pl c := by
      refine ⟨fun h' sub hP' => ⟨?_, ?_⟩, ?_, ?_, ?_⟩
      · obtain ⟨o, vs, file, tf, flags, tg, inF, text, tt, op, a1, r1, r2, r3, r4, r5, r6, b1, b2, b3, b4⟩ := t5
        exact ⟨o, vs, file, tf, flags, tg, inF, text, tt, tabO #[], sub _ _ (base_of a1 (noA (neA a1 fun z n q => by rw [r1] at q; cases q)) b4), r1, r2, r3, r4, r5, r6, hP', rfl, b3, b4⟩
      · obtain ⟨⟨o, vs, e1, e2, e3, e4⟩, _⟩ := t6
        have hne : c ≠ Pl := fun z => by
          subst z
          rw [hPl] at e1; cases e1; cases e2
        exact ⟨⟨o, vs, sub _ _ (base_of e1 (noA (neA e1 fun z n q => by rw [e3] at q; cases q)) hne), e2, e3, e4⟩, hP'⟩
      · obtain ⟨bm, ob, m1, m2, m3, m4, m5, m6⟩ := G.T.bmain
        have hne : bm ≠ Pl := neP m3 fun z q => by rw [m6] at q; cases q
        refine ⟨bm, ob, m1, m2, fun z => ?_, hne, base_of m3 (noA (neA m3 fun z n q => by rw [m6] at q; cases q)) hne, m4, m5, m6⟩
        obtain ⟨og, es, ep, eg, dg, _⟩ := G.T.g
        subst z
        rw [eg] at m3; cases m3
        rw [dg] at m6; cases m6
      · obtain ⟨og, es, ep, eg, dg, _⟩ := G.T.g
        exact neP eg fun z q => by rw [dg] at q; cases q
      · cases q : (hidT s₁.heap (fun b => if b = Pl then some (.tbl #[]) else H b)).get? Pl with
        | none => rfl
        | some o => exact absurd rfl (of_base q).2.2
    refine codeAny_mono (hF _ hKb (nsK G.T.g) s₁ H Pl c a ns hr e0 t4 hB hPl hP0 hS (hsp ns hlen hbits)) fun r s' h => ?_
    obtain ⟨rfl, os, bare, ⟨ps, hps⟩, H', un, hok'⟩ := h
    have keep : ∀ b o, b ≠ Pl → s₁.heap.get? b = some o → s'.heap.get? b = some o := fun b o hb e => by
      cases q : H b with
      | none => exact un.keep b o e q (by simp) (by simpa using hb)
      | some u =>
        rcases hO b with z | ⟨ob, xs, z⟩
        · rw [q] at z; cases z
        · have z2 := un.frzs b ob _ z
          obtain ⟨e1, _⟩ := hok b _ z
          obtain ⟨e2, _⟩ := hok' b _ z2
          rw [e] at e1; cases e1
          exact e2
    refine ⟨rfl, ⟨fun b o e => ?_, fun b o e => ?_⟩, os, bare⟩
    · by_cases hb : b = Pl
      · subst hb
        rw [hPl] at e; cases e
        exact .inr (.inl ⟨t6.isCodeTable, rfl, #[], ps, rfl, by rw [hps]; simp⟩)
      · exact .inl (keep b o hb e)
    · by_cases hb : b = Pl
      · subst hb; exact ⟨_, hps⟩
      · exact ⟨o, keep b o hb e⟩
  have rv := vals_ints hints
  have lenV := hints.length
  have hc : codeAny (model l.prog w) callerA (.call (.ref a') ⟨[.ref a], []⟩) (fun r s' => r = .ok (.ret (.bool true)) ∧ OldK s₁.heap s'.heap ∧ s'.os = s₁.os ∧ AllBare s'.gens) s₁ := by
    have hl := Nat.le_trans hlen hn2
    cases hk : (K w.params).lookup a with
    | some o =>
      have e := KX a o hk
      rw [hobj] at e
      cases e
      refine core (fun _ => none) (fun _ => .inl rfl) (.inr ⟨_, vs.toArray, _, hk, rfl, rfl, rfl, by rw [List.size_toArray, lenV]; exact hl, by simpa using rv⟩) (fun b u z => by have z' : (none : Option HO) = some u := z; cases z') (fun b z => absurd rfl z) fun z => absurd rfl z
    | none =>
      refine core (fun b => if b = a then some (.frz { cls := .type "list", data := .seq vs.toArray } (.lst (ns.map V.int))) else none) (fun b => ?_) (.inl (.inr ⟨{ cls := .type "list", data := .seq vs.toArray }, if_pos rfl⟩)) (fun b u z => ?_) (fun b z => ?_) fun _ => hk
      · by_cases hb : b = a
        · exact .inr ⟨_, _, if_pos hb⟩
        · exact .inl (if_neg hb)
      · by_cases hb : b = a
        · have z' := (if_pos hb).symm.trans z
          cases z'
          subst hb
          exact ⟨hobj, by rw [List.length_map]; exact hl, vs, _, rv, hobj⟩
        · have z' := (if_neg hb).symm.trans z
          cases z'
      · by_cases hb : b = a
        · exact hb
        · exact absurd (if_neg hb) z
  refine PySem.W.enter_call (codeAny_mono hc fun r s' hq => ?_)
  obtain ⟨rfl, h2, h3, h4⟩ := hq
  exact ⟨.inl ⟨.bool true, .bool true, [], rfl, fun _ => rfl, .bool true, Att.post_true l _, fun _ => ⟨List.Pairwise.nil, fun _ hm => (nomatch hm)⟩⟩, h2, h3, h4⟩
end FN

/-! FZ: int(bool), a tuple's part, list(xs), xs.clear() -/
namespace FL
open PySem PySem.Spec PyProof.Rows L2
section
variable {X : Cx} {e a b c : Expr} {es : List Expr} {ρ : Ro} {d d' : D} {ds gs : List D} {pos : Pos} {i j : Int} {k : Bool} {rest : List Stmt} {P : Po}
theorem ev_intB {p : Pos} (hm : X.mg "int" = none) (ha : Ev X a ρ (.bl k)) (hg : Gl X "int" := by rfl) (he : starEach [a] X.env = [(false, eval a X.env)] := by rfl) : Ev X (.Call (.Name "int" p) [a] [] pos) ρ (.int (if k then 1 else 0)) :=
  PE.imp (pe_callTy call_int1 hg hm bo_int (ea_cons ha ea_nil he) (by decide) (by decide) he rfl) fun σ H Q ⟨r, q⟩ => ⟨r, fun vs H1 s1 h1 => by
    obtain ⟨v, rfl, h⟩ := one_inv h1
    cases h.bl_inv
    exact .inr ⟨k, rfl, q _ H1 s1 (.int _)⟩⟩
theorem ev_sliceT {lo hi : Option Expr} {l u : Option Int} {p2 : Pos} (he : Ev X e ρ (.tup ds)) (hl : EvO X lo ρ l) (hu : EvO X hi ρ u) (hw : ¬ (HT.sIx ds.length 0 l = 0 ∧ HT.sIx ds.length ds.length u = ds.length)) :
    Ev X (.Subscript e (.Slice lo hi none p2) pos) ρ (.tup (cutD ds l u)) := by
  refine PE.imp (pe_slice sl_tup he hl hu) ?_
  rintro σ H Q ⟨r, q⟩
  refine ⟨r, fun v H1 s1 h1 => ⟨r.mono s1, fun H2 s2 => ⟨r.mono (s1.trans s2), fun H3 s3 => ?_⟩⟩⟩
  obtain ⟨a, xs, rfl, hT, hA⟩ := (h1.mono (s2.trans s3)).tup_inv
  refine ⟨a, xs, rfl, hT, by rw [hA.length]; exact hw, fun p hp => ?_⟩
  have sm := s1.trans (s2.trans s3)
  exact q (.ref p) _ (sm.trans (same_new hp)) (.tup (.of upd_same) ((hA.mono (same_new hp)).cut l u))
theorem evn_listOf {p : Pos} (hm : X.mg "list" = none) (ha : Ev X a ρ d') (hl : lsD d' = some ds) (hg : Gl X "list" := by rfl) (he : starEach [a] X.env = [(false, eval a X.env)] := by rfl) : EvN X (.Call (.Name "list" p) [a] [] pos) ρ ds :=
  PE.imp (pe_callTy call_list_of hg hm bo_list (ea_cons ha ea_nil he) (by decide) (by decide) he rfl) fun σ H Q ⟨r, q⟩ => ⟨r, fun vs H1 s1 h1 => by
    obtain ⟨v, rfl, h⟩ := one_inv h1
    obtain ⟨a, xs, rfl, h3, h4⟩ := h.lsD_inv hl
    exact ⟨a, xs, rfl, .inl h3, fun l hl => q l xs _ (s1.free hl) (s1.trans (same_new hl)) upd_same (h4.mono (same_new hl))⟩⟩
theorem do_clear (n : Nat) {x : Str} {l : Addr} {p1 p2 p3 : Pos} (hρ : ρ[n]? = some (some (.lst l ds))) (hothers : ∀ (j : Nat) (es : List D), j ≠ n → ρ[j]? ≠ some (some (.lst l es)))
    (h : Do X rest (ρ.set n (some (.lst l []))) P) (hN : X.N[n]? = some x := by rfl) (hv : Vis X.env.scope x := by first | exact Or.inl rfl | exact Or.inr (Or.inl rfl) | exact Or.inr (Or.inr rfl))
    (hd : (x == ("__debug__" : Str)) = false := by decide) (hcd : (x == ("__classdict__" : Str)) = false := by decide)
    (hbase : attributeBase (.Name x p1) "clear" X.env (eval (.Name x p1) X.env) = eval (.Name x p1) X.env := by rfl)
    (hline : (p2.endLine == p3.line) = true := by rfl) (hs : swapsWith (.Call (.Attribute (.Name x p1) "clear" p2) [] [] p3) none pos.line X.env = pure false := by rfl) :
    Do X (.Expr (.Call (.Attribute (.Name x p1) "clear" p2) [] [] p3) pos :: rest) ρ P := by
  refine do_seq (M := fun ρ' => ρ' = ρ.set n (some (.lst l []))) (PS.imp (ps_expr (pe_bm0 PySem.F.plainAttrs_list PySem.F.slot_list_clear PySem.F.type_list_clear mt_clear (pe_var hN hv hd hcd) hbase hline) hs) ?_) (fun _ z => z ▸ h)
  rintro D σ H ⟨r, q1, q2, q3, q4⟩
  obtain ⟨v, e1, h1, h2⟩ := r.val n _ hρ
  obtain ⟨rfl, xs, hT, hA⟩ := h1.lst_inv
  refine ⟨_, e1, .inl ⟨rfl, xs, .of hT⟩, l, xs, rfl, rfl, hT, ?_⟩
  have kt : KT H (upd H l (.lst [])) :=
    ⟨fun b xs h => by rw [upd_ne (ne_of h hT (by intro z; cases z))]; exact h, fun b o u h => by rw [upd_ne (ne_of h hT (by intro z; cases z))]; exact h⟩
  have h0 : X.H₀ l = none := r.own l ⟨n, ds, hρ⟩
  have same : Same X.H₀ (upd H l (.lst [])) := fun b o h => by
    rw [upd_ne (ne_of_none h h0)]
    exact r.same b o h
  have go : Go ρ H (ρ.set n (some (.lst l []))) (upd H l (.lst [])) := by
    refine ⟨fun b o h nm => ?_, ?_⟩
    · have : b ≠ l := fun z => nm (z ▸ ⟨n, ds, hρ⟩)
      rw [upd_ne this]
      exact h
    · rintro a ⟨j, es, hj⟩
      rcases set_get hj with ⟨rfl, z, _⟩ | ⟨_, hj⟩
      · cases z
        exact .inl ⟨_, ds, hρ⟩
      · exact .inl ⟨j, es, hj⟩
  have own : ∀ a, Mu (ρ.set n (some (.lst l []))) a → X.H₀ a = none := by
    rintro a ⟨j, es, hj⟩
    rcases set_get hj with ⟨rfl, z, _⟩ | ⟨_, hj⟩
    · cases z
      exact h0
    · exact r.own a ⟨j, es, hj⟩
  refine q1 _ _ _ go ⟨same, by simp [r.len], fun j e' hj => ?_, own⟩ rfl
  rcases set_get hj with ⟨rfl, rfl, _⟩ | ⟨hne, hj⟩
  · exact ⟨.ref l, e1, .lst upd_same .nil, .inr (.inr ⟨l, _, rfl, fun e' he' => by cases he'⟩)⟩
  · obtain ⟨u, f1, f2, f3⟩ := r.val j e' hj
    refine ⟨u, f1, ?_, f3⟩
    rcases f3 with z | z | ⟨a, es, rfl, z⟩
    · exact f2.keep kt z
    · exact z.mono same
    · obtain ⟨rfl, ys, g1, g2⟩ := f2.lst_inv
      have : a ≠ l := fun z => hothers j es hne (z ▸ hj)
      exact .lst (by rw [upd_ne this]; exact g1) (g2.keep kt z)
end
section
variable {P : Program} {w : World} {K : PySem.W.Frag} {mg : Str → Option Value} {base : Heap}
theorem fnl_ok {x qual : Str} {st : Stmt} {f : Addr} {fd : FuncData} {N ps : List Str} {k : Nat} {Pf : List D → List D → Prop} (F : Fun K x qual st f fd) (S : FnScope N ps (defScope st))
    (hl : ∀ ds es, Pf ds es → ds.length = ps.length ∧ ∀ a fs, D.lst a fs ∉ ds)
    (hbody : ∀ (cdv : Value) (A : Around) (outer : List Env) (s : Shared) (H : Hp) (E : XK), Room k (A.deeper (envOfC qual (defScope st) s.heap.objs.size f cdv)) → ∀ ds es, Pf ds es →
      Do (cxD P w K mg base N qual st f cdv A outer s H E) (defBody st) (ini N ds) { nx := fun _ => False, rt := fun d' => ∃ l, d' = .lst l es }) : FnOk P w K mg base CX0 (k + 1) f fd ps (SpL K Pf) := by
  refine F.ok S (fun vs H Q E h => ?_) (fun cdv A outer s H vs Q E hr h => ?_)
  · obtain ⟨ds, es, h1, h2, _⟩ := h
    rw [h1.length]
    exact (hl ds es h2).1
  · obtain ⟨ds, es, h1, h2, q⟩ := h
    refine ⟨_, hbody cdv A outer s H E hr ds es h2, ?_⟩
    refine ⟨relS_start (X := cxD P w K mg base N qual st f cdv A outer s H E) h1 (hl ds es h2).2, fun _ _ _ _ _ z => z.elim, fun v H' d' sm hv fr z => ?_, fun _ _ _ _ _ z => z.elim, fun _ _ _ _ _ z => z.elim⟩
    obtain ⟨l, z⟩ : ∃ l, d' = .lst l es := z
    subst z
    obtain ⟨rfl, us, e1, e2⟩ := hv.lst_inv
    exact q l us H' (fr l es rfl) sm e1 e2
end
end FL

/-! the mathematics of k03 -/
namespace M
theorem fmod_gcd (a b : Int) : Int.gcd b (a.fmod b) = Int.gcd a b := by
  rw [Int.fmod_def, Int.gcd_sub_mul_left_right, Int.gcd_comm]
theorem emod_gcd (a b : Int) : Int.gcd b (a % b) = Int.gcd a b := by
  rw [Int.emod_def, Int.gcd_sub_mul_left_right, Int.gcd_comm]
theorem fmod_lt (a : Int) {b : Int} (h : b ≠ 0) : (a.fmod b).natAbs < b.natAbs := by
  rcases Int.lt_or_gt_of_ne h with h | h
  · have e : a.fmod b = -((-a).fmod (-b)) := by rw [Int.neg_fmod_neg]; omega
    have h1 := Int.fmod_nonneg_of_pos (-a) (show 0 < -b by omega)
    have h2 := Int.fmod_lt_of_pos (-a) (show 0 < -b by omega)
    omega
  · have h1 := Int.fmod_nonneg_of_pos a h
    have h2 := Int.fmod_lt_of_pos a h
    omega
theorem gcd_abs (a b : Int) : Int.gcd (a.natAbs : Int) (b.natAbs : Int) = Int.gcd a b := by
  simp [Int.gcd]
end M

/-! MT: forms, turnings, least forms: the mathematics -/
namespace MT
/-- a least form -/
structure Least (a b c : Int) : Prop where
  lo : -a < b
  hi : b ≤ a
  ac : a ≤ c
  eq : a = c → 0 ≤ b
theorem sq_pos {x : Int} (h : x ≠ 0) : 1 ≤ x * x := by
  rcases Int.lt_or_gt_of_ne h with h | h
  · have := Int.mul_pos (show 0 < -x by omega) (show 0 < -x by omega)
    grind
  · have := Int.mul_pos h h
    omega
theorem sq_nonneg (x : Int) : 0 ≤ x * x := by
  by_cases h : x = 0
  · subst h; decide
  · have := sq_pos h; omega
theorem mul_nn {x y : Int} (hx : 0 ≤ x) (hy : 0 ≤ y) : 0 ≤ x * y := Int.mul_nonneg hx hy
end MT
namespace MT
/-- least, as an answer -/
def leastB (a b c : Int) : Bool := decide (-a < b) && decide (b ≤ a) && decide (a ≤ c) && (decide (a ≠ c) || decide (0 ≤ b))
theorem leastB_iff {a b c : Int} : leastB a b c = true ↔ Least a b c := by
  unfold leastB
  simp only [Bool.and_eq_true, Bool.or_eq_true, decide_eq_true_eq]
  constructor
  · rintro ⟨⟨⟨h1, h2⟩, h3⟩, h4⟩
    exact ⟨h1, h2, h3, fun z => by rcases h4 with h | h <;> omega⟩
  · rintro ⟨h1, h2, h3, h4⟩
    refine ⟨⟨⟨h1, h2⟩, h3⟩, ?_⟩
    by_cases z : a = c
    · exact .inr (h4 z)
    · exact .inl z
/-- the numbers of a least form are no greater than its bar -/
theorem least_small {a b c : Int} (ha : 0 < a) (L : Least a b c) : a ≤ 4 * a * c - b * b ∧ c ≤ 4 * a * c - b * b ∧ b.natAbs ≤ (4 * a * c - b * b).natAbs := by
  have lo := L.lo
  have hi := L.hi
  have ac := L.ac
  have h1 := mul_nn (show 0 ≤ a - b by omega) (show 0 ≤ a + b by omega)
  have h2 := mul_nn (Int.le_of_lt ha) (show 0 ≤ c - a by omega)
  have h3 := mul_nn (show 0 ≤ a - 1 by omega) (show 0 ≤ c by omega)
  have h4 : 3 * (a * c) ≤ 4 * a * c - b * b := by grind
  have h5 : c ≤ a * c := by grind
  omega
end MT
namespace MT
/-- a measure of how far a form is from a least one -/
def meas (x y z : Int) : Nat := 3 * x.natAbs + (if -x < y ∧ y ≤ x then (if x = z ∧ y < 0 then 1 else 0) else 2)
end MT

/-! MO: a least form's own turnings -/
namespace MT
end MT

/-! CM: what the laws of this program have in common, without a row: promises of defs, what the script draws -/
namespace CM
open PySem PySem.Spec L2 FL
/-! ### formturn.whole -/
def p_is_whole (ds : List D) (d : D) : Prop := ∃ i : Int, ds = [.int i] ∧ d = .bl true
def p_is_whole_tuple (ds : List D) (d : D) : Prop := ∃ ns : List Int, ds = [.tup (ns.map D.int), .int (ns.length : Int)] ∧ ns.length ≤ 1000 ∧ d = .bl true
def p_common_divisor (ds : List D) (d : D) : Prop := ∃ a b : Int, ds = [.int a, .int b] ∧ d = .int (Int.gcd a b : Int)
/-! ### formturn.forms -/
def p_bar_of_numbers (ds : List D) (d : D) : Prop := ∃ a b c : Int, ds = [.int a, .int b, .int c] ∧ Bd a 8000 ∧ Bd b 8000 ∧ Bd c 8000 ∧ d = .int (b * b - 4 * a * c)
/-- the numbers of a form, of moderate size -/
structure FormN (a b c : Int) : Prop where
  pos : 0 < a
  bar : b * b - 4 * a * c < 0
  sa : Bd a 8000
  sb : Bd b 8000
  sc : Bd c 8000
abbrev formD (a b c : Int) : D := .tup [.int a, .int b, .int c]
def p_is_form (ds : List D) (d : D) : Prop := ∃ a b c : Int, ds = [formD a b c] ∧ FormN a b c ∧ d = .bl true
def p_require_form (ds : List D) (d : D) : Prop := ∃ a b c : Int, ds = [formD a b c] ∧ FormN a b c ∧ d = .non
def p_is_bare (ds : List D) (d : D) : Prop := ∃ a b c : Int, ds = [formD a b c] ∧ FormN a b c ∧ d = .bl (decide ((Int.gcd (Int.gcd a b) c : Int) = 1))
/-! ### the law's own defs -/
def p_law_ints (ds : List D) (d : D) : Prop := ∃ ns : List Int, ds = [.tup (ns.map D.int), .int (ns.length : Int)] ∧ d = .bl true
/-- a cell of the script -/
abbrev cell (ns : List Int) (k : Nat) : Int := ns.getD k 0
abbrev scrD (ns : List Int) : D := .ls (ns.map D.int)
def p_law_cell_at (ds : List D) (d : D) : Prop := ∃ (ns : List Int) (k : Nat), ds = [scrD ns, .int (k : Int)] ∧ d = .int (cell ns k)
def Sizes (ns : List Int) : Prop := ∀ k : Nat, Bd (cell ns k) 1048576
def p_law_divisor (ds : List D) (d : D) : Prop := ∃ a b : Int, ds = [.int a, .int b] ∧ d = .int (Int.gcd a b : Int)
theorem fz_ints (ns : List Int) : Fz (.tup (ns.map D.int)) := .tup fun d hd => by
  obtain ⟨z, _, rfl⟩ := List.mem_map.mp hd
  exact .int z
theorem fz3 (a b c : Int) : Fz (formD a b c) := fz_ints [a, b, c]
/-- what the built-in names mean -/
structure Tx (mg : Str → Option Value) : Prop where
  abs : mg "abs" = none
  all : mg "all" = none
  any : mg "any" = none
  bool : mg "bool" = none
  dict : mg "dict" = none
  enumerate : mg "enumerate" = none
  int : mg "int" = none
  isi : mg "isinstance" = none
  len : mg "len" = none
  list : mg "list" = none
  max : mg "max" = none
  min : mg "min" = none
  range : mg "range" = none
  reversed : mg "reversed" = none
  sorted : mg "sorted" = none
  str : mg "str" = none
  sum : mg "sum" = none
  tuple : mg "tuple" = none
  zip : mg "zip" = none

/-! ### turnings -/
/-! ### a part of the script -/
/-! ### formturn.turning -/
/-! ### least forms -/
/-- a form whose bar is of moderate size too -/
structure FormS (a b c : Int) : Prop where
  pos : 0 < a
  bar : b * b - 4 * a * c < 0
  sa : Bd a 3000
  sb : Bd b 3000
  sc : Bd c 3000
  sd : Bd (b * b - 4 * a * c) 1200
theorem FormS.n {a b c : Int} (h : FormS a b c) : FormN a b c := ⟨h.pos, h.bar, h.sa.up _ (by decide), h.sb.up _ (by decide), h.sc.up _ (by decide)⟩
def p_is_least (ds : List D) (d : D) : Prop := ∃ a b c : Int, ds = [formD a b c] ∧ FormN a b c ∧ d = .bl (MT.leastB a b c)
def p_law_good (ds : List D) (d : D) : Prop := ∃ a b c : Int, ds = [formD a b c] ∧ 0 < a ∧ d = .bl (MT.leastB a b c)
/-- the sizes of a least form, by its bar -/
theorem least_bd {a b c : Int} (ha : 0 < a) (L : MT.Least a b c) (hd : b * b - 4 * a * c < 0) (sd : Bd (b * b - 4 * a * c) 1200) : FormS a b c := by
  obtain ⟨h1, h2, h3⟩ := MT.least_small ha L
  have ac := L.ac
  have up : ∀ {z : Int}, z.natAbs ≤ (b * b - 4 * a * c).natAbs → Bd z 3000 := fun h => (sd.le h).up _ (by decide)
  exact ⟨ha, hd, up (by omega), up (by omega), up (by omega), sd⟩
/-- the form in a slot -/
def measAt (ρ : Ro) (i : Nat) : Nat := match ρ[i]? with
  | some (some (.tup [.int x, .int y, .int z])) => MT.meas x y z
  | _ => 0
/-! ### a drawn least form -/
/-! ### two forms alike -/
end CM

/-! C7: a form's own turnings, its smallest worth -/
namespace CM
open PySem PySem.Spec L2 FL FT
end CM
namespace CM
open PySem PySem.Spec L2 FL FT
end CM
namespace CM
open PySem PySem.Spec L2 FL FT
def isL : Option D → Bool
  | some (.lst _ _) => true
  | _ => false
theorem others_of {ρ : Ro} {n : Nat} (h : (ρ.set n none).any isL = false) {l : Addr} : ∀ (j : Nat) (es : List D), j ≠ n → ρ[j]? ≠ some (some (.lst l es)) := fun j es hj e => by
  have : (ρ.set n none)[j]? = some (some (.lst l es)) := by rw [List.getElem?_set_ne (fun z => hj z.symm)]; exact e
  have m := List.mem_of_getElem? this
  rw [List.any_eq_false] at h
  exact absurd rfl (h _ m)
end CM
namespace CM
open PySem PySem.Spec L2 FL FT
end CM
namespace CM
open PySem PySem.Spec L2 FL FT
end CM

/-! C8: the steps towards a least form -/
namespace CM
open PySem PySem.Spec L2 FL FT
end CM
namespace CM
open PySem PySem.Spec L2 FL FT
end CM
namespace CM
open PySem PySem.Spec L2 FL FT
end CM

/-! ME: common divisors with shares -/
namespace ME
end ME

/-! MJ: the joining of two forms -/
namespace MJ
/-! ### one joint only -/
theorem div_of {x y z : Int} (hy : y ≠ 0) (h : x = y * z) : x / y = z := by rw [h]; exact Int.mul_ediv_cancel_left z hy
end MJ

/-! MK: joints of classes -/
namespace MJ
end MJ

/-! CJ: the promises of the joining -/
namespace CM
open PySem PySem.Spec L2 FL FT
/-! ### divisor_with_shares -/
/-! ### the joint -/
end CM
namespace CM
open PySem PySem.Spec L2 FL FT
end CM
namespace CM
open PySem PySem.Spec L2 FL FT
/-! ### the asker's forms that agree in the middle number -/
end CM
namespace CM
open PySem PySem.Spec L2 FL FT
end CM
namespace CM
open PySem PySem.Spec L2 FL FT
def p_is_bar (ds : List D) (d : D) : Prop := ∃ i : Int, ds = [.int i] ∧ i < 0 ∧ (i % 4 = 0 ∨ i % 4 = 1) ∧ d = .bl true
def p_require_bar (ds : List D) (d : D) : Prop := ∃ i : Int, ds = [.int i] ∧ i < 0 ∧ (i % 4 = 0 ∨ i % 4 = 1) ∧ d = .non
end CM
namespace CM
open PySem PySem.Spec L2 FL FT
section
variable {X : Cx} {e1 e2 : Expr} {ρ : Ro} {p0 p1 p2 p3 : Pos} {m : Nat}
end
end CM

/-! MP: primes, and forms worth a number without a common divisor with another -/
namespace MP
end MP

/-! MG: the classes of a bar make a group -/
namespace MG
open MJ
structure Q where
  a : Int
  b : Int
  c : Int
deriving DecidableEq
structure Ok (D : Int) (f : Q) : Prop where
  pos : 0 < f.a
  bar : f.b * f.b - 4 * f.a * f.c = D
end MG

/-! MH: the group of the classes of a bar -/
namespace MG
open MJ
/-! ### groups -/
class AbG (G : Type) where
  mul : G → G → G
  one : G
  inv : G → G
  comm : ∀ x y, mul x y = mul y x
  assoc : ∀ x y z, mul (mul x y) z = mul x (mul y z)
  mul_one : ∀ x, mul x one = x
  mul_inv : ∀ x, mul x (inv x) = one
section
variable {G : Type} [AbG G]
open AbG
end
/-! ### the classes -/
structure BarD (D : Int) : Prop where
  neg : D < 0
  four : D % 4 = 0 ∨ D % 4 = 1
end MG

/-! CG: forms and classes -/
namespace CM
open PySem PySem.Spec L2 FL FT MG
abbrev qD (q : Q) : D := formD q.a q.b q.c
theorem fzQ (q : Q) : Fz (qD q) := fz3 _ _ _
/-- a bar of moderate size -/
structure BarS (i : Int) : Prop where
  d : BarD i
  s : Bd i 1200
section
variable {X : Cx} {e1 e2 : Expr} {ρ : Ro} {p0 p1 p2 p3 : Pos} {m : Nat} {i : Int}
end
/-! ### repeated -/
end CM
namespace CM
open PySem PySem.Spec L2 FL FT MG
end CM

/-! MF: powers by a prime -/
namespace MP
/-! ### Fermat -/
/-! ### roots -/
end MP

/-! C18: primes told -/
namespace CM
open PySem PySem.Spec L2 FL FT MP
def p_require_bar_from (ds : List D) (d : D) : Prop := ∃ i l : Int, ds = [.int i, .int l] ∧ i < 0 ∧ (i % 4 = 0 ∨ i % 4 = 1) ∧ l ≤ i ∧ d = .non
end CM
namespace CM
open PySem PySem.Spec L2 FL FT MP
/-! ### the asker's prime -/
end CM

/-! CL: the least forms of a bar, and its classes -/
namespace CM
open PySem PySem.Spec L2 FL FT MG
def lfC (i a b : Int) : Bool := decide ((b * b - i) % (4 * a) = 0) && MT.leastB a b ((b * b - i) / (4 * a))
def lfQ (i a b : Int) : Q := ⟨a, b, (b * b - i) / (4 * a)⟩
/-- those with a given first number, the first n middle ones -/
def lfN (i a : Int) (n : Nat) : List Q := (((List.range n).map fun (t : Nat) => -a + (t : Int)).filter (lfC i a)).map (lfQ i a)
def lfA (i a : Int) : List Q := lfN i a (2 * a + 1).toNat
def lfs (i : Int) (n : Nat) : List Q := (List.range n).flatMap fun (t : Nat) => lfA i ((t : Int) + 1)
/-- all least forms of a bar -/
def LF (i : Int) : List Q := lfs i 40
theorem lfN_succ (i a : Int) (n : Nat) : lfN i a (n + 1) = lfN i a n ++ (if lfC i a (-a + (n : Int)) = true then [lfQ i a (-a + (n : Int))] else []) := by
  unfold lfN
  rw [List.range_succ, List.map_append, List.filter_append, List.map_append]
  congr 1
  rw [List.map_cons, List.map_nil]
  by_cases h : lfC i a (-a + (n : Int)) = true
  · rw [List.filter_cons_of_pos h, if_pos h]; rfl
  · rw [List.filter_cons_of_neg h, if_neg h]; rfl
theorem lfs_succ (i : Int) (n : Nat) : lfs i (n + 1) = lfs i n ++ lfA i ((n : Int) + 1) := by
  unfold lfs
  rw [List.range_succ, List.flatMap_append]
  simp
theorem least_three {a b c : Int} (ha : 0 < a) (L : MT.Least a b c) : 3 * (a * a) ≤ 4 * a * c - b * b := by
  have h1 := MT.mul_nn (show 0 ≤ a - b by have := L.hi; omega) (show 0 ≤ a + b by have := L.lo; omega)
  have h2 := MT.mul_nn (Int.le_of_lt ha) (show 0 ≤ c - a by have := L.ac; omega)
  grind
theorem mem_lfN {i a : Int} {n : Nat} {q : Q} (ha : 0 < a) (hn : n ≤ (2 * a + 1).toNat) : q ∈ lfN i a n ↔ q.a = a ∧ q.b < -a + (n : Int) ∧ q.b * q.b - 4 * q.a * q.c = i ∧ MT.Least q.a q.b q.c := by
  unfold lfN
  constructor
  · intro h
    obtain ⟨b, hb, rfl⟩ := List.mem_map.mp h
    obtain ⟨hb, hc⟩ := List.mem_filter.mp hb
    obtain ⟨t, ht, rfl⟩ := List.mem_map.mp hb
    have ht' := List.mem_range.mp ht
    unfold lfC at hc
    simp only [Bool.and_eq_true, decide_eq_true_eq] at hc
    refine ⟨rfl, by show -a + (t : Int) < _; omega, ?_, MT.leastB_iff.mp hc.2⟩
    have := Int.mul_ediv_cancel' (Int.dvd_of_emod_eq_zero hc.1)
    unfold lfQ
    dsimp only
    omega
  · rintro ⟨rfl, h2, h3, L⟩
    obtain ⟨a, b, c⟩ := q
    dsimp only at *
    have lo := L.lo
    have e : 4 * a * c = b * b - i := by omega
    have ec : (b * b - i) / (4 * a) = c := MJ.div_of (by omega) e.symm
    refine List.mem_map.mpr ⟨b, List.mem_filter.mpr ⟨List.mem_map.mpr ⟨(b + a).toNat, List.mem_range.mpr (by omega), by omega⟩, ?_⟩, by unfold lfQ; rw [ec]⟩
    unfold lfC
    rw [ec]
    simp only [Bool.and_eq_true, decide_eq_true_eq]
    exact ⟨by rw [← e]; exact Int.mul_emod_right _ _, MT.leastB_iff.mpr L⟩
theorem mem_lfA {i a : Int} {q : Q} (ha : 0 < a) : q ∈ lfA i a ↔ q.a = a ∧ q.b * q.b - 4 * q.a * q.c = i ∧ MT.Least q.a q.b q.c := by
  unfold lfA
  rw [mem_lfN ha (Nat.le_refl _)]
  constructor
  · rintro ⟨h1, _, h3, h4⟩
    exact ⟨h1, h3, h4⟩
  · rintro ⟨h1, h3, h4⟩
    have := h4.hi
    exact ⟨h1, by omega, h3, h4⟩
theorem lfA_nil {i a : Int} (ha : 0 < a) (h : -i < 3 * (a * a)) : lfA i a = [] := by
  refine List.eq_nil_iff_forall_not_mem.mpr fun q hq => ?_
  obtain ⟨e1, e2, L⟩ := (mem_lfA ha).mp hq
  have := least_three (by rw [e1]; exact ha) L
  rw [e1] at this e2
  omega
theorem sq_mono {a b : Int} (ha : 0 ≤ a) (h : a ≤ b) : a * a ≤ b * b := Int.mul_le_mul h h ha (by omega)
/-- no more least forms behind -/
theorem lfs_end {i : Int} {n : Nat} (hn : n ≤ 40) (h : -i < 3 * (((n : Int) + 1) * ((n : Int) + 1))) : lfs i n = LF i := by
  have key : ∀ k, n + k ≤ 40 → lfs i (n + k) = lfs i n := fun k => by
    induction k with
    | zero => intro _; rfl
    | succ k ih =>
      intro hk
      rw [← Nat.add_assoc, lfs_succ, ih (by omega), lfA_nil (by omega), List.append_nil]
      have := sq_mono (a := (n : Int) + 1) (b := (((n + k : Nat) : Int)) + 1) (by omega) (by omega)
      omega
  have := key (40 - n) (by omega)
  rw [show n + (40 - n) = 40 by omega] at this
  exact this.symm
theorem mem_LF {i : Int} {q : Q} (hi : -4000 ≤ i) : q ∈ LF i ↔ Ok i q ∧ MT.Least q.a q.b q.c := by
  unfold LF lfs
  constructor
  · intro h
    obtain ⟨t, _, h⟩ := List.mem_flatMap.mp h
    obtain ⟨e1, e2, L⟩ := (mem_lfA (by omega)).mp h
    exact ⟨⟨by rw [e1]; omega, e2⟩, L⟩
  · rintro ⟨o, L⟩
    have h3 := least_three o.pos L
    have hb := o.bar
    have ha := o.pos
    have : q.a ≤ 40 := by
      refine Int.not_lt.mp fun z => ?_
      have := sq_mono (a := 41) (b := q.a) (by decide) (by omega)
      omega
    exact List.mem_flatMap.mpr ⟨(q.a - 1).toNat, List.mem_range.mpr (by omega), (mem_lfA (by omega)).mpr ⟨by omega, o.bar, L⟩⟩
/-- a bar that is listed -/
structure BarL (i : Int) : Prop where
  d : BarD i
  low : -4000 ≤ i
theorem BarL.s {i : Int} (h : BarL i) : BarS i := by
  refine ⟨h.d, .of_lt ?_⟩
  have h1 := h.low
  have h2 := h.d.neg
  have h3 : (4001 : Nat) < 2 ^ 1200 := by decide +kernel
  generalize (2 : Nat) ^ 1200 = N at *
  omega
theorem lf_len {i a : Int} (n : Nat) : (lfN i a n).length ≤ n := by
  unfold lfN
  rw [List.length_map]
  refine Nat.le_trans (List.length_filter_le _ _) ?_
  simp
theorem lfs_len {i : Int} : ∀ n : Nat, n ≤ 40 → (lfs i n).length ≤ 100 * n
  | 0, _ => by simp [lfs]
  | n + 1, h => by
    rw [lfs_succ, List.length_append]
    have := lfs_len (i := i) n (by omega)
    have h2 : (lfA i ((n : Int) + 1)).length ≤ (2 * ((n : Int) + 1) + 1).toNat := lf_len _
    omega
def p_lff (ds es : List D) : Prop := ∃ i a : Int, ds = [.int i, .int a] ∧ BarL i ∧ 0 < a ∧ a ≤ 40 ∧ es = (lfA i a).map qD
def p_least_forms (ds es : List D) : Prop := ∃ i : Int, ds = [.int i] ∧ BarL i ∧ es = (LF i).map qD
def bareB (q : Q) : Bool := decide (((Int.gcd (Int.gcd q.a q.b) q.c : Nat) : Int) = 1)
def clsL (i : Int) : List Q := (LF i).filter bareB
def p_classes (ds es : List D) : Prop := ∃ i : Int, ds = [.int i] ∧ BarL i ∧ es = (clsL i).map qD
theorem fzQs (l : List Q) : ∀ d ∈ l.map qD, Fz d := fun d hd => by
  obtain ⟨q, _, rfl⟩ := List.mem_map.mp hd
  exact fzQ q
theorem lf_small {i : Int} (h : BarL i) {q : Q} (hq : q ∈ LF i) : FormS q.a q.b q.c := by
  obtain ⟨o, L⟩ := (mem_LF h.low).mp hq
  refine least_bd o.pos L (by rw [o.bar]; exact h.d.neg) (by rw [o.bar]; exact h.s.s)
def qOf : D → Q
  | .tup [.int a, .int b, .int c] => ⟨a, b, c⟩
  | _ => ⟨0, 0, 0⟩
end CM

/-! C9: the lists of a bar in their order; what an asker's function keeps -/
namespace CM
open PySem PySem.Spec L2 FL FT MG
def lfLt (q r : Q) : Prop := q.a < r.a ∨ (q.a = r.a ∧ q.b < r.b)
theorem lfN_sorted (i a : Int) (n : Nat) : (lfN i a n).Pairwise lfLt := by
  unfold lfN
  rw [List.pairwise_map]
  refine List.Pairwise.filter _ ?_
  rw [List.pairwise_map]
  exact List.pairwise_lt_range.imp fun {x y} h => .inr ⟨rfl, by show -a + (x : Int) < -a + (y : Int); omega⟩
theorem LF_sorted (i : Int) : (LF i).Pairwise lfLt := by
  unfold LF lfs
  rw [List.pairwise_flatMap]
  refine ⟨fun t _ => lfN_sorted _ _ _, List.pairwise_lt_range.imp fun {x y} h q hq r hr => .inl ?_⟩
  have h1 := ((mem_lfA (by omega)).mp hq).1
  have h2 := ((mem_lfA (by omega)).mp hr).1
  omega
theorem lf_before {i : Int} {k : Nat} {q r : Q} (h1 : (LF i)[k]? = some q) (h2 : (LF i)[k + 1]? = some r) : ¬ ([r.a, r.b] : List Int) ≤ [q.a, q.b] := by
  have h := List.pairwise_iff_getElem.mp (LF_sorted i) k (k + 1) (List.getElem?_eq_some_iff.mp h1).1 (List.getElem?_eq_some_iff.mp h2).1 (by omega)
  rw [(List.getElem?_eq_some_iff.mp h1).2, (List.getElem?_eq_some_iff.mp h2).2] at h
  intro z
  rcases h with h | ⟨h, h'⟩
  · have := List.cons_le_cons_iff.mp z
    omega
  · have := List.cons_le_cons_iff.mp z
    rcases this with z | ⟨_, z⟩
    · omega
    · have := List.cons_le_cons_iff.mp z
      rcases this with z | ⟨z, _⟩
      · omega
      · omega
/-- does z divide the middle number -/
def midB (z : Int) (q : Q) : Bool := decide (q.b % z = 0)
def p_want (z : Int) (ds : List D) (d : D) : Prop := ∃ q : Q, ds = [qD q] ∧ d = .bl (midB z q)
def p_kept (g : Addr) (z : Int) (ds es : List D) : Prop := ∃ i : Int, ds = [.int i, .ob g] ∧ BarL i ∧ es = ((clsL i).filter (midB z)).map qD
theorem cls_len (i : Int) : (clsL i).length ≤ 4000 := by
  unfold clsL
  have := List.length_filter_le bareB (LF i)
  have h2 := lfs_len (i := i) 40 (by decide)
  unfold LF at *
  omega
theorem bard_of {a b c : Int} (neg : b * b - 4 * a * c < 0) : BarD (b * b - 4 * a * c) := by
  refine ⟨neg, ?_⟩
  obtain ⟨m, hm⟩ : ∃ m, b = 2 * m ∨ b = 2 * m + 1 := ⟨b / 2, by omega⟩
  rcases hm with rfl | rfl
  · have : 2 * m * (2 * m) - 4 * a * c = 4 * (m * m - a * c) := by grind
    omega
  · have : (2 * m + 1) * (2 * m + 1) - 4 * a * c = 4 * (m * m + m - a * c) + 1 := by grind
    omega
theorem cms_qs : ∀ (xs ys : List Q), Cms 1 (xs.map qD) (ys.map qD)
  | [], [] => .nil
  | [], _ :: _ => .short _ _
  | _ :: _, [] => .long _ _
  | q :: xs, r :: ys => .cons (Cm.ints [q.a, q.b, q.c] [r.a, r.b, r.c]) (cms_qs xs ys)
def PfL (ns : List Int) : Prop := ns.length ≤ 63 ∧ Sizes ns
theorem law_sz (ns : List Int) (hl : ns.length ≤ 63) (hb : ∀ z ∈ ns, Builtin.Int.intBits z ≤ 1048576) : PfL ns := by
  refine ⟨hl, fun k => ⟨?_⟩⟩
  by_cases h : k < ns.length
  · have e : cell ns k = ns[k] := by simp [cell, List.getD, List.getElem?_eq_getElem h]
    rw [e]
    exact hb _ (List.getElem_mem h)
  · have e : cell ns k = 0 := by simp [cell, List.getD, List.getElem?_eq_none (Nat.le_of_not_lt h)]
    rw [e]
    decide
theorem only_of {names : List (Str × NameKind)} {x : Str} (h : names.all (fun p => !(p.2 == .free) || p.1 == x) = true) : ∀ y, names.lookup y = some .free → y = x := fun y hy => by
  have := List.all_eq_true.mp h _ (PySem.mem_of_lookup hy)
  simpa using this
/-- the j-th statement of a body -/
def inSt (st : Stmt) (j : Nat) : Stmt := (defBody st).getD j (.Pass ⟨0, 0, 0, 0⟩)
abbrev wantN : Str := "law" ++ ".<locals>." ++ "_law_wanted"
/-- the promise of the def that asks the asker's function: inn, the function's text -/
def FnK (P : Program) (w : World) (K : PySem.W.Frag) (mg : Str → Option Value) (base : Heap) (k : Nat) (x : Str) (f : Addr) (fd : FuncData) (inn : Stmt) : Prop :=
  mg x = some (.ref f) ∧ PySem.W.keepIn K (.ref f) = true ∧ Binds K fd ["bar", "wanted"] [] ∧ ∀ (g c' T c0 : Addr) (pm doc uc : Value) (o' : Obj) (z : Int), 0 < z → z ≤ 5 →
    base.get? g = some { cls := .type "function", data := .func (FN.clFd "_law_wanted" wantN (defArgs inn) (defBody inn) (defScope inn) mainGlobals "_law_by" c0 T pm (.ref c') doc) } → base.get? c' = some o' →
    (∃ vs t, o'.data = .fields vs ∧ vs[1]? = some (.str wantN t)) → base.IsCell c0 (some uc) → RelV (.int z) uc → FnOk P w K mg base CX0 k f fd ["bar", "wanted"] (SpL K (p_kept g z))
end CM

namespace K09
open PySem PySem.Spec L2 FL FT FU CM MG
def top (i : Nat) : Stmt := PySem.Challenge.pw_formturn_k09_whole_lists.main.body.getD i (.Pass ⟨0, 0, 0, 0⟩)

abbrev s_is_whole : Stmt := top 6
abbrev s_is_whole_tuple : Stmt := top 7
abbrev s_is_bar : Stmt := top 8
abbrev s_require_bar : Stmt := top 9
abbrev s_require_bar_from : Stmt := top 10
abbrev s_common_divisor : Stmt := top 11
abbrev s_bar_of_numbers : Stmt := top 13
abbrev s_is_form : Stmt := top 14
abbrev s_require_form : Stmt := top 15
abbrev s_is_bare : Stmt := top 16
abbrev s_is_least : Stmt := top 18
abbrev s_least_forms_from : Stmt := top 20
abbrev s_least_forms : Stmt := top 21
abbrev s_classes : Stmt := top 22
abbrev s_kept : Stmt := top 23
abbrev s_law_ints : Stmt := top 25
abbrev s_law_cell_at : Stmt := top 26
abbrev s_law_good : Stmt := top 30
abbrev s_law_divisor : Stmt := top 31
abbrev s_law : Stmt := top 32
theorem sc_is_whole : FnScope ["value"] ["value"] (defScope s_is_whole) := ⟨rfl, rfl, rfl, by decide +kernel, rfl, by decide +kernel, by decide +kernel⟩
theorem sc_is_whole_tuple : FnScope ["value", "length"] ["value", "length"] (defScope s_is_whole_tuple) := ⟨rfl, rfl, rfl, by decide +kernel, rfl, by decide +kernel, by decide +kernel⟩
theorem sc_is_bar : FnScope ["value"] ["value"] (defScope s_is_bar) := ⟨rfl, rfl, rfl, by decide +kernel, rfl, by decide +kernel, by decide +kernel⟩
theorem sc_require_bar : FnScope ["value"] ["value"] (defScope s_require_bar) := ⟨rfl, rfl, rfl, by decide +kernel, rfl, by decide +kernel, by decide +kernel⟩
theorem sc_require_bar_from : FnScope ["value", "lowest"] ["value", "lowest"] (defScope s_require_bar_from) := ⟨rfl, rfl, rfl, by decide +kernel, rfl, by decide +kernel, by decide +kernel⟩
theorem sc_common_divisor : FnScope ["one", "other", "greater", "lesser", "rest"] ["one", "other"] (defScope s_common_divisor) := ⟨rfl, rfl, rfl, by decide +kernel, rfl, by decide +kernel, by decide +kernel⟩
theorem sc_bar_of_numbers : FnScope ["a", "b", "c"] ["a", "b", "c"] (defScope s_bar_of_numbers) := ⟨rfl, rfl, rfl, by decide +kernel, rfl, by decide +kernel, by decide +kernel⟩
theorem sc_is_form : FnScope ["value"] ["value"] (defScope s_is_form) := ⟨rfl, rfl, rfl, by decide +kernel, rfl, by decide +kernel, by decide +kernel⟩
theorem sc_require_form : FnScope ["value"] ["value"] (defScope s_require_form) := ⟨rfl, rfl, rfl, by decide +kernel, rfl, by decide +kernel, by decide +kernel⟩
theorem sc_is_bare : FnScope ["form"] ["form"] (defScope s_is_bare) := ⟨rfl, rfl, rfl, by decide +kernel, rfl, by decide +kernel, by decide +kernel⟩
theorem sc_is_least : FnScope ["form", "a", "b", "c"] ["form"] (defScope s_is_least) := ⟨rfl, rfl, rfl, by decide +kernel, rfl, by decide +kernel, by decide +kernel⟩
theorem sc_least_forms_from : FnScope ["bar", "a", "found", "b", "form"] ["bar", "a"] (defScope s_least_forms_from) := ⟨rfl, rfl, rfl, by decide +kernel, rfl, by decide +kernel, by decide +kernel⟩
theorem sc_least_forms : FnScope ["bar", "found", "a"] ["bar"] (defScope s_least_forms) := ⟨rfl, rfl, rfl, by decide +kernel, rfl, by decide +kernel, by decide +kernel⟩
theorem sc_classes : FnScope ["bar"] ["bar"] (defScope s_classes) := ⟨rfl, rfl, rfl, by decide +kernel, rfl, by decide +kernel, by decide +kernel⟩
theorem sc_kept : FnScope ["bar", "wanted"] ["bar", "wanted"] (defScope s_kept) := ⟨rfl, rfl, rfl, by decide +kernel, rfl, by decide +kernel, by decide +kernel⟩
theorem sc_law_ints : FnScope ["_law_found", "_law_size", "_law_number"] ["_law_found", "_law_size"] (defScope s_law_ints) := ⟨rfl, rfl, rfl, by decide +kernel, rfl, by decide +kernel, by decide +kernel⟩
theorem sc_law_cell_at : FnScope ["_law_script", "_law_k"] ["_law_script", "_law_k"] (defScope s_law_cell_at) := ⟨rfl, rfl, rfl, by decide +kernel, rfl, by decide +kernel, by decide +kernel⟩
theorem sc_law_good : FnScope ["_law_form"] ["_law_form"] (defScope s_law_good) := ⟨rfl, rfl, rfl, by decide +kernel, rfl, by decide +kernel, by decide +kernel⟩
theorem sc_law_divisor : FnScope ["_law_one", "_law_other", "_law_rest"] ["_law_one", "_law_other"] (defScope s_law_divisor) := ⟨rfl, rfl, rfl, by decide +kernel, rfl, by decide +kernel, by decide +kernel⟩
theorem sc_law : FnScope ["_law_script", "_law_a", "_law_b", "_law_c", "_law_bar", "_law_found", "_law_k", "_law_form", "_law_bare", "_law_by", "_law_wanted", "_law_due", "_law_again"] ["_law_script"] (defScope s_law) := ⟨rfl, rfl, rfl, by decide +kernel, rfl, by decide +kernel, by decide +kernel⟩
section
variable {P : Program} {w : World} {K : PySem.W.Frag} {mg : Str → Option Value} {base : Heap}
theorem ok_is_whole {f : Addr} {fd : FuncData} (T : Tx mg) (F : Fun K "is_whole" "is_whole" s_is_whole f fd) (hm : mg "is_whole" = some (.ref f)) (hb : Binds K fd ["value"] []) : Fn P w K mg base 1 "is_whole" p_is_whole := by
  refine fn_mk F sc_is_whole hm hb (fun ds d h => ?_) (fun cdv A outer s H E hr ds d h => ?_)
  · obtain ⟨i, rfl, rfl⟩ := h
    exact ⟨rfl, fun a es => by simp⟩
  · obtain ⟨i, rfl, rfl⟩ := h
    exact do_ret (ev_andT (ev_isi T.isi (ev_v 0) T.int bo_int rfl kit_s) (ev_one (ev_notF (ev_isi T.isi (ev_v 0) T.bool bo_bool rfl kit_int_bool)))) rfl
theorem ok_is_whole_tuple {f : Addr} {fd : FuncData} (T : Tx mg) (G1 : Fn P w K mg base 1 "is_whole" p_is_whole) (F : Fun K "is_whole_tuple" "is_whole_tuple" s_is_whole_tuple f fd) (hm : mg "is_whole_tuple" = some (.ref f)) (hb : Binds K fd ["value", "length"] []) :
    Fn P w K mg base 2 "is_whole_tuple" p_is_whole_tuple := by
  refine fn_mk F sc_is_whole_tuple hm hb (fun ds d h => ?_) (fun cdv A outer s H E hr ds d h => ?_)
  · obtain ⟨ns, rfl, _, rfl⟩ := h
    exact ⟨rfl, fun a es => by simp⟩
  · obtain ⟨ns, rfl, hl, rfl⟩ := h
    have e1 : lenD (.tup (ns.map D.int)) = some ns.length := by simp [lenD]
    refine do_ifF (et_w (ew_orF (et_notT (et_val (ev_isi T.isi (ev_v 0) T.tuple bo_tuple rfl kit_s))) (ew_or1 (Et.ff (et_ne (ev_len T.len (ev_v 0) e1) (ev_v 1)) rfl)))) ?_
    · have hall : ((ns.map fun _ => true).map D.bl) = (((ns.map D.int).filter fun _ => true).map fun _ => D.bl true) := by
        rw [List.filter_eq_self.mpr (fun _ _ => rfl)]
        simp
      refine do_ret (ev_all (bs := ns.map fun _ => true) rfl T.all ?_) ?_
      · rw [hall]
        refine (evn_comp (ys := []) (js := []) (cl := []) (fun _ => true) (fun _ => .bl true) rfl (src_tup (ev_v 0)) (by simp; omega) (fun _ _ _ => .bl true) (fun C s₀ H₀ fp d hd => ets_nil) (fun C s₀ H₀ fp d hd _ => ?_) rfl (by decide) rfl (by decide) rfl (by decide) (fun y c h => by cases h) (no_free (by decide)) rfl (fun i j y h => by cases h)).ev
        · obtain ⟨z, _, rfl⟩ := List.mem_map.mp hd
          exact ev_call G1 hr (ea_cons (ev_v 0) ea_nil) ⟨z, rfl, rfl⟩
      · show D.bl _ = D.bl _
        congr 1
        simp
theorem ok_is_bar {f : Addr} {fd : FuncData} (G1 : Fn P w K mg base 1 "is_whole" p_is_whole) (F : Fun K "is_bar" "is_bar" s_is_bar f fd) (hm : mg "is_bar" = some (.ref f)) (hb : Binds K fd ["value"] []) : Fn P w K mg base 2 "is_bar" p_is_bar := by
  refine fn_mk F sc_is_bar hm hb (fun ds d h => ?_) (fun cdv A outer s H E hr ds d h => ?_)
  · obtain ⟨i, rfl, _⟩ := h
    exact ⟨rfl, fun a es => by simp⟩
  · obtain ⟨i, rfl, hi, h4, rfl⟩ := h
    refine do_ret (ev_andT (ev_call G1 hr (ea_cons (ev_v 0) ea_nil) ⟨i, rfl, rfl⟩) (ev_andT (Ev.tt (ev_lt (ev_v 0) ev_int) hi) (ev_one (Ev.to (ev_in (n := 0) (ds := [.int 0, .int 1]) hr (ev_mod (ev_v 0) ev_int (by decide)) (ev_tup (ea_cons ev_int (ea_cons ev_int ea_nil))) (.inr rfl) ?_) ?_)))) rfl
    · intro z hz
      simp only [List.mem_cons, List.not_mem_nil, or_false] at hz
      rcases hz with rfl | rfl <;> exact .int _ _
    · congr 1
      rw [inD_iff]
      rcases h4 with h | h <;> rw [h] <;> simp
theorem ok_require_bar {f : Addr} {fd : FuncData} (G1 : Fn P w K mg base 2 "is_bar" p_is_bar) (F : Fun K "require_bar" "require_bar" s_require_bar f fd) (hm : mg "require_bar" = some (.ref f)) (hb : Binds K fd ["value"] []) : Fn P w K mg base 3 "require_bar" p_require_bar := by
  refine fn_mk F sc_require_bar hm hb (fun ds d h => ?_) (fun cdv A outer s H E hr ds d h => ?_)
  · obtain ⟨i, rfl, _⟩ := h
    exact ⟨rfl, fun a es => by simp⟩
  · obtain ⟨i, rfl, hi, h4, rfl⟩ := h
    exact do_ifF (et_notT (et_val (ev_call G1 hr (ea_cons (ev_v 0) ea_nil) ⟨i, rfl, hi, h4, rfl⟩))) (do_nil rfl)
theorem ok_require_bar_from {f : Addr} {fd : FuncData} (G1 : Fn P w K mg base 3 "require_bar" p_require_bar) (F : Fun K "require_bar_from" "require_bar_from" s_require_bar_from f fd) (hm : mg "require_bar_from" = some (.ref f)) (hb : Binds K fd ["value", "lowest"] []) : Fn P w K mg base 4 "require_bar_from" p_require_bar_from := by
  refine fn_mk F sc_require_bar_from hm hb (fun ds d h => ?_) (fun cdv A outer s H E hr ds d h => ?_)
  · obtain ⟨i, l, rfl, _⟩ := h
    exact ⟨rfl, fun a es => by simp⟩
  · obtain ⟨i, l, rfl, hi, h4, hl, rfl⟩ := h
    refine do_expr (ev_call G1 hr (ea_cons (ev_v 0) ea_nil) ⟨i, rfl, hi, h4, rfl⟩) ?_
    exact do_ifF (Et.ff' (et_lt (ev_v 0) (ev_v 1)) (by omega)) (do_nil rfl)
theorem ok_common_divisor {f : Addr} {fd : FuncData} (T : Tx mg) (F : Fun K "common_divisor" "common_divisor" s_common_divisor f fd) (hm : mg "common_divisor" = some (.ref f)) (hb : Binds K fd ["one", "other"] []) :
    Fn P w K mg base 1 "common_divisor" p_common_divisor := by
  refine fn_mk F sc_common_divisor hm hb (fun ds d h => ?_) (fun cdv A outer s H E hr ds d h => ?_)
  · obtain ⟨a, b, rfl, rfl⟩ := h
    exact ⟨rfl, fun a es => by simp⟩
  · obtain ⟨a, b, rfl, rfl⟩ := h
    have nd := sc_common_divisor.nd
    refine do_set 2 (ev_abs T.abs (ev_v 0)) (.int _) (do_set 3 (ev_abs T.abs (ev_v 1)) (.int _) ?_ nd) nd
    refine do_while (fun ρ => ∃ g l r, ρ = [some (.int a), some (.int b), some (.int g), some (.int l), r] ∧ 0 ≤ g ∧ 0 ≤ l ∧ Int.gcd g l = Int.gcd a b)
      (fun ρ => ∃ g r, ρ = [some (.int a), some (.int b), some (.int g), some (.int 0), r] ∧ 0 ≤ g ∧ Int.gcd g 0 = Int.gcd a b)
      (fun ρ => (intAt ρ 3).natAbs) PassesOwn.never ⟨(a.natAbs : Int), (b.natAbs : Int), none, rfl, by omega, by omega, M.gcd_abs a b⟩ ?_ ?_
    · rintro ρ ⟨g, l, r, rfl, hg, hl, e⟩
      refine ⟨_, et_ne (ev_v 3) ev_int, fun hk => ?_, fun hk => ?_⟩
      · have hl0 : l ≠ 0 := by simpa using hk
        have hp : 0 < l := by omega
        have h1 := Int.emod_nonneg g hl0
        have h2 := Int.emod_lt_of_pos g hp
        refine do_set 4 (ev_mod (ev_v 2) (ev_v 3) hp) (.int _) (do_set 2 (ev_v 3) (.int _) (do_set 3 (ev_v 4) (.int _) (do_nil ⟨⟨l, g % l, _, rfl, hl, h1, ?_⟩, ?_⟩) nd) nd) nd
        · rw [M.emod_gcd]
          exact e
        · show (g % l).natAbs < l.natAbs
          omega
      · have hl0 : l = 0 := by simpa using hk
        subst hl0
        exact ⟨g, r, rfl, hg, e⟩
    · rintro ρ ⟨g, r, rfl, hg, e⟩
      refine do_ret (ev_v 2) ?_
      show D.int g = D.int _
      rw [← e, Int.gcd_zero_right]
      congr 1
      omega
theorem ok_bar_of_numbers {f : Addr} {fd : FuncData} (F : Fun K "bar_of_numbers" "bar_of_numbers" s_bar_of_numbers f fd) (hm : mg "bar_of_numbers" = some (.ref f)) (hb : Binds K fd ["a", "b", "c"] []) :
    Fn P w K mg base 1 "bar_of_numbers" p_bar_of_numbers := by
  refine fn_mk F sc_bar_of_numbers hm hb (fun ds d h => ?_) (fun cdv A outer s H E hr ds d h => ?_)
  · obtain ⟨a, b, c, rfl, _, _, _, rfl⟩ := h
    exact ⟨rfl, fun a es => by simp⟩
  · obtain ⟨a, b, c, rfl, ha, hb, hc, rfl⟩ := h
    exact do_ret (ev_sub (ev_mul (ev_v 1) (ev_v 1) inferInstance inferInstance) (ev_mul (ev_mul ev_int (ev_v 0) inferInstance inferInstance) (ev_v 2) inferInstance inferInstance)) rfl
theorem ok_is_form {f : Addr} {fd : FuncData} (G1 : Fn P w K mg base 2 "is_whole_tuple" p_is_whole_tuple) (G2 : Fn P w K mg base 1 "bar_of_numbers" p_bar_of_numbers) (F : Fun K "is_form" "is_form" s_is_form f fd) (hm : mg "is_form" = some (.ref f)) (hb : Binds K fd ["value"] []) :
    Fn P w K mg base 3 "is_form" p_is_form := by
  refine fn_mk F sc_is_form hm hb (fun ds d h => ?_) (fun cdv A outer s H E hr ds d h => ?_)
  · obtain ⟨a, b, c, rfl, _, rfl⟩ := h
    exact ⟨rfl, fun a es => by simp⟩
  · obtain ⟨a, b, c, rfl, hf, rfl⟩ := h
    refine do_ifF (et_notT (et_val (ev_call G1 hr (ea_cons (ev_v 0) (ea_cons ev_int ea_nil)) ⟨[a, b, c], rfl, by simp, rfl⟩))) ?_
    refine do_ret (ev_andT (Ev.tt (ev_gt (ev_ix (ev_v 0) ev_int rfl) ev_int) hf.pos) (ev_one (Ev.tt (ev_lt (ev_call G2 (hr.mono (by decide)) (ea_cons (ev_ix (ev_v 0) ev_int rfl) (ea_cons (ev_ix (ev_v 0) ev_int rfl) (ea_cons (ev_ix (ev_v 0) ev_int rfl) ea_nil)))
      ⟨a, b, c, rfl, hf.sa, hf.sb, hf.sc, rfl⟩) ev_int) hf.bar))) rfl
theorem ok_require_form {f : Addr} {fd : FuncData} (G1 : Fn P w K mg base 3 "is_form" p_is_form) (F : Fun K "require_form" "require_form" s_require_form f fd) (hm : mg "require_form" = some (.ref f)) (hb : Binds K fd ["value"] []) :
    Fn P w K mg base 4 "require_form" p_require_form := by
  refine fn_mk F sc_require_form hm hb (fun ds d h => ?_) (fun cdv A outer s H E hr ds d h => ?_)
  · obtain ⟨a, b, c, rfl, _, rfl⟩ := h
    exact ⟨rfl, fun a es => by simp⟩
  · obtain ⟨a, b, c, rfl, hf, rfl⟩ := h
    exact do_ifF (et_notT (et_val (ev_call G1 hr (ea_cons (ev_v 0) ea_nil) ⟨a, b, c, rfl, hf, rfl⟩))) (do_nil rfl)
theorem ok_is_bare {f : Addr} {fd : FuncData} (G1 : Fn P w K mg base 4 "require_form" p_require_form) (G2 : Fn P w K mg base 1 "common_divisor" p_common_divisor) (F : Fun K "is_bare" "is_bare" s_is_bare f fd) (hm : mg "is_bare" = some (.ref f)) (hb : Binds K fd ["form"] []) :
    Fn P w K mg base 5 "is_bare" p_is_bare := by
  refine fn_mk F sc_is_bare hm hb (fun ds d h => ?_) (fun cdv A outer s H E hr ds d h => ?_)
  · obtain ⟨a, b, c, rfl, _, rfl⟩ := h
    exact ⟨rfl, fun a es => by simp⟩
  · obtain ⟨a, b, c, rfl, hf, rfl⟩ := h
    refine do_expr (ev_call G1 hr (ea_cons (ev_v 0) ea_nil) ⟨a, b, c, rfl, hf, rfl⟩) ?_
    have hr1 := hr.mono (show 1 ≤ 4 by decide)
    exact do_ret (ev_eq (ev_call G2 hr1 (ea_cons (ev_call G2 hr1 (ea_cons (ev_ix (ev_v 0) ev_int rfl) (ea_cons (ev_ix (ev_v 0) ev_int rfl) ea_nil)) ⟨a, b, rfl, rfl⟩) (ea_cons (ev_ix (ev_v 0) ev_int rfl) ea_nil)) ⟨_, c, rfl, rfl⟩) ev_int) rfl
theorem ok_is_least {f : Addr} {fd : FuncData} (G1 : Fn P w K mg base 4 "require_form" p_require_form) (F : Fun K "is_least" "is_least" s_is_least f fd) (hm : mg "is_least" = some (.ref f)) (hb : Binds K fd ["form"] []) : Fn P w K mg base 5 "is_least" p_is_least := by
  refine fn_mk F sc_is_least hm hb (fun ds d h => ?_) (fun cdv A outer s H E hr ds d h => ?_)
  · obtain ⟨a, b, c, rfl, _, rfl⟩ := h
    exact ⟨rfl, fun a es => by simp⟩
  · obtain ⟨a, b, c, rfl, hf, rfl⟩ := h
    have nd := sc_is_least.nd
    refine do_expr (ev_call G1 hr (ea_cons (ev_v 0) ea_nil) ⟨a, b, c, rfl, hf, rfl⟩) ?_
    refine do_set 1 (ev_ix (ev_v 0) ev_int rfl) (.int _) ?_ nd
    refine do_set 2 (ev_ix (ev_v 0) ev_int rfl) (.int _) ?_ nd
    refine do_set 3 (ev_ix (ev_v 0) ev_int rfl) (.int _) ?_ nd
    refine do_ret (ev_and (ev_chain3 op_lt op_le op_le (ev_neg (ev_v 1)) (ev_v 2) (ev_v 1) (ev_v 3)) fun _ => (ev_one (ev_or (ev_ge (ev_v 2) ev_int) fun _ => (ev_one (ev_lt (ev_v 1) (ev_v 3)))))) ?_
    show D.bl _ = D.bl _
    congr 1
    rw [Bool.eq_iff_iff, MT.leastB_iff]
    simp only [Bool.or_eq_true, Bool.and_eq_true, decide_eq_true_eq]
    constructor
    · rintro ⟨⟨h1, h2, h3⟩, h4⟩
      exact ⟨h1, h2, h3, fun z => by omega⟩
    · intro L
      have h1 := L.lo
      have h2 := L.hi
      have h3 := L.ac
      have h4 := L.eq
      omega
set_option maxHeartbeats 4000000 in
theorem ok_least_forms_from {f : Addr} {fd : FuncData} (T : Tx mg) (G1 : Fn P w K mg base 5 "is_least" p_is_least) (F : Fun K "least_forms_from" "least_forms_from" s_least_forms_from f fd) (hm : mg "least_forms_from" = some (.ref f)) (hb : Binds K fd ["bar", "a"] []) : FnL P w K mg base 6 "least_forms_from" p_lff := by
  refine fnl_mk F sc_least_forms_from hm hb (fun ds es h => ?_) (fun cdv A outer s H E hr ds es h => ?_)
  · obtain ⟨i, a, rfl, _⟩ := h
    exact ⟨rfl, fun a es => by simp⟩
  · obtain ⟨i, a, rfl, hi, a0, a1, rfl⟩ := h
    have nd := sc_least_forms_from.nd
    have i0 := hi.d.neg
    have i1 := hi.low
    have ba : Bd a 6 := .of_lt (by omega)
    refine do_setN 2 (evn_list ea_nil) (fun d hd => by cases hd) (fun l _ => ?_) nd
    refine do_for 3 (fun t ρ => ∃ u v, ρ = [some (.int i), some (.int a), some (.lst l ((lfN i a t).map qD)), u, v] ∧ t ≤ (2 * a + 1).toNat) (fun ρ => ∃ u v, ρ = [some (.int i), some (.int a), some (.lst l ((lfA i a).map qD)), u, v]) PassesOwn.never rfl
      (wk_range2 T.range (ev_neg (ev_v 1)) (ev_add (ev_v 1) ev_int) (by omega) (by omega) (by omega) (by omega)) (fun d hd => ?_) (fun _ _ _ => trivial) ⟨none, none, rfl, Nat.zero_le _⟩ ?_ ?_ ?_ nd
    · obtain ⟨z, _, rfl⟩ := List.mem_map.mp hd
      exact .int _
    · rintro t d ρ hdt ⟨u, v, rfl, htl⟩
      have tl : t < (a + 1 - -a).toNat := by
        have := (List.getElem?_eq_some_iff.mp hdt).1
        simpa using this
      rw [List.getElem?_map, List.getElem?_range tl] at hdt
      obtain rfl : d = D.int (-a + (t : Int)) := (Option.some.inj hdt).symm
      have e := lfN_succ i a t
      have ll := lf_len (i := i) (a := a) t
      have hb1 : -a ≤ -a + (t : Int) := by omega
      have hb2 : -a + (t : Int) ≤ a := by omega
      generalize hbb : -a + (t : Int) = b at *
      have bb : Bd b 6 := .of_lt (by omega)
      have bi : Bd i 12 := .of_lt (by omega)
      refine do_if (fun ρ => ∃ v, ρ = [some (.int i), some (.int a), some (.lst l ((lfN i a (t + 1)).map qD)), some (.int b), v]) (et_eq (ev_mod (ev_sub (ev_mul (ev_v 3) (ev_v 3) bb bb) (ev_v 0)) (ev_mul ev_int (ev_v 1) bd_4 ba) (by omega)) ev_int) (fun hk => ?_) (fun hk => ?_) ?_
      · have hk' : (b * b - i) % (4 * a) = 0 := by simpa using hk
        have hC : 4 * a * ((b * b - i) / (4 * a)) = b * b - i := Int.mul_ediv_cancel' (Int.dvd_of_emod_eq_zero hk')
        have bC : Bd ((b * b - i) / (4 * a)) 14 := (Bd.sub (Bd.mul bb bb 12 (by decide)) bi 14 (by decide)).div (by omega)
        refine do_set 4 (ev_tup (ea_cons (ev_v 1) (ea_cons (ev_v 3) (ea_cons (ev_div (ev_sub (ev_mul (ev_v 3) (ev_v 3) bb bb) (ev_v 0)) (ev_mul ev_int (ev_v 1) bd_4 ba) (by omega) (Bd.mul bd_4 ba 9 (by decide))) ea_nil)))) (fz3 _ _ _) ?_ nd
        have fN : FormN a b ((b * b - i) / (4 * a)) := ⟨a0, by omega, ba.up _ (by decide), bb.up _ (by decide), bC.up _ (by decide)⟩
        refine do_if (fun ρ => ∃ v, ρ = [some (.int i), some (.int a), some (.lst l ((lfN i a (t + 1)).map qD)), some (.int b), v]) (et_val (ev_call G1 hr (ea_cons (ev_v 4) ea_nil) ⟨a, b, _, rfl, fN, rfl⟩)) (fun hL => ?_) (fun hL => ?_) (fun ρ h => do_nil h)
        · have hc : lfC i a b = true := by
            unfold lfC
            rw [hL, hk']
            rfl
          rw [if_pos hc] at e
          refine do_append 2 rfl (ev_v 4) (fz3 _ _ _) (by rw [List.length_map]; omega) (others_of rfl) (do_nil ⟨some (formD a b ((b * b - i) / (4 * a))), ?_⟩)
          rw [e, List.map_append]
          rfl
        · have hc : ¬ lfC i a b = true := by
            unfold lfC
            rw [hL]
            simp
          rw [if_neg hc, List.append_nil] at e
          rw [e]
          exact do_nil ⟨_, rfl⟩
      · have hk' : ¬ (b * b - i) % (4 * a) = 0 := by simpa using hk
        have hc : ¬ lfC i a b = true := by
          unfold lfC
          simp [hk']
        rw [if_neg hc, List.append_nil] at e
        rw [e]
        exact do_nil ⟨_, rfl⟩
      · rintro ρ ⟨v, rfl⟩
        exact do_nil ⟨_, _, rfl, by omega⟩
    · rintro ρ ⟨u, v, rfl, _⟩
      rw [List.length_map, List.length_range]
      refine ⟨u, v, ?_⟩
      unfold lfA
      have : (a + 1 - -a).toNat = (2 * a + 1).toNat := by congr 1; omega
      rw [this]
    · rintro ρ ⟨u, v, rfl⟩
      exact do_ret (ev_v 2) ⟨l, rfl⟩ (fun a es z => by cases z; exact ⟨2, _, rfl⟩)
set_option maxHeartbeats 4000000 in
theorem ok_least_forms {f : Addr} {fd : FuncData} (G1 : Fn P w K mg base 4 "require_bar_from" p_require_bar_from) (G2 : FnL P w K mg base 6 "least_forms_from" p_lff) (C1 : Con K mg "LOWEST_LISTED_BAR" (.int (-4000))) (F : Fun K "least_forms" "least_forms" s_least_forms f fd) (hm : mg "least_forms" = some (.ref f)) (hb : Binds K fd ["bar"] []) : FnL P w K mg base 7 "least_forms" p_least_forms := by
  refine fnl_mk F sc_least_forms hm hb (fun ds es h => ?_) (fun cdv A outer s H E hr ds es h => ?_)
  · obtain ⟨i, rfl, _⟩ := h
    exact ⟨rfl, fun a es => by simp⟩
  · obtain ⟨i, rfl, hi, rfl⟩ := h
    have nd := sc_least_forms.nd
    have hr4 := hr.mono (show 4 ≤ 6 by decide)
    have i0 := hi.d.neg
    have i1 := hi.low
    refine do_expr (ev_call G1 hr4 (ea_cons (ev_v 0) (ea_cons (ev_con C1) ea_nil)) ⟨i, -4000, rfl, i0, hi.d.four, i1, rfl⟩) ?_
    refine do_setN 1 (evn_list ea_nil) (fun d hd => by cases hd) (fun l _ => ?_) nd
    refine do_set 2 ev_int (.int _) ?_ nd
    refine do_while (fun ρ => ∃ n : Nat, ρ = [some (.int i), some (.lst l ((lfs i n).map qD)), some (.int ((n : Int) + 1))] ∧ n ≤ 37) (fun ρ => ∃ u, ρ = [some (.int i), some (.lst l ((LF i).map qD)), u]) (fun ρ => (100 - intAt ρ 2).toNat) PassesOwn.never ⟨0, rfl, by decide⟩ ?_ ?_
    · rintro ρ ⟨n, rfl, hn⟩
      have bn : Bd ((n : Int) + 1) 6 := .of_lt (by omega)
      refine ⟨_, et_le (ev_mul (ev_mul ev_int (ev_v 2) bd_3 bn) (ev_v 2) (Bd.mul bd_3 bn 8 (by decide)) bn) (ev_neg (ev_v 0)), fun hk => ?_, fun hk => ?_⟩
      · have hk' : 3 * ((n : Int) + 1) * ((n : Int) + 1) ≤ -i := by simpa using hk
        have n36 : n ≤ 36 := by
          refine Nat.not_lt.mp fun z => ?_
          have := sq_mono (a := 38) (b := (n : Int) + 1) (by decide) (by omega)
          have e : 3 * ((n : Int) + 1) * ((n : Int) + 1) = 3 * (((n : Int) + 1) * ((n : Int) + 1)) := by grind
          omega
        have ll := lfs_len (i := i) n (by omega)
        have l2 : (lfA i ((n : Int) + 1)).length ≤ (2 * ((n : Int) + 1) + 1).toNat := lf_len _
        refine do_extend 1 rfl (evn_call G2 hr (ea_cons (ev_v 0) (ea_cons (ev_v 2) ea_nil)) ⟨i, (n : Int) + 1, rfl, hi, by omega, by omega, rfl⟩) (fzQs _) (by rw [List.length_map, List.length_map]; omega) (others_of rfl) ?_
        refine do_aug 2 rfl ev_int (do_nil ⟨⟨n + 1, ?_, by omega⟩, ?_⟩) nd
        · rw [lfs_succ, List.map_append]
          rfl
        · show (100 - ((n : Int) + 1 + 1)).toNat < (100 - ((n : Int) + 1)).toNat
          omega
      · have hk' : ¬ 3 * ((n : Int) + 1) * ((n : Int) + 1) ≤ -i := by simpa using hk
        have e : 3 * ((n : Int) + 1) * ((n : Int) + 1) = 3 * (((n : Int) + 1) * ((n : Int) + 1)) := by grind
        rw [lfs_end (by omega) (by omega)]
        exact ⟨_, rfl⟩
    · rintro ρ ⟨u, rfl⟩
      exact do_ret (ev_v 1) ⟨l, rfl⟩ (fun a es z => by cases z; exact ⟨1, _, rfl⟩)
set_option maxHeartbeats 4000000 in
theorem ok_classes {f : Addr} {fd : FuncData} (G1 : FnL P w K mg base 7 "least_forms" p_least_forms) (G2 : Fn P w K mg base 5 "is_bare" p_is_bare) (F : Fun K "classes" "classes" s_classes f fd) (hm : mg "classes" = some (.ref f)) (hb : Binds K fd ["bar"] []) : FnL P w K mg base 8 "classes" p_classes := by
  refine fnl_mk F sc_classes hm hb (fun ds es h => ?_) (fun cdv A outer s H E hr ds es h => ?_)
  · obtain ⟨i, rfl, _⟩ := h
    exact ⟨rfl, fun a es => by simp⟩
  · obtain ⟨i, rfl, hi, rfl⟩ := h
    have hr5 := hr.mono (show 5 ≤ 7 by decide)
    have ll := lfs_len (i := i) 40 (by decide)
    have e : (clsL i).map qD = (((LF i).map qD).filter fun d => bareB (qOf d)).map fun d => d := by
      unfold clsL
      rw [List.map_id', List.filter_map]
      rfl
    rw [e]
    refine do_retL (evn_compC [] [] [] (fun d => bareB (qOf d)) (fun d => d) (src_ls (EvN.ev (evn_call G1 hr (ea_cons (ev_v 0) ea_nil) ⟨i, rfl, hi, rfl⟩)) rfl) (by rw [List.length_map]; unfold LF; omega) (fun d hd _ => fzQs _ d hd) (fun C s₀ H₀ fp d hd => ?_) (fun C s₀ H₀ fp d hd _ => ev_v 0)) fun l => ⟨l, rfl⟩
    obtain ⟨q, hq, rfl⟩ := List.mem_map.mp hd
    have S := lf_small hi hq
    refine ets_one (Et.to (et_val (ev_call G2 hr5 (ea_cons (ev_v 0) ea_nil) ⟨q.a, q.b, q.c, rfl, S.n, rfl⟩)) ?_)
    rfl
theorem ok_want {g c' T c0 : Addr} {pm doc uc : Value} {o' : Obj} {z : Int} (z0 : 0 < z)
    (hf : base.get? g = some { cls := .type "function", data := .func (FN.clFd "_law_wanted" wantN (defArgs (inSt s_law 14)) (defBody (inSt s_law 14)) (defScope (inSt s_law 14)) mainGlobals "_law_by" c0 T pm (.ref c') doc) }) (ho : base.get? c' = some o')
    (hq : ∃ vs t, o'.data = .fields vs ∧ vs[1]? = some (.str wantN t)) (hc : base.IsCell c0 (some uc)) (rc : RelV (.int z) uc) :
    FnOk P w K mg base CX0 1 g (FN.clFd "_law_wanted" wantN (defArgs (inSt s_law 14)) (defBody (inSt s_law 14)) (defScope (inSt s_law 14)) mainGlobals "_law_by" c0 T pm (.ref c') doc) ["_law_form"] (SpD K (p_want z)) := by
  obtain ⟨vs, t, h1, h2⟩ := hq
  refine FN.cl_ok (p := "_law_form") (x := "_law_by") (dc := .int z) ⟨rfl, rfl, rfl, by decide, rfl, rfl, by decide, only_of rfl⟩ hf ⟨c', o', vs, t, rfl, ho, h1, h2⟩ hc rc (fun H => .int z) (fun ds d h => ?_) (fun A outer s H hr d0 d h => ?_) (.int z)
  · obtain ⟨q, rfl, _⟩ := h
    exact ⟨_, rfl, fun a es z => by cases z⟩
  · obtain ⟨q, e, rfl⟩ := h
    cases e
    exact do_ret (ev_eq (ev_mod (ev_ix (ev_v 0) ev_int rfl) (ev_v 1) z0) ev_int) rfl
set_option maxHeartbeats 4000000 in
theorem ok_kept {f : Addr} {fd : FuncData} (G1 : FnL P w K mg base 8 "classes" p_classes) (F : Fun K "kept" "kept" s_kept f fd) (hm : mg "kept" = some (.ref f)) (hb : Binds K fd ["bar", "wanted"] []) : FnK P w K mg base 9 "kept" f fd (inSt s_law 14) := by
  refine ⟨hm, F.kp, hb, fun g c' T c0 pm doc uc o' z z0 z5 hf ho hq hc rc => ?_⟩
  have W := ok_want (P := P) (w := w) (K := K) (mg := mg) z0 hf ho hq hc rc
  have bW : Binds K (FN.clFd "_law_wanted" wantN (defArgs (inSt s_law 14)) (defBody (inSt s_law 14)) (defScope (inSt s_law 14)) mainGlobals "_law_by" c0 T pm (.ref c') doc) ["_law_form"] [] := .all fun us hl => match us, hl with | [_], _ => rfl
  refine fnl_ok F sc_kept (fun ds es h => ?_) (fun cdv A outer s H E hr ds es h => ?_)
  · obtain ⟨i, rfl, _⟩ := h
    exact ⟨rfl, fun a es => by simp⟩
  · obtain ⟨i, rfl, hi, rfl⟩ := h
    have hr1 := hr.mono (show 1 ≤ 8 by decide)
    have ll := cls_len i
    have e : ((clsL i).filter (midB z)).map qD = (((clsL i).map qD).filter fun d => midB z (qOf d)).map fun d => d := by
      rw [List.map_id', List.filter_map]
      rfl
    rw [e]
    refine do_retL (evn_compC [("wanted", s.heap.objs.size + 1)] ["wanted"] [1] (fun d => midB z (qOf d)) (fun d => d) (src_ls (EvN.ev (evn_call G1 hr (ea_cons (ev_v 0) ea_nil) ⟨i, rfl, hi, rfl⟩)) rfl) (by rw [List.length_map]; omega) (fun d hd _ => fzQs _ d hd) (fun C s₀ H₀ fp d hd => ?_) (fun C s₀ H₀ fp d hd _ => ev_v 0)) fun l => ⟨l, rfl⟩
    obtain ⟨q, hq, rfl⟩ := List.mem_map.mp hd
    refine ets_one (Et.to (et_val (FN.ev_callV W hf bW hr1 (ev_v 1) (ea_cons (ev_v 0) ea_nil) ⟨q, rfl, rfl⟩)) ?_)
    rfl
theorem ok_law_ints {f : Addr} {fd : FuncData} (T : Tx mg) (F : Fun K "_law_ints" "_law_ints" s_law_ints f fd) (hm : mg "_law_ints" = some (.ref f)) (hb : Binds K fd ["_law_found", "_law_size"] []) :
    Fn P w K mg base 1 "_law_ints" p_law_ints := by
  refine fn_mk F sc_law_ints hm hb (fun ds d h => ?_) (fun cdv A outer s H E hr ds d h => ?_)
  · obtain ⟨ns, rfl, rfl⟩ := h
    exact ⟨rfl, fun a es => by simp⟩
  · obtain ⟨ns, rfl, rfl⟩ := h
    have nd := sc_law_ints.nd
    have e1 : lenD (.tup (ns.map D.int)) = some ns.length := by simp [lenD]
    refine do_ifF (et_w (ew_orF (et_notT (et_val (ev_isi T.isi (ev_v 0) T.tuple bo_tuple rfl kit_s))) (ew_or1 (Et.ff (et_ne (ev_len T.len (ev_v 0) e1) (ev_v 1)) rfl)))) ?_
    have fz : ∀ d ∈ ns.map D.int, Fz d := fun d hd => by
      obtain ⟨z, _, rfl⟩ := List.mem_map.mp hd
      exact .int z
    refine do_for 2 (fun i ρ => ∃ r, ρ = [some (.tup (ns.map D.int)), some (.int (ns.length : Int)), r]) (fun ρ => ∃ r, ρ = [some (.tup (ns.map D.int)), some (.int (ns.length : Int)), r]) PassesOwn.never rfl (wk_tup (ev_v 0) fz) fz (fun _ _ _ => trivial) ⟨none, rfl⟩ ?_ (fun ρ h => h) ?_ nd
    · rintro i d ρ hd ⟨r, rfl⟩
      obtain ⟨z, _, rfl⟩ := List.mem_map.mp (List.mem_of_getElem? hd)
      refine do_ifF (et_w (ew_orF (et_notT (et_val (ev_isi T.isi (ev_v 2) T.int bo_int rfl kit_s))) (ew_or1 (et_val (ev_isi T.isi (ev_v 2) T.bool bo_bool rfl kit_int_bool))))) (do_nil ⟨_, rfl⟩)
    · rintro ρ ⟨r, rfl⟩
      exact do_ret ev_bl rfl
theorem ok_law_cell_at {f : Addr} {fd : FuncData} (T : Tx mg) (F : Fun K "_law_cell_at" "_law_cell_at" s_law_cell_at f fd) (hm : mg "_law_cell_at" = some (.ref f)) (hb : Binds K fd ["_law_script", "_law_k"] []) :
    Fn P w K mg base 1 "_law_cell_at" p_law_cell_at := by
  refine fn_mk F sc_law_cell_at hm hb (fun ds d h => ?_) (fun cdv A outer s H E hr ds d h => ?_)
  · obtain ⟨ns, k, rfl, rfl⟩ := h
    exact ⟨rfl, fun a es => by simp⟩
  · obtain ⟨ns, k, rfl, rfl⟩ := h
    have e1 : lenD (scrD ns) = some ns.length := by simp [lenD]
    refine do_ifR (et_lt (ev_v 1) (ev_len T.len (ev_v 0) e1)) (fun hk => ?_) (fun hk => ?_)
    · have hk' : k < ns.length := by simpa using hk
      refine do_ret (ev_ixl (d := .int (cell ns k)) (ev_v 0) rfl (ev_v 1) (atI_nat ?_)) rfl
      rw [List.getElem?_map, List.getElem?_eq_getElem hk']
      simp [cell, List.getD, List.getElem?_eq_getElem hk']
    · have hk' : ns.length ≤ k := by simpa using hk
      refine do_ret ev_int ?_
      show D.int 0 = D.int _
      simp [cell, List.getD, List.getElem?_eq_none hk']
theorem ok_law_good {f : Addr} {fd : FuncData} (G1 : Fn P w K mg base 1 "_law_ints" p_law_ints) (F : Fun K "_law_good" "_law_good" s_law_good f fd) (hm : mg "_law_good" = some (.ref f)) (hb : Binds K fd ["_law_form"] []) : Fn P w K mg base 2 "_law_good" p_law_good := by
  refine fn_mk F sc_law_good hm hb (fun ds d h => ?_) (fun cdv A outer s H E hr ds d h => ?_)
  · obtain ⟨a, b, c, rfl, _, rfl⟩ := h
    exact ⟨rfl, fun a es => by simp⟩
  · obtain ⟨a, b, c, rfl, ha, rfl⟩ := h
    refine do_ifR (et_w (ew_orF (et_notT (et_val (ev_call G1 hr (ea_cons (ev_v 0) (ea_cons ev_int ea_nil)) ⟨[a, b, c], rfl, rfl⟩))) (ew_or (et_gt (ev_ix (ev_v 0) ev_int rfl) (ev_ix (ev_v 0) ev_int rfl)) fun _ => (ew_or (et_le (ev_ix (ev_v 0) ev_int rfl) (ev_neg (ev_ix (ev_v 0) ev_int rfl))) fun _ => (ew_or1 (et_gt (ev_ix (ev_v 0) ev_int rfl) (ev_ix (ev_v 0) ev_int rfl))))))) (fun hk => ?_) (fun hk => ?_)
    · refine do_ret ev_bl ?_
      show D.bl false = D.bl _
      congr 1
      refine (Bool.eq_false_iff.mpr fun z => ?_).symm
      have L := MT.leastB_iff.mp z
      have h1 := L.lo
      have h2 := L.hi
      have h3 := L.ac
      simp only [Bool.or_eq_true, decide_eq_true_eq] at hk
      omega
    · refine do_ret (ev_andT (Ev.tt (ev_gt (ev_ix (ev_v 0) ev_int rfl) ev_int) ha) (ev_one (ev_or (ev_lt (ev_ix (ev_v 0) ev_int rfl) (ev_ix (ev_v 0) ev_int rfl)) fun _ => (ev_one (ev_ge (ev_ix (ev_v 0) ev_int rfl) ev_int))))) ?_
      simp only [Bool.or_eq_false_iff, decide_eq_false_iff_not] at hk
      show D.bl _ = D.bl _
      congr 1
      rw [Bool.eq_iff_iff, MT.leastB_iff]
      simp only [Bool.or_eq_true, decide_eq_true_eq]
      constructor
      · intro h
        exact ⟨by omega, by omega, by omega, fun z => by omega⟩
      · intro L
        have h4 := L.eq
        omega
theorem ok_law_divisor {f : Addr} {fd : FuncData} (T : Tx mg) (F : Fun K "_law_divisor" "_law_divisor" s_law_divisor f fd) (hm : mg "_law_divisor" = some (.ref f)) (hb : Binds K fd ["_law_one", "_law_other"] []) :
    Fn P w K mg base 1 "_law_divisor" p_law_divisor := by
  refine fn_mk F sc_law_divisor hm hb (fun ds d h => ?_) (fun cdv A outer s H E hr ds d h => ?_)
  · obtain ⟨a, b, rfl, rfl⟩ := h
    exact ⟨rfl, fun a es => by simp⟩
  · obtain ⟨a, b, rfl, rfl⟩ := h
    have nd := sc_law_divisor.nd
    refine do_while (fun ρ => ∃ g l r, ρ = [some (.int g), some (.int l), r] ∧ Int.gcd g l = Int.gcd a b) (fun ρ => ∃ g r, ρ = [some (.int g), some (.int 0), r] ∧ Int.gcd g 0 = Int.gcd a b)
      (fun ρ => (intAt ρ 1).natAbs) PassesOwn.never ⟨a, b, none, rfl, rfl⟩ ?_ ?_
    · rintro ρ ⟨g, l, r, rfl, e⟩
      refine ⟨_, et_ne (ev_v 1) ev_int, fun hk => ?_, fun hk => ?_⟩
      · have hl0 : l ≠ 0 := by simpa using hk
        refine do_set 2 (ev_modN (ev_v 0) (ev_v 1) hl0) (.int _) (do_set 0 (ev_v 1) (.int _) (do_set 1 (ev_v 2) (.int _) (do_nil ⟨⟨l, g.fmod l, _, rfl, ?_⟩, ?_⟩) nd) nd) nd
        · rw [M.fmod_gcd]
          exact e
        · show (g.fmod l).natAbs < l.natAbs
          exact M.fmod_lt g hl0
      · have hl0 : l = 0 := by simpa using hk
        subst hl0
        exact ⟨g, r, rfl, e⟩
    · rintro ρ ⟨g, r, rfl, e⟩
      refine do_ret (ev_abs T.abs (ev_v 0)) ?_
      show D.int _ = D.int _
      rw [← e, Int.gcd_zero_right]
abbrev N_law : List Str := ["_law_script", "_law_a", "_law_b", "_law_c", "_law_bar", "_law_found", "_law_k", "_law_form", "_law_bare", "_law_by", "_law_wanted", "_law_due", "_law_again"]
/-- what is known behind the first part -/
def mid9 (ns : List Int) (ρ : Ro) : Prop := ∃ (i a b c z : Int) (l l2 : Addr) (u v : Option D), ρ = [some (scrD ns), some (.int a), some (.int b), some (.int c), some (.int i), some (.lst l ((LF i).map qD)), u, v, some (.lst l2 ((clsL i).map qD)), some (.int z), none, none, none] ∧
  BarL i ∧ 0 < z ∧ z ≤ 5 ∧ l2 ≠ l ∧ (∀ x es, u ≠ some (.lst x es)) ∧ ∀ x es, v ≠ some (.lst x es)
set_option maxHeartbeats 16000000 in
theorem law_a {f : Addr} (T : Tx mg) (Gc : Fn P w K mg base 1 "_law_cell_at" p_law_cell_at) (Gl : FnL P w K mg base 7 "least_forms" p_least_forms) (Gg : Fn P w K mg base 2 "_law_good" p_law_good) (Gd : Fn P w K mg base 1 "_law_divisor" p_law_divisor) (Gk : FnL P w K mg base 8 "classes" p_classes)
    (cd : Value) (s : Shared) (H : Hp) (Pl : Addr) (hr : Room 9 (callerA.deeper (PyProof.Rows.envOfC "law" (defScope s_law) s.heap.objs.size f cd))) (ns : List Int) (hns : PfL ns) :
    Do (FN.cxN P w K mg base N_law "law" (defScope s_law) f cd callerA s H Pl [(Pl, FN.tabO #[])]) ((defBody s_law).take 14) (ini N_law [.ls (ns.map D.int)]) { nx := mid9 ns, rt := fun d => d = .bl true } := by
  obtain ⟨hlen, hs⟩ := hns
  have nd := sc_law.nd
  have hr1 := hr.mono (show 1 ≤ 9 by decide)
  have hr2 := hr.mono (show 2 ≤ 9 by decide)
  have hr7 := hr.mono (show 7 ≤ 9 by decide)
  have hr8 := hr.mono (show 8 ≤ 9 by decide)
  refine do_set 1 (ev_add ev_int (ev_mod (ev_call Gc hr1 (ea_cons (ev_v 0) (ea_cons ev_int ea_nil)) ⟨ns, 0, rfl, rfl⟩) ev_int (by decide))) (.int _) ?_ nd
  have a0 := Int.emod_nonneg (cell ns 0) (show (36 : Int) ≠ 0 by decide)
  have a1 := Int.emod_lt_of_pos (cell ns 0) (show (0 : Int) < 36 by decide)
  obtain ⟨a, ea, pa, la⟩ : ∃ a : Int, 1 + cell ns 0 % 36 = a ∧ 0 < a ∧ a ≤ 36 := ⟨_, rfl, by omega, by omega⟩
  rw [ea]
  clear a0 a1 ea
  have ba : Bd a 7 := .of_lt (by omega)
  refine do_set 2 (ev_sub (ev_v 1) (ev_mod (ev_call Gc hr1 (ea_cons (ev_v 0) (ea_cons ev_int ea_nil)) ⟨ns, 1, rfl, rfl⟩) (ev_mul ev_int (ev_v 1) bd_2 ba) (by omega))) (.int _) ?_ nd
  have c0 := Int.emod_nonneg (cell ns 1) (show 2 * a ≠ 0 by omega)
  have c1 := Int.emod_lt_of_pos (cell ns 1) (show 0 < 2 * a by omega)
  obtain ⟨b, eb, lb, hb⟩ : ∃ b : Int, a - cell ns 1 % (2 * a) = b ∧ -a < b ∧ b ≤ a := ⟨_, rfl, by omega, by omega⟩
  rw [eb]
  clear c0 c1 eb
  have sqa : a * a ≤ 1296 := by
    have := Int.mul_le_mul la la (by omega) (by decide)
    omega
  refine do_while (fun ρ => ∃ b : Int, ρ = [some (scrD ns), some (.int a), some (.int b), none, none, none, none, none, none, none, none, none, none] ∧ -a ≤ b ∧ b ≤ a)
    (fun ρ => ∃ b : Int, ρ = [some (scrD ns), some (.int a), some (.int b), none, none, none, none, none, none, none, none, none, none] ∧ -a ≤ b ∧ b ≤ a ∧ 4 * a * a - b * b ≤ 4000) (fun ρ => a.toNat - (intAt ρ 2).natAbs) PassesOwn.never ⟨b, rfl, by omega, hb⟩ ?_ ?_
  · clear lb hb
    clear b
    rintro ρ ⟨b, rfl, lb, hb⟩
    have bb : Bd b 7 := .of_lt (by omega)
    refine ⟨_, et_gt (ev_sub (ev_mul (ev_mul ev_int (ev_v 1) bd_4 ba) (ev_v 1) (Bd.mul bd_4 ba 10 (by decide)) ba) (ev_mul (ev_v 2) (ev_v 2) bb bb)) ev_int, fun hk => ?_, fun hk => ⟨b, rfl, lb, hb, by simpa using hk⟩⟩
    have hk' : 4000 < 4 * a * a - b * b := by simpa using hk
    have lt : b.natAbs < a.toNat := by
      refine Nat.lt_of_not_le fun z => ?_
      have e : b = a ∨ b = -a := by omega
      have e2 : b * b = a * a := by rcases e with e | e <;> rw [e] <;> grind
      have e3 : 4 * a * a = 4 * (a * a) := by grind
      omega
    have bI : Bd (if decide (b < 0) = true then (1 : Int) else 0) 2 := by
      split
      · exact .of_lt (by decide)
      · exact .of_lt (by decide)
    refine do_set 2 (ev_sub (ev_add (ev_v 2) ev_int) (ev_mul ev_int (ev_intB T.int (ev_lt (ev_v 2) ev_int)) bd_2 bI)) (.int _) (do_nil ⟨⟨_, rfl, ?_, ?_⟩, ?_⟩) nd
    · by_cases hb0 : b < 0
      · rw [if_pos (by simpa using hb0)]; omega
      · rw [if_neg (by simpa using hb0)]; omega
    · by_cases hb0 : b < 0
      · rw [if_pos (by simpa using hb0)]; omega
      · rw [if_neg (by simpa using hb0)]; omega
    · show a.toNat - (b + 1 - 2 * (if decide (b < 0) = true then (1 : Int) else 0)).natAbs < a.toNat - b.natAbs
      by_cases hb0 : b < 0
      · rw [if_pos (by simpa using hb0)]; omega
      · rw [if_neg (by simpa using hb0)]; omega
  clear lb hb
  clear b
  rintro ρ ⟨b, rfl, lb, hb, h4⟩
  refine do_if (fun ρ => ∃ b : Int, ρ = [some (scrD ns), some (.int a), some (.int b), none, none, none, none, none, none, none, none, none, none] ∧ -a < b ∧ b ≤ a ∧ 4 * a * a - b * b ≤ 4000) (et_eq (ev_v 2) (ev_neg (ev_v 1))) (fun hk => ?_) (fun hk => ?_) ?_
  · have hk' : b = -a := by simpa using hk
    refine do_set 2 (ev_v 1) (.int _) (do_nil ⟨a, rfl, by omega, Int.le_refl _, ?_⟩) nd
    have e3 : 4 * a * a = 4 * (a * a) := by grind
    omega
  · have hk' : ¬ b = -a := by simpa using hk
    exact do_nil ⟨b, rfl, by omega, hb, h4⟩
  clear lb hb h4
  clear b
  rintro ρ ⟨b, rfl, lb, hb, h4⟩
  have bb : Bd b 7 := .of_lt (by omega)
  have e4 : 4 * a * a = 4 * (a * a) := by grind
  have sqb : b * b ≤ a * a := by
    have := MT.mul_nn (show 0 ≤ a - b by omega) (show 0 ≤ a + b by omega)
    grind
  have sqb0 := MT.sq_nonneg b
  have q1 := Int.mul_ediv_add_emod (4000 + b * b) (4 * a)
  have q2 := Int.emod_nonneg (4000 + b * b) (show 4 * a ≠ 0 by omega)
  have q3 := Int.emod_lt_of_pos (4000 + b * b) (show 0 < 4 * a by omega)
  have mod : a ≤ (4000 + b * b) / (4 * a) := by
    refine Int.not_lt.mp fun z => ?_
    have := Int.mul_le_mul_of_nonneg_left (show (4000 + b * b) / (4 * a) ≤ a - 1 by omega) (show 0 ≤ 4 * a by omega)
    have e : 4 * a * (a - 1) = 4 * (a * a) - 4 * a := by grind
    omega
  refine do_set 3 (ev_add (ev_v 1) (ev_mod (ev_call Gc hr1 (ea_cons (ev_v 0) (ea_cons ev_int ea_nil)) ⟨ns, 2, rfl, rfl⟩) (ev_add (ev_sub (ev_div (ev_add ev_int (ev_mul (ev_v 2) (ev_v 2) bb bb)) (ev_mul ev_int (ev_v 1) bd_4 ba) (by omega) (Bd.mul bd_4 ba 10 (by decide))) (ev_v 1)) ev_int) (by omega))) (.int _) ?_ nd
  obtain ⟨c, ec, lc, hc⟩ : ∃ c : Int, a + cell ns 2 % ((4000 + b * b) / (4 * a) - a + 1) = c ∧ a ≤ c ∧ c ≤ (4000 + b * b) / (4 * a) := by
    have h1 := Int.emod_nonneg (cell ns 2) (show (4000 + b * b) / (4 * a) - a + 1 ≠ 0 by omega)
    have h2 := Int.emod_lt_of_pos (cell ns 2) (show 0 < (4000 + b * b) / (4 * a) - a + 1 by omega)
    exact ⟨_, rfl, by omega, by omega⟩
  rw [ec]
  clear ec
  have lowb : -4000 ≤ b * b - 4 * a * c := by
    have := Int.mul_le_mul_of_nonneg_left hc (show 0 ≤ 4 * a by omega)
    omega
  have neg : b * b - 4 * a * c < 0 := by
    have := Int.mul_le_mul_of_nonneg_left lc (show 0 ≤ 4 * a by omega)
    have := Int.mul_pos pa pa
    omega
  have cq : c ≤ 5296 := by
    have : (4000 + b * b) / (4 * a) ≤ 4000 + b * b := Int.ediv_le_self _ (by omega)
    omega
  refine do_if (fun ρ => ∃ b : Int, ρ = [some (scrD ns), some (.int a), some (.int b), some (.int c), none, none, none, none, none, none, none, none, none] ∧ MT.Least a b c ∧ -4000 ≤ b * b - 4 * a * c ∧ b * b - 4 * a * c < 0) (et_w (ew_and (et_eq (ev_v 1) (ev_v 3)) fun _ => (ew_and1 (et_lt (ev_v 2) ev_int)))) (fun hk => ?_) (fun hk => ?_) ?_
  · have hk' : a = c ∧ b < 0 := by simpa using hk
    refine do_set 2 (ev_neg (ev_v 2)) (.int _) (do_nil ⟨-b, rfl, ⟨by omega, by omega, by omega, fun _ => by omega⟩, ?_, ?_⟩) nd
    · rw [Int.neg_mul_neg]; exact lowb
    · rw [Int.neg_mul_neg]; exact neg
  · have hk' : ¬ (a = c ∧ b < 0) := by simpa using hk
    exact do_nil ⟨b, rfl, ⟨by omega, by omega, by omega, fun z => by omega⟩, lowb, neg⟩
  clear lb hb h4 bb sqb sqb0 q1 q2 q3 mod hc lowb neg
  clear b
  rintro ρ ⟨b, rfl, L, lowb, neg⟩
  have blo := L.lo
  have bhi := L.hi
  have bb : Bd b 7 := .of_lt (by omega)
  have bc : Bd c 13 := .of_lt (by omega)
  refine do_set 4 (ev_sub (ev_mul (ev_v 2) (ev_v 2) bb bb) (ev_mul (ev_mul ev_int (ev_v 1) bd_4 ba) (ev_v 3) (Bd.mul bd_4 ba 10 (by decide)) bc)) (.int _) ?_ nd
  have hi : BarL (b * b - 4 * a * c) := by
    refine ⟨bard_of neg, lowb⟩
  have hq : (⟨a, b, c⟩ : MG.Q) ∈ LF (b * b - 4 * a * c) := (mem_LF lowb).mpr ⟨⟨pa, rfl⟩, L⟩
  generalize hI : b * b - 4 * a * c = i at *
  refine do_setN 5 (evn_call Gl hr7 (ea_cons (ev_v 4) ea_nil) ⟨i, rfl, hi, rfl⟩) (fzQs _) (fun l _ => ?_) nd
  have ll := lfs_len (i := i) 40 (by decide)
  have ll' : (LF i).length ≤ 4000 := by unfold LF; omega
  have hin : inD (qD ⟨a, b, c⟩) ((LF i).map qD) = true := inD_iff.mpr (List.mem_map.mpr ⟨_, hq, rfl⟩)
  refine do_ifR (et_w (ew_orF (et_notT (et_val (ev_isi T.isi (ev_v 5) T.list bo_list rfl kit_s))) (ew_or1 (et_notin (n := 1) hr1 (ev_tup (ea_cons (ev_v 1) (ea_cons (ev_v 2) (ea_cons (ev_v 3) ea_nil)))) (ev_v 5) (.inl rfl) (fun z hz => ?_))))) (fun hk => ?_) (fun _ => ?_)
  · obtain ⟨q, _, rfl⟩ := List.mem_map.mp hz
    exact Cm.ints [q.a, q.b, q.c] [a, b, c]
  · exfalso
    have hk' : (!inD (qD ⟨a, b, c⟩) ((LF i).map qD)) = true := hk
    rw [hin] at hk'
    cases hk'
  -- the walk through the list
  refine do_for 6 (fun t ρ => ∃ u v : Option D, ρ = [some (scrD ns), some (.int a), some (.int b), some (.int c), some (.int i), some (.lst l ((LF i).map qD)), u, v, none, none, none, none, none] ∧ (∀ x es, u ≠ some (.lst x es)) ∧ ∀ x es, v ≠ some (.lst x es))
    (fun ρ => ∃ u v : Option D, ρ = [some (scrD ns), some (.int a), some (.int b), some (.int c), some (.int i), some (.lst l ((LF i).map qD)), u, v, none, none, none, none, none] ∧ (∀ x es, u ≠ some (.lst x es)) ∧ ∀ x es, v ≠ some (.lst x es)) PassesOwn.never rfl
    (wk_range1 T.range (ev_len T.len (ev_v 5) rfl) (by omega) (by rw [List.length_map]; omega)) (fun d hd => ?_) (fun _ _ _ => trivial) ⟨none, none, rfl, (fun _ _ z => by cases z), (fun _ _ z => by cases z)⟩ ?_ (fun ρ h => h) ?_ nd
  · obtain ⟨z, _, rfl⟩ := List.mem_map.mp hd
    exact .int _
  · rintro t d ρ hdt ⟨u, v, rfl, hu, hv⟩
    have tl : t < (LF i).length := by
      have := (List.getElem?_eq_some_iff.mp hdt).1
      simpa using this
    rw [List.getElem?_map, List.getElem?_range (by simpa using tl)] at hdt
    obtain rfl : d = D.int (t : Int) := by
      have := Option.some.inj hdt
      rw [← this]
      simp
    have eq : (LF i)[t]? = some (LF i)[t] := List.getElem?_eq_getElem tl
    generalize hqq : (LF i)[t] = q at eq
    have hqm : q ∈ LF i := List.mem_of_getElem? eq
    have S := lf_small hi hqm
    obtain ⟨oq, Lq⟩ := (mem_LF hi.low).mp hqm
    have at0 : atI ((LF i).map qD) (t : Int) = some (qD q) := atI_nat (by rw [List.getElem?_map, eq]; rfl)
    refine do_set 7 (ev_ixl (ev_v 5) rfl (ev_v 6) at0) (fzQ q) ?_ nd
    have up : ∀ {z : Int}, Bd z 3000 → Bd z 3000 := fun h => h
    refine do_ifR (et_w (ew_orF (et_notT (Et.to (et_val (ev_call Gg hr2 (ea_cons (ev_v 7) ea_nil) ⟨q.a, q.b, q.c, rfl, oq.pos, rfl⟩)) (MT.leastB_iff.mpr Lq))) (ew_or1 (et_ne (ev_sub (ev_mul (ev_ix (ev_v 7) ev_int rfl) (ev_ix (ev_v 7) ev_int rfl) S.sb S.sb) (ev_mul (ev_mul ev_int (ev_ix (ev_v 7) ev_int rfl) bd_4 S.sa) (ev_ix (ev_v 7) ev_int rfl) (Bd.mul bd_4 S.sa 3003 (by decide)) S.sc)) (ev_v 4))))) (fun hk => ?_) (fun _ => ?_)
    · exfalso
      have hk' : ¬ (q.b * q.b - 4 * q.a * q.c = i) := by simpa using hk
      exact hk' oq.bar
    refine do_ifR (et_w (ew_and (et_gt (ev_v 6) ev_int) fun ht => (ew_and1 (?_ : Et _ _ _ false)))) (fun hk => ?_) (fun _ => ?_)
    · have ht' : 0 < (t : Int) := by simpa using ht
      obtain ⟨t', rfl⟩ : ∃ t', t = t' + 1 := ⟨t - 1, by omega⟩
      have tl' : t' < (LF i).length := by omega
      have eq' : (LF i)[t']? = some (LF i)[t'] := List.getElem?_eq_getElem tl'
      generalize hqq' : (LF i)[t'] = q' at eq'
      have at1 : atI ((LF i).map qD) (((t' + 1 : Nat) : Int) - 1) = some (qD q') := by
        rw [show (((t' + 1 : Nat) : Int) - 1) = (t' : Int) by omega]
        exact atI_nat (by rw [List.getElem?_map, eq']; rfl)
      have h2 : ¬ ([q.a, q.b] : List Int) ≤ [q'.a, q'.b] := lf_before eq' eq
      refine Et.to (et_geT (ns := [q'.a, q'.b]) (ms := [q.a, q.b]) hr1 (ev_sliceT (ds := [.int q'.a, .int q'.b, .int q'.c]) (l := none) (u := some 2) (ev_ixl (ev_v 5) rfl (ev_sub (ev_v 6) ev_int) at1) eo_none (eo_some ev_int) (show ¬ (HT.sIx 3 0 none = 0 ∧ HT.sIx 3 3 (some 2) = 3) by decide)) (ev_sliceT (ds := [.int q.a, .int q.b, .int q.c]) (l := none) (u := some 2) (ev_v 7) eo_none (eo_some ev_int) (show ¬ (HT.sIx 3 0 none = 0 ∧ HT.sIx 3 3 (some 2) = 3) by decide))) ?_
      exact decide_eq_false h2
    · exfalso
      simp at hk
    · exact do_nil ⟨_, _, rfl, (fun _ _ z => by cases z), (fun _ _ z => by cases z)⟩
  rintro ρ ⟨u, v, rfl, hu, hv⟩
  refine do_setN 8 (evn_list ea_nil) (fun d hd => by cases hd) (fun l2 hl2 => ?_) nd
  have hne : l2 ≠ l := fun z => hl2 (z ▸ ⟨5, _, rfl⟩)
  clear hl2
  -- the bare ones
  refine do_for 7 (fun t ρ => ∃ v : Option D, ρ = [some (scrD ns), some (.int a), some (.int b), some (.int c), some (.int i), some (.lst l ((LF i).map qD)), u, v, some (.lst l2 ((((LF i).take t).filter bareB).map qD)), none, none, none, none] ∧ ∀ x es, v ≠ some (.lst x es))
    (fun ρ => ∃ v : Option D, ρ = [some (scrD ns), some (.int a), some (.int b), some (.int c), some (.int i), some (.lst l ((LF i).map qD)), u, v, some (.lst l2 ((clsL i).map qD)), none, none, none, none] ∧ ∀ x es, v ≠ some (.lst x es)) PassesOwn.never rfl
    (wk_own 5) (fzQs _) (fun t ρ => by rintro ⟨v, rfl, _⟩; rfl) ⟨v, rfl, hv⟩ ?_ (fun ρ h => ?_) ?_ nd
  · rintro t d ρ hdt ⟨v, rfl, _⟩
    rw [List.getElem?_map] at hdt
    obtain ⟨q, eq, rfl⟩ := Option.map_eq_some_iff.mp hdt
    have hqm : q ∈ LF i := List.mem_of_getElem? eq
    have tl : t < (LF i).length := (List.getElem?_eq_some_iff.mp eq).1
    have et : ((LF i).take (t + 1)).filter bareB = ((LF i).take t).filter bareB ++ (if bareB q = true then [q] else []) := by
      rw [List.take_add_one, eq, List.filter_append]
      congr 1
      by_cases h : bareB q = true
      · simp [h]
      · simp [h]
    have lt : (((LF i).take t).filter bareB).length ≤ 4000 := by
      have := List.length_filter_le bareB ((LF i).take t)
      rw [List.length_take] at this
      omega
    refine do_if (fun ρ => ∃ v : Option D, ρ = [some (scrD ns), some (.int a), some (.int b), some (.int c), some (.int i), some (.lst l ((LF i).map qD)), u, v, some (.lst l2 ((((LF i).take (t + 1)).filter bareB).map qD)), none, none, none, none] ∧ ∀ x es, v ≠ some (.lst x es))
      (et_eq (ev_call Gd hr1 (ea_cons (ev_call Gd hr1 (ea_cons (ev_ix (ev_v 7) ev_int rfl) (ea_cons (ev_ix (ev_v 7) ev_int rfl) ea_nil)) ⟨q.a, q.b, rfl, rfl⟩) (ea_cons (ev_ix (ev_v 7) ev_int rfl) ea_nil)) ⟨_, q.c, rfl, rfl⟩) ev_int) (fun hk => ?_) (fun hk => ?_) (fun ρ h => do_nil h)
    · have hB : bareB q = true := hk
      refine do_append 8 rfl (ev_v 7) (fzQ q) (by rw [List.length_map]; omega) (fun j es hj => ?_) (do_nil ⟨some (qD q), ?_, (fun x es z => by cases z)⟩)
      · match j, hj with
        | 0, _ => exact fun z => by cases z
        | 1, _ => exact fun z => by cases z
        | 2, _ => exact fun z => by cases z
        | 3, _ => exact fun z => by cases z
        | 4, _ => exact fun z => by cases z
        | 5, _ => exact fun z => by cases z; exact hne rfl
        | 6, _ => exact fun z => hu l2 es (Option.some.inj z)
        | 7, _ => exact fun z => by cases z
        | 9, _ => exact fun z => by cases z
        | 10, _ => exact fun z => by cases z
        | 11, _ => exact fun z => by cases z
        | 12, _ => exact fun z => by cases z
        | n + 13, _ => exact fun z => by cases z
      · rw [et, if_pos hB, List.map_append]
        rfl
    · have hB : ¬ bareB q = true := by rw [show bareB q = false from hk]; simp
      refine do_nil ⟨some (qD q), ?_, (fun x es z => by cases z)⟩
      rw [et, if_neg hB, List.append_nil]
      rfl
  · obtain ⟨v, rfl, h2⟩ := h
    refine ⟨v, ?_, h2⟩
    rw [List.length_map, List.take_length]
    rfl
  clear hv
  clear v
  rintro ρ ⟨v, rfl, hv⟩
  refine do_ifR (et_neL (n := 1) hr1 (EvN.ev (evn_call Gk hr8 (ea_cons (ev_v 4) ea_nil) ⟨i, rfl, hi, rfl⟩)) (ev_v 8) rfl rfl (cms_qs _ _)) (fun hk => ?_) (fun _ => ?_)
  · exfalso
    rw [eqb_of (k := true) (by simp)] at hk
    cases hk
  have z0 := Int.emod_nonneg (cell ns 3) (show (5 : Int) ≠ 0 by decide)
  have z1 := Int.emod_lt_of_pos (cell ns 3) (show (0 : Int) < 5 by decide)
  refine do_set 9 (ev_add ev_int (ev_mod (ev_call Gc hr1 (ea_cons (ev_v 0) (ea_cons ev_int ea_nil)) ⟨ns, 3, rfl, rfl⟩) ev_int (by decide))) (.int _) (do_nil ⟨i, a, b, c, 1 + cell ns 3 % 5, l, l2, u, v, rfl, hi, by omega, by omega, hne, hu, hv⟩) nd
set_option maxHeartbeats 16000000 in
theorem law_b {f fk : Addr} {fdk : FuncData} (T : Tx mg) (Gl : FnL P w K mg base 7 "least_forms" p_least_forms) (HK : ∀ base : Heap, FnK P w K mg base 9 "kept" fk fdk (inSt s_law 14))
    (cd : Value) (s : Shared) (H : Hp) (Pl : Addr) (hr : Room 9 (callerA.deeper (PyProof.Rows.envOfC "law" (defScope s_law) s.heap.objs.size f cd))) (ns : List Int) (ρ : Ro) (hm : mid9 ns ρ) (g c' T' : Addr) (pm doc : Value) (o' : Obj) (ps : Array Value)
    (hcode : ∃ vs t, o'.data = .fields vs ∧ vs[1]? = some (.str wantN t)) :
    Do (FN.cxN P w K mg base N_law "law" (defScope s_law) f cd callerA s H Pl [(Pl, FN.tabO ps), (g, { cls := .type "function", data := .func (FN.clFd "_law_wanted" wantN (defArgs (inSt s_law 14)) (defBody (inSt s_law 14)) (defScope (inSt s_law 14)) mainGlobals "_law_by" (s.heap.objs.size + 1) T' pm (.ref c') doc) }), (c', o')])
      ((defBody s_law).drop 15) (ρ.set 10 (some (.ob g))) { nx := fun _ => False, rt := fun d => d = .bl true } := by
  obtain ⟨i, a, b, c, z, l, l2, u, v, rfl, hi, z0, z5, hne, hu, hv⟩ := hm
  have nd := sc_law.nd
  have hr1 := hr.mono (show 1 ≤ 9 by decide)
  have hr7 := hr.mono (show 7 ≤ 9 by decide)
  have ll := cls_len i
  have fe : (((clsL i).map qD).filter fun d => midB z (qOf d)).map (fun d => d) = ((clsL i).filter (midB z)).map qD := by
    rw [List.map_id', List.filter_map]
    rfl
  refine do_setC (ds := (clsL i).map qD) 11 [("_law_by", s.heap.objs.size + 1)] ["_law_by"] [9] (fun d => midB z (qOf d)) (fun d => d) (src_ls (ev_v 8) rfl) (by rw [List.length_map]; omega) (fun d hd _ => fzQs _ d hd) (fun C s₀ H₀ fp d hd => ?_) (fun C s₀ H₀ fp d hd _ => ev_v 0) (fun l3 h3 => ?_) nd
  · obtain ⟨q, _, rfl⟩ := List.mem_map.mp hd
    exact ets_one (et_eq (ev_mod (ev_ix (ev_v 0) ev_int rfl) (ev_v 1) z0) ev_int)
  have hn3 : l3 ≠ l := fun z => h3 (z ▸ ⟨5, _, rfl⟩)
  rw [fe]
  obtain ⟨k1, k2, k3, _⟩ := HK base
  refine do_ifR (et_neL (n := 1) hr1 (EvN.ev (FN.evn_callX (k := 9) (fk := fk) (fdk := fdk) (ps := ["bar", "wanted"]) (x := "_law_by") (g := g) (c' := c') (c0 := s.heap.objs.size + 1) (j := 9) (z := z) (ds := [.int i, .ob g]) (fs := ((clsL i).filter (midB z)).map qD) (Pf := p_kept g z)
      k1 k2 k3 (.tail _ (.head _)) (.tail _ (.tail _ (.head _))) rfl rfl rfl rfl (fun base' uc _ _ e1 e2 e3 e4 => (HK base').2.2.2 g c' T' (s.heap.objs.size + 1) pm doc uc o' z z0 z5 e1 e2 hcode e3 e4) hr (ea_cons (ev_v 4) (ea_cons (ev_v 10) ea_nil)) ⟨i, rfl, hi, rfl⟩)) (ev_v 11) rfl rfl (cms_qs _ _)) (fun hk => ?_) (fun _ => ?_)
  · exfalso
    rw [eqb_of (k := true) (by simp)] at hk
    cases hk
  refine do_setN 12 (evn_listOf T.list (ev_v 5) rfl) (fzQs _) (fun l4 h4 => ?_) nd
  have hn4 : l4 ≠ l := fun z => h4 (z ▸ ⟨5, _, rfl⟩)
  refine do_clear 5 rfl (fun j es hj => ?_) ?_
  · match j, hj with
    | 0, _ => exact fun z => by cases z
    | 1, _ => exact fun z => by cases z
    | 2, _ => exact fun z => by cases z
    | 3, _ => exact fun z => by cases z
    | 4, _ => exact fun z => by cases z
    | 6, _ => exact fun z => hu l es (Option.some.inj z)
    | 7, _ => exact fun z => hv l es (Option.some.inj z)
    | 8, _ => exact fun z => by cases z; exact hne rfl
    | 9, _ => exact fun z => by cases z
    | 10, _ => exact fun z => by cases z
    | 11, _ => exact fun z => by cases z; exact hn3 rfl
    | 12, _ => exact fun z => by cases z; exact hn4 rfl
    | n + 13, _ => exact fun z => by cases z
  refine do_ret (ev_eqL (n := 1) hr1 (EvN.ev (evn_call Gl hr7 (ea_cons (ev_v 4) ea_nil) ⟨i, rfl, hi, rfl⟩)) (ev_v 12) rfl rfl (cms_qs _ _)) ?_
  rw [eqb_of (k := true) (by simp)]
theorem ok_law {f fk : Addr} {fd fdk : FuncData} (T : Tx mg) (Gc : Fn P w K mg base 1 "_law_cell_at" p_law_cell_at) (Gl : FnL P w K mg base 7 "least_forms" p_least_forms) (Gg : Fn P w K mg base 2 "_law_good" p_law_good) (Gd : Fn P w K mg base 1 "_law_divisor" p_law_divisor) (Gk : FnL P w K mg base 8 "classes" p_classes)
    (G9 : FnK P w K mg base 9 "kept" fk fdk (inSt s_law 14)) (HK : ∀ base : Heap, FnK P w K mg base 9 "kept" fk fdk (inSt s_law 14)) (hb : ∀ (s : Shared) (u : Value), BindsTo s fd ⟨[u], []⟩ [("_law_script", u)]) (F : Fun K "law" "law" s_law f fd) : FN.NestOk P w K mg base 10 f fd PfL := by
  exact FN.nest_ok (x := "_law_by") (c0 := fun L => L + 1) mid9 F sc_law hb (pre := (defBody s_law).take 14) (suf := (defBody s_law).drop 15) rfl rfl rfl (fun _ _ _ => rfl) (fun _ _ _ => rfl)
    (fun cd s H Pl hr ns h => law_a T Gc Gl Gg Gd Gk cd s H Pl hr ns h)
    (fun cd s H Pl hr ns ρ _ hm g c' T' pm doc o' ps hcode => law_b T Gl HK cd s H Pl hr ns ρ hm g c' T' pm doc o' ps hcode)
end
theorem all_mk {l : PySem.W.OpenLaw} {w : World} {K : PySem.W.Frag} {h : Heap} {mg : Str → Option Value} {fa f0 f1 f2 f3 f4 f5 f6 f7 f8 f9 f10 f11 f12 f13 f14 f15 f16 f17 f18 f19 : Addr} (X : K.In h) (G : h.Ns mainGlobals mg) (hfa : mg "law" = some (.ref fa))
    {od0 an0 od1 an1 od2 an2 od3 an3 od4 an4 od5 an5 od6 an6 od7 an7 od8 an8 od9 an9 od10 an10 od11 an11 od12 an12 od13 an13 od14 an14 od15 an15 od16 an16 od17 an17 od18 an18 od19 an19 : Option Addr} {sl0 sl1 sl2 sl3 sl4 sl5 sl6 sl7 sl8 sl9 sl10 sl11 sl12 sl13 sl14 sl15 sl16 sl17 sl18 sl19 : Array (Option Value)} {oc0 kV0 dc0 pm0 cd0 ct0 oc1 kV1 dc1 pm1 cd1 ct1 oc2 kV2 dc2 pm2 cd2 ct2 oc3 kV3 dc3 pm3 cd3 ct3 oc4 kV4 dc4 pm4 cd4 ct4 oc5 kV5 dc5 pm5 cd5 ct5 oc6 kV6 dc6 pm6 cd6 ct6 oc7 kV7 dc7 pm7 cd7 ct7 oc8 kV8 dc8 pm8 cd8 ct8 oc9 kV9 dc9 pm9 cd9 ct9 oc10 kV10 dc10 pm10 cd10 ct10 oc11 kV11 dc11 pm11 cd11 ct11 oc12 kV12 dc12 pm12 cd12 ct12 oc13 kV13 dc13 pm13 cd13 ct13 oc14 kV14 dc14 pm14 cd14 ct14 oc15 kV15 dc15 pm15 cd15 ct15 oc16 kV16 dc16 pm16 cd16 ct16 oc17 kV17 dc17 pm17 cd17 ct17 oc18 kV18 dc18 pm18 cd18 ct18 oc19 kV19 dc19 pm19 cd19 ct19 : Value}
    (a0 : PySem.W.nsIn K mainGlobals "is_whole" = some (some (.ref f0))) (l0 : K.lookup f0 = some ⟨oc0, od0, .func (PySem.W.fnOf "is_whole" "is_whole" (defArgs s_is_whole) (defBody s_is_whole) (defScope s_is_whole) .none kV0 dc0 pm0 an0 cd0 ct0), sl0⟩) (c0 : PySem.W.codeIn K cd0 "is_whole" = true) (k0 : PySem.W.keepIn K (.ref f0) = true)
    (a1 : PySem.W.nsIn K mainGlobals "is_whole_tuple" = some (some (.ref f1))) (l1 : K.lookup f1 = some ⟨oc1, od1, .func (PySem.W.fnOf "is_whole_tuple" "is_whole_tuple" (defArgs s_is_whole_tuple) (defBody s_is_whole_tuple) (defScope s_is_whole_tuple) .none kV1 dc1 pm1 an1 cd1 ct1), sl1⟩) (c1 : PySem.W.codeIn K cd1 "is_whole_tuple" = true) (k1 : PySem.W.keepIn K (.ref f1) = true)
    (a2 : PySem.W.nsIn K mainGlobals "is_bar" = some (some (.ref f2))) (l2 : K.lookup f2 = some ⟨oc2, od2, .func (PySem.W.fnOf "is_bar" "is_bar" (defArgs s_is_bar) (defBody s_is_bar) (defScope s_is_bar) .none kV2 dc2 pm2 an2 cd2 ct2), sl2⟩) (c2 : PySem.W.codeIn K cd2 "is_bar" = true) (k2 : PySem.W.keepIn K (.ref f2) = true)
    (a3 : PySem.W.nsIn K mainGlobals "require_bar" = some (some (.ref f3))) (l3 : K.lookup f3 = some ⟨oc3, od3, .func (PySem.W.fnOf "require_bar" "require_bar" (defArgs s_require_bar) (defBody s_require_bar) (defScope s_require_bar) .none kV3 dc3 pm3 an3 cd3 ct3), sl3⟩) (c3 : PySem.W.codeIn K cd3 "require_bar" = true) (k3 : PySem.W.keepIn K (.ref f3) = true)
    (a4 : PySem.W.nsIn K mainGlobals "require_bar_from" = some (some (.ref f4))) (l4 : K.lookup f4 = some ⟨oc4, od4, .func (PySem.W.fnOf "require_bar_from" "require_bar_from" (defArgs s_require_bar_from) (defBody s_require_bar_from) (defScope s_require_bar_from) .none kV4 dc4 pm4 an4 cd4 ct4), sl4⟩) (c4 : PySem.W.codeIn K cd4 "require_bar_from" = true) (k4 : PySem.W.keepIn K (.ref f4) = true)
    (a5 : PySem.W.nsIn K mainGlobals "common_divisor" = some (some (.ref f5))) (l5 : K.lookup f5 = some ⟨oc5, od5, .func (PySem.W.fnOf "common_divisor" "common_divisor" (defArgs s_common_divisor) (defBody s_common_divisor) (defScope s_common_divisor) .none kV5 dc5 pm5 an5 cd5 ct5), sl5⟩) (c5 : PySem.W.codeIn K cd5 "common_divisor" = true) (k5 : PySem.W.keepIn K (.ref f5) = true)
    (a6 : PySem.W.nsIn K mainGlobals "bar_of_numbers" = some (some (.ref f6))) (l6 : K.lookup f6 = some ⟨oc6, od6, .func (PySem.W.fnOf "bar_of_numbers" "bar_of_numbers" (defArgs s_bar_of_numbers) (defBody s_bar_of_numbers) (defScope s_bar_of_numbers) .none kV6 dc6 pm6 an6 cd6 ct6), sl6⟩) (c6 : PySem.W.codeIn K cd6 "bar_of_numbers" = true) (k6 : PySem.W.keepIn K (.ref f6) = true)
    (a7 : PySem.W.nsIn K mainGlobals "is_form" = some (some (.ref f7))) (l7 : K.lookup f7 = some ⟨oc7, od7, .func (PySem.W.fnOf "is_form" "is_form" (defArgs s_is_form) (defBody s_is_form) (defScope s_is_form) .none kV7 dc7 pm7 an7 cd7 ct7), sl7⟩) (c7 : PySem.W.codeIn K cd7 "is_form" = true) (k7 : PySem.W.keepIn K (.ref f7) = true)
    (a8 : PySem.W.nsIn K mainGlobals "require_form" = some (some (.ref f8))) (l8 : K.lookup f8 = some ⟨oc8, od8, .func (PySem.W.fnOf "require_form" "require_form" (defArgs s_require_form) (defBody s_require_form) (defScope s_require_form) .none kV8 dc8 pm8 an8 cd8 ct8), sl8⟩) (c8 : PySem.W.codeIn K cd8 "require_form" = true) (k8 : PySem.W.keepIn K (.ref f8) = true)
    (a9 : PySem.W.nsIn K mainGlobals "is_bare" = some (some (.ref f9))) (l9 : K.lookup f9 = some ⟨oc9, od9, .func (PySem.W.fnOf "is_bare" "is_bare" (defArgs s_is_bare) (defBody s_is_bare) (defScope s_is_bare) .none kV9 dc9 pm9 an9 cd9 ct9), sl9⟩) (c9 : PySem.W.codeIn K cd9 "is_bare" = true) (k9 : PySem.W.keepIn K (.ref f9) = true)
    (a10 : PySem.W.nsIn K mainGlobals "is_least" = some (some (.ref f10))) (l10 : K.lookup f10 = some ⟨oc10, od10, .func (PySem.W.fnOf "is_least" "is_least" (defArgs s_is_least) (defBody s_is_least) (defScope s_is_least) .none kV10 dc10 pm10 an10 cd10 ct10), sl10⟩) (c10 : PySem.W.codeIn K cd10 "is_least" = true) (k10 : PySem.W.keepIn K (.ref f10) = true)
    (a11 : PySem.W.nsIn K mainGlobals "least_forms_from" = some (some (.ref f11))) (l11 : K.lookup f11 = some ⟨oc11, od11, .func (PySem.W.fnOf "least_forms_from" "least_forms_from" (defArgs s_least_forms_from) (defBody s_least_forms_from) (defScope s_least_forms_from) .none kV11 dc11 pm11 an11 cd11 ct11), sl11⟩) (c11 : PySem.W.codeIn K cd11 "least_forms_from" = true) (k11 : PySem.W.keepIn K (.ref f11) = true)
    (a12 : PySem.W.nsIn K mainGlobals "least_forms" = some (some (.ref f12))) (l12 : K.lookup f12 = some ⟨oc12, od12, .func (PySem.W.fnOf "least_forms" "least_forms" (defArgs s_least_forms) (defBody s_least_forms) (defScope s_least_forms) .none kV12 dc12 pm12 an12 cd12 ct12), sl12⟩) (c12 : PySem.W.codeIn K cd12 "least_forms" = true) (k12 : PySem.W.keepIn K (.ref f12) = true)
    (a13 : PySem.W.nsIn K mainGlobals "classes" = some (some (.ref f13))) (l13 : K.lookup f13 = some ⟨oc13, od13, .func (PySem.W.fnOf "classes" "classes" (defArgs s_classes) (defBody s_classes) (defScope s_classes) .none kV13 dc13 pm13 an13 cd13 ct13), sl13⟩) (c13 : PySem.W.codeIn K cd13 "classes" = true) (k13 : PySem.W.keepIn K (.ref f13) = true)
    (a14 : PySem.W.nsIn K mainGlobals "kept" = some (some (.ref f14))) (l14 : K.lookup f14 = some ⟨oc14, od14, .func (PySem.W.fnOf "kept" "kept" (defArgs s_kept) (defBody s_kept) (defScope s_kept) .none kV14 dc14 pm14 an14 cd14 ct14), sl14⟩) (c14 : PySem.W.codeIn K cd14 "kept" = true) (k14 : PySem.W.keepIn K (.ref f14) = true)
    (a15 : PySem.W.nsIn K mainGlobals "_law_ints" = some (some (.ref f15))) (l15 : K.lookup f15 = some ⟨oc15, od15, .func (PySem.W.fnOf "_law_ints" "_law_ints" (defArgs s_law_ints) (defBody s_law_ints) (defScope s_law_ints) .none kV15 dc15 pm15 an15 cd15 ct15), sl15⟩) (c15 : PySem.W.codeIn K cd15 "_law_ints" = true) (k15 : PySem.W.keepIn K (.ref f15) = true)
    (a16 : PySem.W.nsIn K mainGlobals "_law_cell_at" = some (some (.ref f16))) (l16 : K.lookup f16 = some ⟨oc16, od16, .func (PySem.W.fnOf "_law_cell_at" "_law_cell_at" (defArgs s_law_cell_at) (defBody s_law_cell_at) (defScope s_law_cell_at) .none kV16 dc16 pm16 an16 cd16 ct16), sl16⟩) (c16 : PySem.W.codeIn K cd16 "_law_cell_at" = true) (k16 : PySem.W.keepIn K (.ref f16) = true)
    (a17 : PySem.W.nsIn K mainGlobals "_law_good" = some (some (.ref f17))) (l17 : K.lookup f17 = some ⟨oc17, od17, .func (PySem.W.fnOf "_law_good" "_law_good" (defArgs s_law_good) (defBody s_law_good) (defScope s_law_good) .none kV17 dc17 pm17 an17 cd17 ct17), sl17⟩) (c17 : PySem.W.codeIn K cd17 "_law_good" = true) (k17 : PySem.W.keepIn K (.ref f17) = true)
    (a18 : PySem.W.nsIn K mainGlobals "_law_divisor" = some (some (.ref f18))) (l18 : K.lookup f18 = some ⟨oc18, od18, .func (PySem.W.fnOf "_law_divisor" "_law_divisor" (defArgs s_law_divisor) (defBody s_law_divisor) (defScope s_law_divisor) .none kV18 dc18 pm18 an18 cd18 ct18), sl18⟩) (c18 : PySem.W.codeIn K cd18 "_law_divisor" = true) (k18 : PySem.W.keepIn K (.ref f18) = true)
    (a19 : PySem.W.nsIn K mainGlobals "law" = some (some (.ref f19))) (l19 : K.lookup f19 = some ⟨oc19, od19, .func (PySem.W.fnOf "law" "law" (defArgs s_law) (defBody s_law) (defScope s_law) .none kV19 dc19 pm19 an19 cd19 ct19), sl19⟩) (c19 : PySem.W.codeIn K cd19 "law" = true) (k19 : PySem.W.keepIn K (.ref f19) = true)
    {tLOWEST_LISTED_BAR : Tok} (caLOWEST_LISTED_BAR : PySem.W.nsIn K mainGlobals "LOWEST_LISTED_BAR" = some (some (.int (-4000 : Int) tLOWEST_LISTED_BAR)))
    (z0 : PySem.W.nsIn K mainGlobals "abs" = some none) (z1 : PySem.W.nsIn K mainGlobals "all" = some none) (z2 : PySem.W.nsIn K mainGlobals "any" = some none) (z3 : PySem.W.nsIn K mainGlobals "bool" = some none) (z4 : PySem.W.nsIn K mainGlobals "dict" = some none) (z5 : PySem.W.nsIn K mainGlobals "enumerate" = some none) (z6 : PySem.W.nsIn K mainGlobals "int" = some none) (z7 : PySem.W.nsIn K mainGlobals "isinstance" = some none) (z8 : PySem.W.nsIn K mainGlobals "len" = some none) (z9 : PySem.W.nsIn K mainGlobals "list" = some none) (z10 : PySem.W.nsIn K mainGlobals "max" = some none) (z11 : PySem.W.nsIn K mainGlobals "min" = some none) (z12 : PySem.W.nsIn K mainGlobals "range" = some none) (z13 : PySem.W.nsIn K mainGlobals "reversed" = some none) (z14 : PySem.W.nsIn K mainGlobals "sorted" = some none) (z15 : PySem.W.nsIn K mainGlobals "str" = some none) (z16 : PySem.W.nsIn K mainGlobals "sum" = some none) (z17 : PySem.W.nsIn K mainGlobals "tuple" = some none) (z18 : PySem.W.nsIn K mainGlobals "zip" = some none) :
    ∃ fd : FuncData, (∃ o, h.get? fa = some o ∧ o.data = .func fd) ∧ ∀ base : Heap, K.In base → base.Ns mainGlobals mg → FN.NestOk l.prog w K mg base 10 fa fd PfL := by
  have e := hfa.symm.trans (PySem.W.mg_of X G a19)
  cases e
  have T : Tx mg := ⟨PySem.W.mg_none_of X G z0, PySem.W.mg_none_of X G z1, PySem.W.mg_none_of X G z2, PySem.W.mg_none_of X G z3, PySem.W.mg_none_of X G z4, PySem.W.mg_none_of X G z5, PySem.W.mg_none_of X G z6, PySem.W.mg_none_of X G z7, PySem.W.mg_none_of X G z8, PySem.W.mg_none_of X G z9, PySem.W.mg_none_of X G z10, PySem.W.mg_none_of X G z11, PySem.W.mg_none_of X G z12, PySem.W.mg_none_of X G z13, PySem.W.mg_none_of X G z14, PySem.W.mg_none_of X G z15, PySem.W.mg_none_of X G z16, PySem.W.mg_none_of X G z17, PySem.W.mg_none_of X G z18⟩
  have F0 := fun_mk (st := s_is_whole) l0 c0 k0
  have b0 := F0.binds (ps := ["value"]) fun _ _ _ _ _ _ us hl => match us, hl with | [_], _ => rfl
  have m0 := PySem.W.mg_of X G a0
  have F1 := fun_mk (st := s_is_whole_tuple) l1 c1 k1
  have b1 := F1.binds (ps := ["value", "length"]) fun _ _ _ _ _ _ us hl => match us, hl with | [_, _], _ => rfl
  have m1 := PySem.W.mg_of X G a1
  have F2 := fun_mk (st := s_is_bar) l2 c2 k2
  have b2 := F2.binds (ps := ["value"]) fun _ _ _ _ _ _ us hl => match us, hl with | [_], _ => rfl
  have m2 := PySem.W.mg_of X G a2
  have F3 := fun_mk (st := s_require_bar) l3 c3 k3
  have b3 := F3.binds (ps := ["value"]) fun _ _ _ _ _ _ us hl => match us, hl with | [_], _ => rfl
  have m3 := PySem.W.mg_of X G a3
  have F4 := fun_mk (st := s_require_bar_from) l4 c4 k4
  have b4 := F4.binds (ps := ["value", "lowest"]) fun _ _ _ _ _ _ us hl => match us, hl with | [_, _], _ => rfl
  have m4 := PySem.W.mg_of X G a4
  have F5 := fun_mk (st := s_common_divisor) l5 c5 k5
  have b5 := F5.binds (ps := ["one", "other"]) fun _ _ _ _ _ _ us hl => match us, hl with | [_, _], _ => rfl
  have m5 := PySem.W.mg_of X G a5
  have F6 := fun_mk (st := s_bar_of_numbers) l6 c6 k6
  have b6 := F6.binds (ps := ["a", "b", "c"]) fun _ _ _ _ _ _ us hl => match us, hl with | [_, _, _], _ => rfl
  have m6 := PySem.W.mg_of X G a6
  have F7 := fun_mk (st := s_is_form) l7 c7 k7
  have b7 := F7.binds (ps := ["value"]) fun _ _ _ _ _ _ us hl => match us, hl with | [_], _ => rfl
  have m7 := PySem.W.mg_of X G a7
  have F8 := fun_mk (st := s_require_form) l8 c8 k8
  have b8 := F8.binds (ps := ["value"]) fun _ _ _ _ _ _ us hl => match us, hl with | [_], _ => rfl
  have m8 := PySem.W.mg_of X G a8
  have F9 := fun_mk (st := s_is_bare) l9 c9 k9
  have b9 := F9.binds (ps := ["form"]) fun _ _ _ _ _ _ us hl => match us, hl with | [_], _ => rfl
  have m9 := PySem.W.mg_of X G a9
  have F10 := fun_mk (st := s_is_least) l10 c10 k10
  have b10 := F10.binds (ps := ["form"]) fun _ _ _ _ _ _ us hl => match us, hl with | [_], _ => rfl
  have m10 := PySem.W.mg_of X G a10
  have F11 := fun_mk (st := s_least_forms_from) l11 c11 k11
  have b11 := F11.binds (ps := ["bar", "a"]) fun _ _ _ _ _ _ us hl => match us, hl with | [_, _], _ => rfl
  have m11 := PySem.W.mg_of X G a11
  have F12 := fun_mk (st := s_least_forms) l12 c12 k12
  have b12 := F12.binds (ps := ["bar"]) fun _ _ _ _ _ _ us hl => match us, hl with | [_], _ => rfl
  have m12 := PySem.W.mg_of X G a12
  have F13 := fun_mk (st := s_classes) l13 c13 k13
  have b13 := F13.binds (ps := ["bar"]) fun _ _ _ _ _ _ us hl => match us, hl with | [_], _ => rfl
  have m13 := PySem.W.mg_of X G a13
  have F14 := fun_mk (st := s_kept) l14 c14 k14
  have b14 := F14.binds (ps := ["bar", "wanted"]) fun _ _ _ _ _ _ us hl => match us, hl with | [_, _], _ => rfl
  have m14 := PySem.W.mg_of X G a14
  have F15 := fun_mk (st := s_law_ints) l15 c15 k15
  have b15 := F15.binds (ps := ["_law_found", "_law_size"]) fun _ _ _ _ _ _ us hl => match us, hl with | [_, _], _ => rfl
  have m15 := PySem.W.mg_of X G a15
  have F16 := fun_mk (st := s_law_cell_at) l16 c16 k16
  have b16 := F16.binds (ps := ["_law_script", "_law_k"]) fun _ _ _ _ _ _ us hl => match us, hl with | [_, _], _ => rfl
  have m16 := PySem.W.mg_of X G a16
  have F17 := fun_mk (st := s_law_good) l17 c17 k17
  have b17 := F17.binds (ps := ["_law_form"]) fun _ _ _ _ _ _ us hl => match us, hl with | [_], _ => rfl
  have m17 := PySem.W.mg_of X G a17
  have F18 := fun_mk (st := s_law_divisor) l18 c18 k18
  have b18 := F18.binds (ps := ["_law_one", "_law_other"]) fun _ _ _ _ _ _ us hl => match us, hl with | [_, _], _ => rfl
  have m18 := PySem.W.mg_of X G a18
  have F19 := fun_mk (st := s_law) l19 c19 k19
  have b19 := F19.binds (ps := ["_law_script"]) fun _ _ _ _ _ _ us hl => match us, hl with | [_], _ => rfl
  have m19 := PySem.W.mg_of X G a19
  have HK : ∀ base : Heap, FnK l.prog w K mg base 9 "kept" f14 (PySem.W.fnOf "kept" "kept" (defArgs s_kept) (defBody s_kept) (defScope s_kept) .none kV14 dc14 pm14 an14 cd14 ct14) (inSt s_law 14) := fun base => by
    have C_LOWEST_LISTED_BAR : Con K mg "LOWEST_LISTED_BAR" (.int (-4000 : Int)) := con_int (PySem.W.mg_of X G caLOWEST_LISTED_BAR)
    have G_is_whole := ok_is_whole (P := l.prog) (w := w) (base := base) T F0 m0 b0
    have G_is_whole_tuple := ok_is_whole_tuple (P := l.prog) (w := w) (base := base) T G_is_whole F1 m1 b1
    have G_is_bar := ok_is_bar (P := l.prog) (w := w) (base := base) G_is_whole F2 m2 b2
    have G_require_bar := ok_require_bar (P := l.prog) (w := w) (base := base) G_is_bar F3 m3 b3
    have G_require_bar_from := ok_require_bar_from (P := l.prog) (w := w) (base := base) G_require_bar F4 m4 b4
    have G_common_divisor := ok_common_divisor (P := l.prog) (w := w) (base := base) T F5 m5 b5
    have G_bar_of_numbers := ok_bar_of_numbers (P := l.prog) (w := w) (base := base)  F6 m6 b6
    have G_is_form := ok_is_form (P := l.prog) (w := w) (base := base) G_is_whole_tuple G_bar_of_numbers F7 m7 b7
    have G_require_form := ok_require_form (P := l.prog) (w := w) (base := base) G_is_form F8 m8 b8
    have G_is_bare := ok_is_bare (P := l.prog) (w := w) (base := base) G_require_form G_common_divisor F9 m9 b9
    have G_is_least := ok_is_least (P := l.prog) (w := w) (base := base) G_require_form F10 m10 b10
    have G_least_forms_from := ok_least_forms_from (P := l.prog) (w := w) (base := base) T G_is_least F11 m11 b11
    have G_least_forms := ok_least_forms (P := l.prog) (w := w) (base := base) G_require_bar_from G_least_forms_from C_LOWEST_LISTED_BAR F12 m12 b12
    have G_classes := ok_classes (P := l.prog) (w := w) (base := base) G_least_forms G_is_bare F13 m13 b13
    have G_kept := ok_kept (P := l.prog) (w := w) (base := base) G_classes F14 m14 b14
    have G_law_ints := ok_law_ints (P := l.prog) (w := w) (base := base) T F15 m15 b15
    have G_law_cell_at := ok_law_cell_at (P := l.prog) (w := w) (base := base) T F16 m16 b16
    have G_law_good := ok_law_good (P := l.prog) (w := w) (base := base) G_law_ints F17 m17 b17
    have G_law_divisor := ok_law_divisor (P := l.prog) (w := w) (base := base) T F18 m18 b18
    exact G_kept
  refine ⟨PySem.W.fnOf "law" "law" (defArgs s_law) (defBody s_law) (defScope s_law) .none kV19 dc19 pm19 an19 cd19 ct19, ⟨_, X _ _ l19, rfl⟩, fun base _ _ => ?_⟩
  have C_LOWEST_LISTED_BAR : Con K mg "LOWEST_LISTED_BAR" (.int (-4000 : Int)) := con_int (PySem.W.mg_of X G caLOWEST_LISTED_BAR)
  have G_is_whole := ok_is_whole (P := l.prog) (w := w) (base := base) T F0 m0 b0
  have G_is_whole_tuple := ok_is_whole_tuple (P := l.prog) (w := w) (base := base) T G_is_whole F1 m1 b1
  have G_is_bar := ok_is_bar (P := l.prog) (w := w) (base := base) G_is_whole F2 m2 b2
  have G_require_bar := ok_require_bar (P := l.prog) (w := w) (base := base) G_is_bar F3 m3 b3
  have G_require_bar_from := ok_require_bar_from (P := l.prog) (w := w) (base := base) G_require_bar F4 m4 b4
  have G_common_divisor := ok_common_divisor (P := l.prog) (w := w) (base := base) T F5 m5 b5
  have G_bar_of_numbers := ok_bar_of_numbers (P := l.prog) (w := w) (base := base)  F6 m6 b6
  have G_is_form := ok_is_form (P := l.prog) (w := w) (base := base) G_is_whole_tuple G_bar_of_numbers F7 m7 b7
  have G_require_form := ok_require_form (P := l.prog) (w := w) (base := base) G_is_form F8 m8 b8
  have G_is_bare := ok_is_bare (P := l.prog) (w := w) (base := base) G_require_form G_common_divisor F9 m9 b9
  have G_is_least := ok_is_least (P := l.prog) (w := w) (base := base) G_require_form F10 m10 b10
  have G_least_forms_from := ok_least_forms_from (P := l.prog) (w := w) (base := base) T G_is_least F11 m11 b11
  have G_least_forms := ok_least_forms (P := l.prog) (w := w) (base := base) G_require_bar_from G_least_forms_from C_LOWEST_LISTED_BAR F12 m12 b12
  have G_classes := ok_classes (P := l.prog) (w := w) (base := base) G_least_forms G_is_bare F13 m13 b13
  have G_kept := ok_kept (P := l.prog) (w := w) (base := base) G_classes F14 m14 b14
  have G_law_ints := ok_law_ints (P := l.prog) (w := w) (base := base) T F15 m15 b15
  have G_law_cell_at := ok_law_cell_at (P := l.prog) (w := w) (base := base) T F16 m16 b16
  have G_law_good := ok_law_good (P := l.prog) (w := w) (base := base) G_law_ints F17 m17 b17
  have G_law_divisor := ok_law_divisor (P := l.prog) (w := w) (base := base) T F18 m18 b18
  exact ok_law T G_law_cell_at G_least_forms G_law_good G_law_divisor G_classes G_kept HK (fun s v => .of_eq rfl) F19
end K09
open PySem PySem.W PyProof.Rows
set_option maxRecDepth 100000 in
set_option maxHeartbeats 0 in
theorem PySem.Challenge.cw_formturn_k09_whole_lists_holds : PySem.Challenge.rw_formturn_k09_whole_lists.Holds := by
  w_on; o_law; k_head; (case hw => w_witness2)
  k_fill
  refine FN.walk_nest (l := PySem.Challenge.rw_formturn_k09_whole_lists) (n := 63) (k := 10) (Pf := CM.PfL) rfl (by decide) rfl ⟨rfl, by decide, by decide⟩ (fun w h Y => PySem.W.km_in_of Y) ?dm ?nt ?F ?S
  case dm => exact List.mem_of_find?_eq_some (p := fun e => e.name == ("law" : Str)) (by kernel_rfl)
  case nt => intro w; first | k_is | kernel_rfl
  case F =>
    intro w mg fa h KX G hmg
    refine' K09.all_mk KX G hmg ?a0 ?l0 ?c0 ?k0 ?a1 ?l1 ?c1 ?k1 ?a2 ?l2 ?c2 ?k2 ?a3 ?l3 ?c3 ?k3 ?a4 ?l4 ?c4 ?k4 ?a5 ?l5 ?c5 ?k5 ?a6 ?l6 ?c6 ?k6 ?a7 ?l7 ?c7 ?k7 ?a8 ?l8 ?c8 ?k8 ?a9 ?l9 ?c9 ?k9 ?a10 ?l10 ?c10 ?k10 ?a11 ?l11 ?c11 ?k11 ?a12 ?l12 ?c12 ?k12 ?a13 ?l13 ?c13 ?k13 ?a14 ?l14 ?c14 ?k14 ?a15 ?l15 ?c15 ?k15 ?a16 ?l16 ?c16 ?k16 ?a17 ?l17 ?c17 ?k17 ?a18 ?l18 ?c18 ?k18 ?a19 ?l19 ?c19 ?k19 ?caLOWEST_LISTED_BAR ?z0 ?z1 ?z2 ?z3 ?z4 ?z5 ?z6 ?z7 ?z8 ?z9 ?z10 ?z11 ?z12 ?z13 ?z14 ?z15 ?z16 ?z17 ?z18
    (case a0 => k_is)
    (case l0 => k_is)
    (case c0 => k_is)
    (case k0 => k_is)
    (case a1 => k_is)
    (case l1 => k_is)
    (case c1 => k_is)
    (case k1 => k_is)
    (case a2 => k_is)
    (case l2 => k_is)
    (case c2 => k_is)
    (case k2 => k_is)
    (case a3 => k_is)
    (case l3 => k_is)
    (case c3 => k_is)
    (case k3 => k_is)
    (case a4 => k_is)
    (case l4 => k_is)
    (case c4 => k_is)
    (case k4 => k_is)
    (case a5 => k_is)
    (case l5 => k_is)
    (case c5 => k_is)
    (case k5 => k_is)
    (case a6 => k_is)
    (case l6 => k_is)
    (case c6 => k_is)
    (case k6 => k_is)
    (case a7 => k_is)
    (case l7 => k_is)
    (case c7 => k_is)
    (case k7 => k_is)
    (case a8 => k_is)
    (case l8 => k_is)
    (case c8 => k_is)
    (case k8 => k_is)
    (case a9 => k_is)
    (case l9 => k_is)
    (case c9 => k_is)
    (case k9 => k_is)
    (case a10 => k_is)
    (case l10 => k_is)
    (case c10 => k_is)
    (case k10 => k_is)
    (case a11 => k_is)
    (case l11 => k_is)
    (case c11 => k_is)
    (case k11 => k_is)
    (case a12 => k_is)
    (case l12 => k_is)
    (case c12 => k_is)
    (case k12 => k_is)
    (case a13 => k_is)
    (case l13 => k_is)
    (case c13 => k_is)
    (case k13 => k_is)
    (case a14 => k_is)
    (case l14 => k_is)
    (case c14 => k_is)
    (case k14 => k_is)
    (case a15 => k_is)
    (case l15 => k_is)
    (case c15 => k_is)
    (case k15 => k_is)
    (case a16 => k_is)
    (case l16 => k_is)
    (case c16 => k_is)
    (case k16 => k_is)
    (case a17 => k_is)
    (case l17 => k_is)
    (case c17 => k_is)
    (case k17 => k_is)
    (case a18 => k_is)
    (case l18 => k_is)
    (case c18 => k_is)
    (case k18 => k_is)
    (case a19 => k_is)
    (case l19 => k_is)
    (case c19 => k_is)
    (case k19 => k_is)
    (case caLOWEST_LISTED_BAR => k_is)
    (case z0 => k_is)
    (case z1 => k_is)
    (case z2 => k_is)
    (case z3 => k_is)
    (case z4 => k_is)
    (case z5 => k_is)
    (case z6 => k_is)
    (case z7 => k_is)
    (case z8 => k_is)
    (case z9 => k_is)
    (case z10 => k_is)
    (case z11 => k_is)
    (case z12 => k_is)
    (case z13 => k_is)
    (case z14 => k_is)
    (case z15 => k_is)
    (case z16 => k_is)
    (case z17 => k_is)
    (case z18 => k_is)
  case S => exact CM.law_sz
#print axioms PySem.Challenge.cw_formturn_k09_whole_lists_holds
