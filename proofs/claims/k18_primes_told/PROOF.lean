import PyProof.Rows.All
import Wide.All
import OpenK.AllK
import Wide.FinOn
import Lean
import PyProof.EqAt
import PyProof.EqKinds
import PyProof.TupleCall
import PySem.Challenge.RW_formturn_k18_primes_told
set_option Elab.async false
set_option linter.all false
set_option maxRecDepth 100000
/-! THE HAND LAYER, for ints, bools, texts, own classes, LISTS and tuples (index, slices, in, append, pop ..), calls, loops. Paste it whole ahead of your own text; what your proof does not reach may be deleted. -/
namespace L2
open PySem PySem.Spec PyProof.Rows

/-- a key: an int or a str -/
abbrev Key := Sum Int Str
def keyIs : Key → Value → Bool
  | .inl k, v => Value.isInt k v
  | .inr x, v => Value.isStrOf x v
def keyH (w : World) : Key → Int
  | .inl k => hashInt k
  | .inr x => hashStr w x
theorem keyIs_shape : ∀ {k : Key} {v : Value}, keyIs k v = true → (∃ i t, k = Sum.inl i ∧ v = Value.int i t) ∨ (∃ x t, k = Sum.inr x ∧ v = Value.str x t)
  | .inl i, v, h => by
    obtain ⟨t, e⟩ := Value.isInt_shape (k := i) (v := v) h
    exact .inl ⟨i, t, rfl, e⟩
  | .inr x, v, h => by
    obtain ⟨t, e⟩ := Value.isStrOf_shape (x := x) (v := v) h
    exact .inr ⟨x, t, rfl, e⟩
theorem key_ll (a b : Int) : decide ((Sum.inl a : Key) = Sum.inl b) = (a == b) := by
  by_cases e : a = b
  · subst e; simp
  · have h : ¬ (Sum.inl a : Key) = Sum.inl b := fun q => e (Sum.inl.inj q)
    rw [decide_eq_false h]
    exact (beq_eq_false_iff_ne.mpr e).symm
theorem key_rr (a b : Str) : decide ((Sum.inr a : Key) = Sum.inr b) = decide (a = b) := by
  by_cases e : a = b
  · subst e; simp
  · have h : ¬ (Sum.inr a : Key) = Sum.inr b := fun q => e (Sum.inr.inj q)
    rw [decide_eq_false h, decide_eq_false e]
theorem key_lr (a : Int) (b : Str) : decide ((Sum.inl a : Key) = Sum.inr b) = false := decide_eq_false (fun q => nomatch q)
theorem key_rl (a : Str) (b : Int) : decide ((Sum.inr a : Key) = Sum.inl b) = false := decide_eq_false (fun q => nomatch q)

def mixKind (prog : Program) (w : World) : PySem.KeyKind prog w Key where
  is := keyIs
  hash := keyH w
  inj := fun v a b ha hb => by
    rcases keyIs_shape ha with ⟨i, t, rfl, rfl⟩ | ⟨x, t, rfl, rfl⟩
    · rcases keyIs_shape hb with ⟨j, u, rfl, e⟩ | ⟨y, u, rfl, e⟩
      · injection e with e1 _; rw [e1]
      · exact nomatch e
    · rcases keyIs_shape hb with ⟨j, u, rfl, e⟩ | ⟨y, u, rfl, e⟩
      · exact nomatch e
      · injection e with e1 _; rw [e1]
  byValue := fun k v h => by
    rcases keyIs_shape h with ⟨i, t, rfl, rfl⟩ | ⟨x, t, rfl, rfl⟩ <;> rfl
  pyHash := fun hv h => by
    rcases keyIs_shape hv with ⟨i, t, rfl, rfl⟩ | ⟨x, t, rfl, rfl⟩
    · exact wpAny_pyHash_int h
    · exact wpAny_pyHash_str h
  eqBool := fun hu hv h => by
    rcases keyIs_shape hu with ⟨i, t, rfl, rfl⟩ | ⟨x, t, rfl, rfl⟩
    · rcases keyIs_shape hv with ⟨j, u, rfl, rfl⟩ | ⟨y, u, rfl, rfl⟩
      · rw [key_ll] at h; exact wpAny_eqBool_int h
      · rw [key_lr] at h; exact SeqAt.EqAt.int_str i t y u _ _ _ _ h
    · rcases keyIs_shape hv with ⟨j, u, rfl, rfl⟩ | ⟨y, u, rfl, rfl⟩
      · rw [key_rl] at h; exact SeqAt.EqAt.str_int x t j u _ _ _ _ h
      · rw [key_rr] at h; exact wpAny_eqBool_str h
  «strs» := fun k x t v h => by
    rcases keyIs_shape h with ⟨i, u, rfl, e⟩ | ⟨y, u, rfl, e⟩
    · exact nomatch e
    · injection e with e1 _
      subst e1
      cases v <;> rfl

end L2

namespace L2
open PySem PySem.Spec PyProof.Rows

/-- a value, without the heap -/
inductive V where
  | non | bl (b : Bool) | int (i : Int) | str (x : Str) | byt (b : Array UInt8) | flt (b : UInt64) | ref (a : Addr) | ty (n : String)
  deriving DecidableEq

def RelV : V → Value → Prop
  | .non, u => u = Value.none
  | .bl b, u => u = Value.bool b
  | .int i, u => ∃ t, u = Value.int i t
  | .str x, u => ∃ t, u = Value.str x t
  | .byt b, u => ∃ t, u = Value.bytes b t
  | .flt b, u => ∃ t, u = Value.float b t
  | .ref a, u => u = Value.ref a
  | .ty n, u => u = Value.type n

abbrev Vals : List V → List Value → Prop := Paired RelV
theorem Vals.length {xs : List V} {us : List Value} (r : Vals xs us) : xs.length = us.length := Paired.length r
theorem Vals.get : ∀ {xs : List V} {us : List Value} {i : Nat} {x : V}, Vals xs us → xs[i]? = some x → ∃ u, us[i]? = some u ∧ RelV x u
  | _, _, _, _, .nil, e => by simp at e
  | _, _, 0, _, .cons r _, e => by simp at e; subst e; exact ⟨_, rfl, r⟩
  | _, _, i + 1, x, .cons _ t, e => by
    obtain ⟨u, h1, h2⟩ := Vals.get (i := i) (x := x) t (by simpa using e)
    exact ⟨u, by simpa using h1, h2⟩
theorem Vals.append : ∀ {xs ys : List V} {us ws : List Value}, Vals xs us → Vals ys ws → Vals (xs ++ ys) (us ++ ws)
  | _, _, _, _, .nil, s => s
  | _, _, _, _, .cons r t, s => .cons r (Vals.append t s)
def RelO : Option V → Option Value → Prop
  | some v, some u => RelV v u
  | none, none => True
  | _, _ => False
def KV {κ : Type} : List (κ × V) → List (κ × Value) → Prop := Paired fun (p : κ × V) (q : κ × Value) => p.1 = q.1 ∧ RelV p.2 q.2

/-- a key of a dict (00_mix): an int or a text -/
def kV : Key → V
  | .inl i => .int i
  | .inr x => .str x

/-- what stands at a tracked address -/
inductive HO where
  /-- a list -/
  | lst (xs : List V)
  /-- a tuple (never changes) -/
  | tup (xs : List V)
  /-- a dict whose keys are ints and texts; one whose keys are tuples of ints and texts (the empty one is both) -/
  | dK (kvs : List (Key × V)) | dT (kvs : List (List Key × V))
  /-- a set of ints: its members, its size -/
  | set (S : Int → Bool) (n : Nat)
  /-- an instance of the class at C, its dict at dx, its attributes -/
  | ins (C dx : Addr) (fs : List (Str × V))
  /-- the dict of the instance at x -/
  | own (x : Addr)
  /-- the dict of an exception -/
  | xd (fs : List (Str × V))
  /-- a bound method, f of x -/
  | met (f x : Addr)
  /-- a range object lo, lo + 1, .. below hi -/
  | rng (lo hi : Int)
  /-- a thing that is known to the object (the script; a dict while a loop walks it): read, never written while it is so -/
  | frz (o : Obj) (u : HO)
  /-- a code object's table -/
  | tbl (ps : Array Value)
  /-- any other thing, by what is true of its one object (a def of one's own: SetO a S n := HO.ext fun h => ..) -/
  | ext (φ : Heap → Prop)

abbrev Hp := Addr → Option HO
def upd (H : Hp) (a : Addr) (o : HO) : Hp := fun b => if b = a then some o else H b
theorem upd_same {H : Hp} {a : Addr} {o : HO} : upd H a o a = some o := by unfold upd; rw [if_pos rfl]
theorem upd_ne {H : Hp} {a b : Addr} {o : HO} (h : b ≠ a) : upd H a o b = H b := by unfold upd; rw [if_neg h]
/-- two objects of different content stand apart -/
theorem ne_of {H : Hp} {a b : Addr} {o u : HO} (h : H a = some o) (h' : H b = some u) (d : o ≠ u) : a ≠ b := by
  intro e; subst e; rw [h] at h'; exact d (Option.some.inj h')
theorem ne_of_none {H : Hp} {a b : Addr} {o : HO} (h : H a = some o) (h' : H b = none) : a ≠ b := by
  intro e; subst e; rw [h] at h'; cases h'

section
variable (P : Program) (w : World)
def ObjOk (H : Hp) (h : Heap) (a : Addr) : HO → Prop
  | .lst xs => xs.length ≤ sizeLine ∧ ∃ (its : List Value) (n : Nat), Vals xs its ∧ h.get? a = some { cls := .type "list", data := .seq its.toArray n }
  | .tup xs => xs.length ≤ sizeLine ∧ ∃ its : List Value, Vals xs its ∧ IsTup h a its.toArray
  | .dK kvs => kvs.length ≤ sizeLine ∧ (a == sysModules) = false ∧ ∃ vs, KV kvs vs ∧ h.DictOf (mixKind P w) a vs
  | .dT kvs => kvs.length ≤ sizeLine ∧ (a == sysModules) = false ∧ ∃ xs : List (List Key × Addr × Value),
      Paired (fun (p : List Key × V) (q : List Key × Addr × Value) => p.1 = q.1 ∧ H q.2.1 = some (.tup (p.1.map kV)) ∧ RelV p.2 q.2.2) kvs xs ∧
      ∃ o es ep, h.get? a = some o ∧ o.ExactDict ∧ o.data = .dict es ep ∧ es.toList = xs.map (entryOfKey (tupleKind (mixKind P w))) ∧ (xs.map (·.1)).Nodup
  | .set S n => h.SetOf (intKind P w) a S n
  | .ins C dx fs => H dx = some (.own a) ∧ fs.length ≤ 1000 ∧ dx ≠ a ∧ h.get? a = some (PySem.W.instObj C dx) ∧
      ∃ mA, h.Ns1 dx mA ∧ (∀ f, RelO (fs.lookup f) (mA f)) ∧ PySem.Within mA (fs.map (·.1))
  | .own _ => ∃ o, h.get? a = some o
  | .xd fs => ∃ mA, h.Ns1 a mA ∧ ∀ f, RelO (fs.lookup f) (mA f)
  | .rng lo hi => ∃ t u v, h.get? a = some { cls := .type "range", data := .fields #[.int lo t, .int hi u, .int 1 v] }
  | .frz o u => h.get? a = some o ∧ ObjOk H h a u
  | .tbl ps => h.get? a = some { cls := .none, data := .fields ps }
  | .met f x => h.get? a = some (PySem.W.methodObj (.ref f) (.ref x))
  | .ext φ => φ h ∧ (∃ o, h.get? a = some o) ∧ ∀ h1 h2 : Heap, φ h1 → (∀ o, h1.get? a = some o → h2.get? a = some o) → φ h2
/-- the abstract heap is held -/
def HOk (H : Hp) (h : Heap) : Prop := ∀ a o, H a = some o → ObjOk P w H h a o
end

section
variable {P : Program} {w : World} {H H' : Hp} {h h' : Heap} {a : Addr} {o : HO}
theorem ObjOk.lt (x : ObjOk P w H h a o) : a < h.objs.size := by
  cases o with
  | lst xs => obtain ⟨_, _, _, _, e⟩ := x; exact Heap.lt_size e
  | tup xs => obtain ⟨_, _, _, p⟩ := x; exact p.lt
  | dK kvs => obtain ⟨_, _, _, _, o, _, _, e, _⟩ := x; exact Heap.lt_size e
  | dT kvs => obtain ⟨_, _, _, _, o, _, _, e, _⟩ := x; exact Heap.lt_size e
  | set S n => obtain ⟨o, _, _, _, e, _⟩ := x; exact Heap.lt_size e
  | ins C dx fs => obtain ⟨_, _, _, e, _⟩ := x; exact Heap.lt_size e
  | own y => obtain ⟨_, e⟩ := x; exact Heap.lt_size e
  | xd fs => obtain ⟨_, ⟨_, _, _, e, _⟩, _⟩ := x; exact Heap.lt_size e
  | rng lo hi => obtain ⟨_, _, _, e⟩ := x; exact Heap.lt_size e
  | frz ob u => obtain ⟨e, _⟩ := x; exact Heap.lt_size e
  | tbl ps => exact Heap.lt_size (show h.get? a = some _ from x)
  | met f y => exact Heap.lt_size (show h.get? a = some _ from x)
  | ext φ => obtain ⟨_, ⟨_, e⟩, _⟩ := x; exact Heap.lt_size e
theorem Paired.mapP {α β : Type} {F G : α → β → Prop} : ∀ {l₁ : List α} {l₂ : List β}, Paired F l₁ l₂ → (∀ a b, F a b → G a b) → Paired G l₁ l₂
  | _, _, .nil, _ => .nil
  | _, _, .cons r t, f => .cons (f _ _ r) (Paired.mapP t f)
/-- what an object's description leans on: its own object, its own dict, the tuples -/
theorem ObjOk.stay (x : ObjOk P w H h a o) (k : ∀ b u, (b = a ∨ H b = some (.own a)) → h.get? b = some u → h'.get? b = some u)
    (ho : ∀ b, H b = some (.own a) → H' b = some (.own a)) (ht : ∀ b xs, H b = some (.tup xs) → H' b = some (.tup xs)) : ObjOk P w H' h' a o := by
  induction o with
  | lst xs => obtain ⟨z, its, n, r, e⟩ := x; exact ⟨z, its, n, r, k _ _ (.inl rfl) e⟩
  | tup xs => obtain ⟨z, its, r, ob, e, c⟩ := x; exact ⟨z, its, r, ob, k _ _ (.inl rfl) e, c⟩
  | dK kvs => obtain ⟨z, y, vs, r, ob, es, ep, e, c⟩ := x; exact ⟨z, y, vs, r, ob, es, ep, k _ _ (.inl rfl) e, c⟩
  | dT kvs =>
    obtain ⟨z, y, xs, r, ob, es, ep, e, c⟩ := x
    exact ⟨z, y, xs, Paired.mapP r fun p q z => ⟨z.1, ht _ _ z.2.1, z.2.2⟩, ob, es, ep, k _ _ (.inl rfl) e, c⟩
  | set S n => obtain ⟨ob, es, ep, t, e, c⟩ := x; exact ⟨ob, es, ep, t, k _ _ (.inl rfl) e, c⟩
  | ins C dx fs =>
    obtain ⟨d, z, ne, e, mA, ⟨od, es, ep, e2, c⟩, r⟩ := x
    exact ⟨ho _ d, z, ne, k _ _ (.inl rfl) e, mA, ⟨od, es, ep, k _ _ (.inr d) e2, c⟩, r⟩
  | own y => obtain ⟨ob, e⟩ := x; exact ⟨ob, k _ _ (.inl rfl) e⟩
  | xd fs => obtain ⟨mA, ⟨od, es, ep, e, c⟩, r⟩ := x; exact ⟨mA, ⟨od, es, ep, k _ _ (.inl rfl) e, c⟩, r⟩
  | rng lo hi => obtain ⟨t, u, v, e⟩ := x; exact ⟨t, u, v, k _ _ (.inl rfl) e⟩
  | frz ob u ih => obtain ⟨e, q⟩ := x; exact ⟨k _ _ (.inl rfl) e, ih q⟩
  | tbl ps =>
    have e : h.get? a = some { cls := .none, data := .fields ps } := x
    show h'.get? a = some { cls := .none, data := .fields ps }
    exact k a _ (.inl rfl) e
  | met f y =>
    have e : h.get? a = some (PySem.W.methodObj (.ref f) (.ref y)) := x
    show h'.get? a = some (PySem.W.methodObj (.ref f) (.ref y))
    exact k a _ (.inl rfl) e
  | ext φ => obtain ⟨p, ⟨o, e⟩, st⟩ := x; exact ⟨st _ _ p fun o q => k _ _ (.inl rfl) q, ⟨o, k _ _ (.inl rfl) e⟩, st⟩
theorem HOk.lt (x : HOk P w H h) (e : H a = some o) : a < h.objs.size := (x a o e).lt
theorem HOk.fresh (x : HOk P w H h) (e : h.objs.size ≤ a) : H a = none := by
  cases q : H a with
  | none => rfl
  | some u => exact absurd (Nat.lt_of_lt_of_le (x.lt q) e) (Nat.lt_irrefl _)
/-- every object of the heap is kept -/
theorem HOk.kept (x : HOk P w H h) (k : ∀ b u, h.get? b = some u → h'.get? b = some u) : HOk P w H h' := fun a o e =>
  (x a o e).stay (fun b u _ q => k b u q) (fun _ q => q) fun _ _ q => q
/-- a new object is laid and tracked -/
theorem HOk.laid (x : HOk P w H h) (k : ∀ b u, h.get? b = some u → h'.get? b = some u) (hp : h.objs.size ≤ a) (new : ObjOk P w (upd H a o) h' a o) : HOk P w (upd H a o) h' := fun b u e => by
  have hn := x.fresh hp
  by_cases hb : b = a
  · subst hb; rw [upd_same] at e; cases e; exact new
  · rw [upd_ne hb] at e
    exact (x b u e).stay (fun c v _ q => k c v q) (fun c q => by rw [upd_ne (ne_of_none q hn)]; exact q) fun c xs q => by rw [upd_ne (ne_of_none q hn)]; exact q
end

/-- what may be read as u: it is u, or a known u -/
def Rd (H : Hp) (a : Addr) (u : HO) : Prop := H a = some u ∨ ∃ o, H a = some (.frz o u)
theorem Rd.ok {P : Program} {w : World} {H : Hp} {h : Heap} {a : Addr} {u : HO} (r : Rd H a u) (x : HOk P w H h) : ObjOk P w H h a u := by
  rcases r with r | ⟨o, r⟩
  · exact x a u r
  · obtain ⟨_, q⟩ := x a _ r
    exact q
/-- what may be written -/
def Mut : Option HO → Prop
  | some (.lst _) => True
  | some (.dK _) => True
  | some (.dT _) => True
  | some (.set _ _) => True
  | some (.ins _ _ _) => True
  | some (.ext _) => True
  | _ => False
section
variable {P : Program} {w : World} {H : Hp} {h h' : Heap} {x e : Addr} {o' : HO}
/-- the object at e is changed: x itself, or the dict of the instance x -/
theorem HOk.write (ok : HOk P w H h) (mu : Mut (H x)) (he : e = x ∨ H e = some (.own x)) (k : ∀ b u, b ≠ e → h.get? b = some u → h'.get? b = some u) (heo : ∃ u, h'.get? e = some u)
    (new : ObjOk P w (upd H x o') h' x o') : HOk P w (upd H x o') h' := fun b u q => by
  have nown : ∀ c y, H c = some (.own y) → c ≠ x := fun c y r z => by subst z; rw [r] at mu; exact mu
  have ntup : ∀ c xs, H c = some (.tup xs) → c ≠ x := fun c xs r z => by subst z; rw [r] at mu; exact mu
  by_cases hb : b = x
  · subst hb; rw [upd_same] at q; cases q; exact new
  · rw [upd_ne hb] at q
    by_cases hbe : b = e
    · have q' : H b = some (.own x) := by
        rcases he with z | z
        · exact absurd (hbe.trans z) hb
        · rw [hbe]; exact z
      rw [q] at q'; cases q'
      obtain ⟨v, hv⟩ := heo
      exact ⟨v, by rw [hbe]; exact hv⟩
    · refine (ok b u q).stay (fun c v hc r => k c v ?_ r) (fun c r => by rw [upd_ne (nown c b r)]; exact r) fun c xs r => by rw [upd_ne (ntup c xs r)]; exact r
      rcases hc with rfl | hc
      · exact hbe
      · rintro rfl
        rcases he with z | z
        · exact nown c b hc z
        · rw [hc] at z; cases z; exact hb rfl
end

/-! ### kept unless tracked; of the frames at fs (the callers') the slots may change (an exception that passes writes there); of the records at ex (iterators) nothing is said -/
structure Un (fs ex : List Addr) (H H' : Hp) (h h' : Heap) : Prop where
  keep : ∀ b o, h.get? b = some o → H b = none → b ∉ fs → b ∉ ex → h'.get? b = some o
  slot : ∀ b o, h.get? b = some o → H b = none → b ∈ fs → b ∉ ex → ∃ sl, h'.get? b = some { o with slots := sl }
  free : ∀ b o, h.get? b = some o → H b = none → b ∉ ex → H' b = none
  there : ∀ b o, h.get? b = some o → b ∉ ex → ∃ o', h'.get? b = some o'
  tups : ∀ b xs, H b = some (.tup xs) → H' b = some (.tup xs)
  frzs : ∀ b o u, H b = some (.frz o u) → H' b = some (.frz o u)
  tbls : ∀ b ps, H b = some (.tbl ps) → ∃ more, H' b = some (.tbl (ps ++ more))
section
variable {fs fs' ex ex' : List Addr} {H H1 H2 : Hp} {h h1 h2 h' : Heap} {a x e : Addr} {o : HO}
theorem Un.any (u : Un fs ex H H1 h h1) {b : Addr} {ob : Obj} (q : h.get? b = some ob) (n : H b = none) (hx : b ∉ ex) : ∃ sl, h1.get? b = some { ob with slots := sl } := by
  by_cases hb : b ∈ fs
  · exact u.slot b ob q n hb hx
  · exact ⟨ob.slots, u.keep b ob q n hb hx⟩
theorem Un.kept (k : ∀ b u, h.get? b = some u → h'.get? b = some u) : Un fs ex H H h h' :=
  ⟨fun b ob q _ _ _ => k b ob q, fun b ob q _ _ _ => ⟨ob.slots, k b ob q⟩, fun _ _ _ n _ => n, fun b ob q _ => ⟨ob, k b ob q⟩, fun _ _ q => q, fun _ _ _ q => q, fun _ ps q => ⟨#[], by rw [q]; simp⟩⟩
theorem Un.refl : Un fs ex H H h h := Un.kept fun _ _ q => q
theorem Un.laid (k : ∀ b u, h.get? b = some u → h'.get? b = some u) (hp : h.objs.size ≤ a) (hn : H a = none) : Un fs ex H (upd H a o) h h' where
  keep := fun b u q _ _ _ => k b u q
  slot := fun b u q _ _ _ => ⟨u.slots, k b u q⟩
  free := fun b u q n _ => by rw [upd_ne (Nat.ne_of_lt (Nat.lt_of_lt_of_le (Heap.lt_size q) hp))]; exact n
  there := fun b u q _ => ⟨u, k b u q⟩
  tups := fun b xs q => by rw [upd_ne (ne_of_none q hn)]; exact q
  frzs := fun b u xs q => by rw [upd_ne (ne_of_none q hn)]; exact q
  tbls := fun b ps q => ⟨#[], by rw [upd_ne (ne_of_none q hn), q]; simp⟩
theorem Un.write (mu : Mut (H x)) (he : e = x ∨ H e = some (.own x)) (k : ∀ b u, b ≠ e → h.get? b = some u → h'.get? b = some u) (heo : ∃ u, h'.get? e = some u) : Un fs ex H (upd H x o) h h' := by
  have hx : ∀ b, H b = none → b ≠ x := fun b n z => by subst z; rw [n] at mu; exact mu
  have hb : ∀ b, H b = none → b ≠ e := fun b n z => by
    subst z
    rcases he with r | r
    · exact hx b n r
    · rw [n] at r; cases r
  have hm : ∀ b u, H b = some u → ¬ Mut (some u) → b ≠ x := fun b u q nm z => by subst z; rw [q] at mu; exact nm mu
  refine ⟨fun b u q n _ _ => k b u (hb b n) q, fun b u q n _ _ => ⟨u.slots, k b u (hb b n) q⟩, fun b u q n _ => by rw [upd_ne (hx b n)]; exact n, fun b u q _ => ?_,
    fun b xs q => by rw [upd_ne (hm b _ q fun z => z)]; exact q, fun b u xs q => by rw [upd_ne (hm b _ q fun z => z)]; exact q, fun b ps q => ⟨#[], by rw [upd_ne (hm b _ q fun z => z), q]; simp⟩⟩
  by_cases hbe : b = e
  · subst hbe; exact heo
  · exact ⟨u, k b u hbe q⟩
end

/-! ### the heap without what is tracked -/
def trk (h : Heap) (H : Hp) : List Addr := (List.range h.objs.size).filter fun a => (H a).isSome
def hidT (h : Heap) (H : Hp) : Heap := PySem.W.hideAll h (trk h H)
theorem hidT_size (h : Heap) (H : Hp) : (hidT h H).objs.size = h.objs.size := PySem.W.hideAll_size _ _
theorem hidT_get {h : Heap} {H : Hp} {b : Addr} {o : Obj} (e : h.get? b = some o) (n : H b = none) : (hidT h H).get? b = some o :=
  PySem.W.hideAll_get _ e fun hm => by
    have q : (H b).isSome = true := (List.mem_filter.mp hm).2
    rw [n] at q; simp at q
theorem of_hidT {h : Heap} {H : Hp} {b : Addr} {o : Obj} (e : (hidT h H).get? b = some o) : h.get? b = some o ∧ H b = none := by
  have e' : h.get? b = some o := PySem.W.of_hideAll (trk h H) e
  refine ⟨e', ?_⟩
  cases q : H b with
  | none => rfl
  | some x =>
    have hm : b ∈ trk h H := List.mem_filter.mpr ⟨List.mem_range.mpr (Heap.lt_size e'), by simp [q]⟩
    have z : (hidT h H).get? b = none := PySem.W.hideAll_none (trk h H) hm
    rw [z] at e; cases e

/-! ### OpenK's ledger, filled with every new object but one -/
end L2

namespace L2
open PySem PySem.Spec PyProof.Rows

/-- the module's facts, over the base: the heap at the law's entry without what is tracked there -/
structure Mod (K : PySem.W.Frag) (mg : Str → Option Value) (base : Heap) : Prop where
  kin : K.In base
  glob : base.Ns mainGlobals mg
  blt : ∃ mb, base.Ns builtinsNs mb ∧ ∀ x : Str, x ≠ "__name__" → mb x = bootBuiltins x
  nolimit : base.NoLimit

/-- the context: a def's body (or a comprehension's block) running. base: fixed through the whole law; s₀, H₀: the entry; outer: the frames whose slots others may change (a def's callers); stack: all frames that run;
   ex: iterators that were made ahead of the entry and are walked here (a comprehension's); fn: the names whose cells were made at the entry (a def: all; a comprehension's block: its own); calm: not within an except suite; pn: pins that every state bears; xe: what is wanted of an exception that leaves the code -/
structure Cx where
  prog : Program
  w : World
  K : PySem.W.Frag
  mg : Str → Option Value
  base : Heap
  A : Around
  N : List Str
  s₀ : Shared
  H₀ : Hp
  env : Env
  outer : List Env
  stack : List Env
  ex : List Addr
  fn : Str → Bool
  calm : Bool
  pn : List (Addr × Obj)
  xe : Value → Shared → Prop
/-- the callers' frames -/
def frs (l : List Env) : List Addr := l.filterMap (·.frame)
abbrev Cx.fs (X : Cx) : List Addr := frs X.outer

def Vis (sc : Scope) (x : Str) : Prop := sc.names.lookup x = some .local ∨ sc.names.lookup x = some .cell ∨ sc.names.lookup x = some .free
def Loc (sc : Scope) (x : Str) : Prop := sc.names.lookup x = some .local ∨ sc.names.lookup x = some .cell
def Look (env : Env) (h : Heap) (m : Str → Option Value) (x : Str) (u : Value) : Prop :=
  (env.kindOf x = some .local ∧ m x = some u) ∨ ((env.kindOf x = some .cell ∨ env.kindOf x = some .free) ∧ ∃ c, env.cells.lookup x = some c ∧ h.IsCell c (some u))

structure Cx.Ok (X : Cx) : Prop where
  mod : Mod X.K X.mg X.base
  kind : X.env.scope.kind = .function
  glob : X.env.globals = mainGlobals
  blt : X.env.builtins = builtinsNs
  above : X.s₀.heap.objs.size ≤ X.env.locals
  inj : ∀ x y c, X.env.cells.lookup x = some c → X.env.cells.lookup y = some c → x = y
  has : ∀ x, (X.env.kindOf x = some .cell ∨ X.env.kindOf x = some .free) → ∃ c, X.env.cells.lookup x = some c
  cab : ∀ x c, X.fn x = true → X.env.cells.lookup x = some c → X.s₀.heap.objs.size ≤ c
  hd : X.calm = true → X.A.handled = none
  frames : X.A.frames = some X.stack
  stk : X.stack = X.outer ∨ (X.stack = X.env :: X.outer ∧ X.env.frame = some X.env.locals)
  exf : ∀ b ∈ X.ex, b ≠ X.env.locals ∧ ∀ x c, X.env.cells.lookup x = some c → c ≠ b
  bs : ∀ b o, X.base.get? b = some o → X.s₀.heap.get? b = some o ∧ X.H₀ b = none
  bsz : X.base.objs.size ≤ X.s₀.heap.objs.size
  noex : ∀ b o, X.base.get? b = some o → b ∉ X.ex
  exfs : ∀ b ∈ X.ex, b ∉ X.fs
  funs : X.s₀.heap.FunFrames X.base X.outer
  frf : ∀ b ∈ X.fs, X.H₀ b = none

structure Inv (X : Cx) (pins : List (Addr × Obj)) (σ : List (Option V)) (H : Hp) (s : Shared) : Prop where
  ok : X.Ok
  os : s.os = X.s₀.os
  bare : AllBare s.gens
  base : Un X.fs X.ex X.H₀ H X.s₀.heap s.heap
  loc : ∃ m, s.heap.Ns X.env.locals m ∧ ∀ (i : Nat) (x : Str) (v : V), X.N[i]? = some x → σ[i]? = some (some v) → Vis X.env.scope x → ∃ u, RelV v u ∧ Look X.env s.heap m x u
  cell : ∀ x c, X.env.cells.lookup x = some c → ∃ v, s.heap.IsCell c v
  free : H X.env.locals = none
  freeC : ∀ x c, X.env.cells.lookup x = some c → H c = none
  pin : ∀ p ∈ X.pn ++ pins, s.heap.get? p.1 = some p.2 ∧ H p.1 = none ∧ p.1 ≠ X.env.locals ∧ p.1 ∉ X.fs ∧ ∀ v, p.2.data ≠ .cell v
  hok : HOk X.prog X.w H s.heap
  len : σ.length = X.N.length

section
variable {X : Cx} {pins : List (Addr × Obj)} {σ : List (Option V)} {H H' : Hp} {s : Shared} {h' : Heap}

theorem Cx.Ok.nofr (ok : X.Ok) {b : Addr} {o : Obj} (e : X.base.get? b = some o) : b ∉ X.fs := fun hb => by
  have := (ok.funs.mem hb).1
  rw [e] at this; cases this
theorem Inv.bs (I : Inv X pins σ H s) : ∀ b o, X.base.get? b = some o → s.heap.get? b = some o ∧ H b = none := fun b o e =>
  ⟨I.base.keep b o (I.ok.bs b o e).1 (I.ok.bs b o e).2 (I.ok.nofr e) (I.ok.noex b o e), I.base.free b o (I.ok.bs b o e).1 (I.ok.bs b o e).2 (I.ok.noex b o e)⟩
theorem Inv.bk (I : Inv X pins σ H s) : ∀ b o, X.base.get? b = some o → s.heap.get? b = some o := fun b o e => (I.bs b o e).1
theorem Inv.mod (I : Inv X pins σ H s) : Mod X.K X.mg X.base := I.ok.mod
theorem Inv.kIn (I : Inv X pins σ H s) : X.K.In s.heap := I.ok.mod.kin.keeps I.bk
theorem Inv.lt (I : Inv X pins σ H s) : X.env.locals < s.heap.objs.size := let ⟨_, hn, _⟩ := I.loc; hn.lt
theorem Inv.sz (I : Inv X pins σ H s) : X.s₀.heap.objs.size ≤ s.heap.objs.size := Nat.le_trans I.ok.above (Nat.le_of_lt I.lt)
theorem Inv.nofs (I : Inv X pins σ H s) {a : Addr} (h : s.heap.objs.size ≤ a) : a ∉ X.fs := fun hb => by
  obtain ⟨_, o, ho, _⟩ := I.ok.funs.mem hb
  exact absurd (Nat.lt_of_lt_of_le (Heap.lt_size ho) (Nat.le_trans I.sz h)) (Nat.lt_irrefl _)
theorem Inv.cne (I : Inv X pins σ H s) : ∀ x c, X.env.cells.lookup x = some c → c ≠ X.env.locals := fun x c e z => by
  obtain ⟨v, o, ho, hd⟩ := I.cell x c e
  obtain ⟨m, ⟨o', es, ep, ho', hd', _⟩, _⟩ := I.loc
  rw [z, ho'] at ho; cases ho; rw [hd'] at hd; cases hd
theorem Inv.funs (I : Inv X pins σ H s) : s.heap.FunFrames X.base X.outer := by
  have all : ∀ (l : List Env), (∀ b ∈ frs l, b ∈ X.fs) → X.s₀.heap.FunFrames X.base l → s.heap.FunFrames X.base l := by
    intro l
    induction l with
    | nil => intro _ _; trivial
    | cons env r ih =>
      intro hs hl
      obtain ⟨hk, ⟨L, o, hf, hn, ho, hd⟩, hr⟩ := hl
      have hL : L ∈ X.fs := hs L (by unfold frs; rw [List.filterMap_cons, hf]; exact List.mem_cons_self)
      obtain ⟨sl, e⟩ := I.base.slot L o ho (I.ok.frf L hL) hL fun z => I.ok.exfs L z hL
      exact ⟨hk, ⟨L, _, hf, hn, e, hd⟩, ih (fun b hb => hs b (by unfold frs; rw [List.filterMap_cons, hf]; exact List.mem_cons_of_mem _ hb)) hr⟩
  exact all X.outer (fun _ hb => hb) I.ok.funs

/-- the frames that run, for a call -/
theorem Inv.stack (I : Inv X pins σ H s) : s.heap.FunFrames X.base X.stack := by
  rcases I.ok.stk with e | ⟨e, hf⟩
  · rw [e]; exact I.funs
  · rw [e]
    obtain ⟨m, hn, _⟩ := I.loc
    refine .cons (by rw [I.ok.kind]; decide) hf hn ?_ I.funs
    exact Heap.get?_none_of_le (Nat.le_trans I.ok.bsz I.ok.above)
theorem Inv.stkSub (I : Inv X pins σ H s) : ∀ b ∈ frs X.stack, b ∈ X.env.locals :: X.fs := fun b hb => by
  rcases I.ok.stk with e | ⟨e, hf⟩
  · rw [e] at hb; exact List.mem_cons_of_mem _ hb
  · rw [e] at hb
    unfold frs at hb
    rw [List.filterMap_cons, hf] at hb
    exact hb
theorem Inv.stkFree (I : Inv X pins σ H s) : ∀ b ∈ frs X.stack, H b = none := fun b hb => by
  rcases List.mem_cons.mp (I.stkSub b hb) with e | hb
  · rw [e]; exact I.free
  · obtain ⟨_, o, ho, _⟩ := I.ok.funs.mem hb
    exact I.base.free b o ho (I.ok.frf b hb) fun z => I.ok.exfs b z hb

/-- THE STEP: the untracked objects but the frame and the records at ch are kept (the callers' frames up to slots), the frame's map is kept, the new abstract heap is held -/
theorem Inv.step {g' : Array GenState} {t' : Nat} {d' : Drawn} {ch : List Addr} (I : Inv X pins σ H s)
    (hch : ∀ b ∈ ch, (b ∈ X.ex ∨ X.s₀.heap.objs.size ≤ b) ∧ b ≠ X.env.locals ∧ (∀ x c, X.env.cells.lookup x = some c → c ≠ b) ∧ ∀ p ∈ X.pn ++ pins, p.1 ≠ b)
    (keep : ∀ b o, b ≠ X.env.locals → b ∉ X.fs → b ∉ ch → s.heap.get? b = some o → H b = none → h'.get? b = some o)
    (slot : ∀ b o, b ≠ X.env.locals → b ∈ X.fs → b ∉ ch → s.heap.get? b = some o → H b = none → ∃ sl, h'.get? b = some { o with slots := sl }) (free : ∀ b o, b ∉ ch → s.heap.get? b = some o → H b = none → H' b = none)
    (there : ∀ b o, b ∉ ch → s.heap.get? b = some o → ∃ o', h'.get? b = some o')
    (tups : ∀ b xs, H b = some (.tup xs) → H' b = some (.tup xs)) (frzs : ∀ b o u, H b = some (.frz o u) → H' b = some (.frz o u)) (tbls : ∀ b ps, H b = some (.tbl ps) → ∃ more, H' b = some (.tbl (ps ++ more)))
    (ns : ∀ m, s.heap.Ns X.env.locals m → h'.Ns X.env.locals m) (hok : HOk X.prog X.w H' h') (hg : AllBare g') :
    Inv X pins σ H' { s with heap := h', gens := g', drawn := d', toks := t' } := by
  have neL : ∀ b o, X.s₀.heap.get? b = some o → b ≠ X.env.locals := fun b o e => Nat.ne_of_lt (Nat.lt_of_lt_of_le (Heap.lt_size e) I.ok.above)
  have neC : ∀ b o, X.s₀.heap.get? b = some o → b ∉ X.ex → b ∉ ch := fun b o e hx hb => by
    rcases (hch b hb).1 with z | z
    · exact hx z
    · exact absurd (Nat.lt_of_lt_of_le (Heap.lt_size e) z) (Nat.lt_irrefl _)
  have cellK : ∀ x c, X.env.cells.lookup x = some c → ∀ v, s.heap.IsCell c v → h'.IsCell c v := fun x c e v ⟨o, ho, hd⟩ => by
    have nch : c ∉ ch := fun z => (hch c z).2.2.1 x c e rfl
    by_cases hc : c ∈ X.fs
    · obtain ⟨sl, q⟩ := slot c o (I.cne x c e) hc nch ho (I.freeC x c e)
      exact ⟨_, q, hd⟩
    · exact ⟨o, keep c o (I.cne x c e) hc nch ho (I.freeC x c e), hd⟩
  refine ⟨I.ok, I.os, hg, ⟨fun b o e n hb hx => ?_, fun b o e n hb hx => ?_, fun b o e n hx => ?_, fun b o e hx => ?_, fun b xs e => tups b xs (I.base.tups b xs e), fun b o xs e => frzs b o xs (I.base.frzs b o xs e), fun b ps e => ?_⟩, ?_, fun x c e => ?_, ?_, fun x c e => ?_, fun p hp => ?_, hok, I.len⟩
  · exact keep b o (neL b o e) hb (neC b o e hx) (I.base.keep b o e n hb hx) (I.base.free b o e n hx)
  · obtain ⟨sl, e1⟩ := I.base.slot b o e n hb hx
    obtain ⟨sl', e2⟩ := slot b _ (neL b o e) hb (neC b o e hx) e1 (I.base.free b o e n hx)
    exact ⟨sl', e2⟩
  · obtain ⟨o', e1⟩ := I.base.there b o e hx
    exact free b o' (neC b o e hx) e1 (I.base.free b o e n hx)
  · obtain ⟨o', e1⟩ := I.base.there b o e hx
    exact there b o' (neC b o e hx) e1
  · obtain ⟨m1, e1⟩ := I.base.tbls b ps e
    obtain ⟨m2, e2⟩ := tbls b _ e1
    exact ⟨m1 ++ m2, by rw [e2, Array.append_assoc]⟩
  · obtain ⟨m, hn, hl⟩ := I.loc
    refine ⟨m, ns m hn, fun i x v e1 e2 e3 => ?_⟩
    obtain ⟨u, r, l⟩ := hl i x v e1 e2 e3
    refine ⟨u, r, ?_⟩
    rcases l with l | ⟨k, c, e, z⟩
    · exact .inl l
    · exact .inr ⟨k, c, e, cellK x c e _ z⟩
  · obtain ⟨v, z⟩ := I.cell x c e
    exact ⟨v, cellK x c e v z⟩
  · obtain ⟨m, ⟨o, _, _, ho, _⟩, _⟩ := I.loc
    exact free _ o (fun z => (hch _ z).2.1 rfl) ho I.free
  · obtain ⟨v, o, ho, hd⟩ := I.cell x c e
    exact free c o (fun z => (hch c z).2.2.1 x c e rfl) ho (I.freeC x c e)
  · obtain ⟨e, n, ne, nf, d⟩ := I.pin p hp
    have nch : p.1 ∉ ch := fun z => (hch p.1 z).2.2.2 p hp rfl
    exact ⟨keep p.1 p.2 ne nf nch e n, free p.1 p.2 nch e n, ne, nf, d⟩
/-- .. where the frame's own object is kept too -/
theorem Inv.un {t' : Nat} (I : Inv X pins σ H s) (u : Un X.fs [] H H' s.heap h') (hok : HOk X.prog X.w H' h') : Inv X pins σ H' { s with heap := h', toks := t' } := by
  obtain ⟨m, ⟨o, es, ep, ho, r⟩, _⟩ := id I.loc
  obtain ⟨sl, hL⟩ := u.any ho I.free (by simp)
  exact I.step (g' := s.gens) (d' := s.drawn) (ch := []) (fun _ z => nomatch z) (fun b o _ hb _ e n => u.keep b o e n hb (by simp)) (fun b o _ hb _ e n => u.slot b o e n hb (by simp)) (fun b o _ e n => u.free b o e n (by simp)) (fun b o _ e => u.there b o e (by simp)) u.tups u.frzs u.tbls (fun m' hm => by
    obtain ⟨o', es', ep', ho', r'⟩ := hm
    rw [ho] at ho'; cases ho'
    exact ⟨_, es', ep', hL, r'⟩) hok I.bare
/-- behind a call (or a comprehension's block): the slots of this frame may have changed too, the records at ch may have turned -/
theorem Inv.call {g' : Array GenState} {t' : Nat} {d' : Drawn} {ch : List Addr} (I : Inv X pins σ H s) (u : Un (frs X.stack) ch H H' s.heap h') (hok : HOk X.prog X.w H' h') (hg : AllBare g')
    (hch : ∀ b ∈ ch, (b ∈ X.ex ∨ X.s₀.heap.objs.size ≤ b) ∧ b ≠ X.env.locals ∧ (∀ x c, X.env.cells.lookup x = some c → c ≠ b) ∧ ∀ p ∈ X.pn ++ pins, p.1 ≠ b) :
    Inv X pins σ H' { s with heap := h', gens := g', drawn := d', toks := t' } := by
  obtain ⟨m, ⟨o, es, ep, ho, r⟩, _⟩ := id I.loc
  obtain ⟨sl, hL⟩ := u.any ho I.free fun z => (hch _ z).2.1 rfl
  exact I.step (ch := ch) hch (fun b o hL hb hc e n => u.keep b o e n (fun z => (List.mem_cons.mp (I.stkSub b z)).elim hL hb) hc) (fun b o _ _ hc e n => u.any e n hc) (fun b o hc e n => u.free b o e n hc) (fun b o hc e => u.there b o e hc) u.tups u.frzs u.tbls (fun m' hm => by
    obtain ⟨o', es', ep', ho', r'⟩ := hm
    rw [ho] at ho'; cases ho'
    exact ⟨_, es', ep', hL, r'⟩) hok hg
/-- an untracked record of ours (an iterator) has turned -/
theorem Inv.turned {t' : Nat} {it : Addr} (I : Inv X pins σ H s) (k : ∀ b o, b ≠ it → s.heap.get? b = some o → h'.get? b = some o) (hn : H it = none) (hL : it ≠ X.env.locals)
    (h1 : it ∈ X.ex ∨ X.s₀.heap.objs.size ≤ it) (h2 : ∀ x c, X.env.cells.lookup x = some c → c ≠ it) (h3 : ∀ p ∈ X.pn ++ pins, p.1 ≠ it) : Inv X pins σ H { s with heap := h', toks := t' } := by
  have nit : ∀ b u, H b = some u → b ≠ it := fun b u e z => by rw [z, hn] at e; cases e
  refine I.step (g' := s.gens) (d' := s.drawn) (ch := [it]) (fun b hb => ?_) (fun b o _ _ hc e _ => k b o (fun z => hc (by simp [z])) e) (fun b o _ _ hc e _ => ⟨o.slots, k b o (fun z => hc (by simp [z])) e⟩) (fun _ _ _ _ n => n)
    (fun b o hc e => ⟨o, k b o (fun z => hc (by simp [z])) e⟩) (fun _ _ e => e) (fun _ _ _ e => e) (fun b ps e => ⟨#[], by rw [e]; simp⟩) (fun m hm => ?_) (fun b u e => ?_) I.bare
  · have e : b = it := by simpa using hb
    subst e
    exact ⟨h1, hL, h2, h3⟩
  · obtain ⟨o, es, ep, ho, r⟩ := hm
    exact ⟨o, es, ep, k _ o (Ne.symm hL) ho, r⟩
  · refine (I.hok b u e).stay (fun c v hc q => k c v ?_ q) (fun _ q => q) fun _ _ q => q
    rcases hc with z | z
    · rw [z]; exact nit b u e
    · exact nit c _ z
theorem Inv.tok (I : Inv X pins σ H s) (t : Nat) : Inv X pins σ H { s with toks := t } := I.un (h' := s.heap) (t' := t) Un.refl I.hok
/-- all objects kept -/
theorem Inv.kept {t' : Nat} (I : Inv X pins σ H s) (k : ∀ b u, s.heap.get? b = some u → h'.get? b = some u) : Inv X pins σ H { s with heap := h', toks := t' } := I.un (Un.kept k) (I.hok.kept k)
/-- a new object laid and tracked -/
theorem Inv.laid {a : Addr} {o : HO} {t' : Nat} (I : Inv X pins σ H s) (k : ∀ b u, s.heap.get? b = some u → h'.get? b = some u) (hp : s.heap.objs.size ≤ a) (new : ObjOk X.prog X.w (upd H a o) h' a o) :
    Inv X pins σ (upd H a o) { s with heap := h', toks := t' } := I.un (Un.laid k hp (I.hok.fresh hp)) (I.hok.laid k hp new)
/-- an object written -/
theorem Inv.write {x e : Addr} {o : HO} {t' : Nat} (I : Inv X pins σ H s) (mu : Mut (H x)) (he : e = x ∨ H e = some (.own x)) (k : ∀ b u, b ≠ e → s.heap.get? b = some u → h'.get? b = some u) (heo : ∃ u, h'.get? e = some u)
    (new : ObjOk X.prog X.w (upd H x o) h' x o) : Inv X pins σ (upd H x o) { s with heap := h', toks := t' } := I.un (Un.write mu he k heo) (I.hok.write mu he k heo new)
theorem Inv.pins_of {pins' : List (Addr × Obj)} (I : Inv X pins σ H s) (h : ∀ p ∈ pins', s.heap.get? p.1 = some p.2 ∧ H p.1 = none ∧ p.1 ≠ X.env.locals ∧ p.1 ∉ X.fs ∧ ∀ v, p.2.data ≠ .cell v) : Inv X pins' σ H s :=
  ⟨I.ok, I.os, I.bare, I.base, I.loc, I.cell, I.free, I.freeC, fun p hp => (List.mem_append.mp hp).elim (fun z => I.pin p (List.mem_append_left _ z)) (h p), I.hok, I.len⟩

theorem nodup_ix {N : List Str} (hN : N.Nodup) {i j : Nat} {x : Str} (a : N[i]? = some x) (b : N[j]? = some x) : i = j := by
  obtain ⟨h1, e1⟩ := List.getElem?_eq_some_iff.mp a
  obtain ⟨h2, e2⟩ := List.getElem?_eq_some_iff.mp b
  exact (List.getElem_inj hN).mp (e1.trans e2.symm)

/-- a name is stored; what changed -/
theorem store_ok2 {M : Model} {A : Around} {E : Value → Shared → Prop} {i : Nat} {x : Str} {v : V} {u : Value} {Q : Unit → Shared → Prop} (I : Inv X pins σ H s) (hN : X.N.Nodup) (hi : X.N[i]? = some x) (hx : Loc X.env.scope x) (r : RelV v u)
    (h : ∀ s', Inv X pins (σ.set i (some v)) H s' → (∃ a, Heap.SameBut a s.heap s'.heap ∧ (a = X.env.locals ∨ X.env.cells.lookup x = some a)) → Q () s') (hf : X.fn x = true ∨ X.env.scope.names.lookup x = some .local := by first | exact .inl rfl | exact .inr rfl | assumption) : wpAny M A (storeName X.env x u) Q E s := by
  obtain ⟨m, hn, hl⟩ := id I.loc
  have hcls : (X.env.scope.kind == .class || (X.env.scope.kind == .module && X.env.locals != X.env.globals)) = false := by rw [I.ok.kind]; rfl
  have hiσ : i < σ.length := by rw [I.len]; exact (List.getElem?_eq_some_iff.mp hi).1
  have cne := I.cne
  have tracked : ∀ {a : Addr} {h' : Heap}, (∃ o, s.heap.get? a = some o ∧ H a = none) → Heap.SameBut a s.heap h' → HOk X.prog X.w H h' := fun {a h'} ha hs b ob e => by
    obtain ⟨_, _, hfree⟩ := ha
    refine (I.hok b ob e).stay (fun c w' hc q => (hs.2 c ?_).trans q) (fun _ q => q) fun _ _ q => q
    rintro rfl
    rcases hc with rfl | hc
    · rw [hfree] at e; cases e
    · rw [hfree] at hc; cases hc
  rcases hx with hk | hk
  · refine wpAny_storeName_local hk hn (fun h' hn' hs => ?_) hcls
    obtain ⟨oL, _, _, hoL, _⟩ := id hn
    refine h _ ⟨I.ok, I.os, I.bare, ⟨fun b o e n hb hx => ?_, fun b o e n hb hx => ?_, I.base.free, fun b o e hx => ?_, I.base.tups, I.base.frzs, I.base.tbls⟩, ⟨_, hn', fun j y v' e1 e2 e3 => ?_⟩, fun y c e => ?_, I.free, I.freeC, fun p hp => ?_, tracked ⟨oL, hoL, I.free⟩ hs, by simpa using I.len⟩ ⟨_, hs, .inl rfl⟩
    · exact (hs.2 b (Nat.ne_of_lt (Nat.lt_of_lt_of_le (Heap.lt_size e) I.ok.above))).trans (I.base.keep b o e n hb hx)
    · obtain ⟨sl, e1⟩ := I.base.slot b o e n hb hx
      exact ⟨sl, (hs.2 b (Nat.ne_of_lt (Nat.lt_of_lt_of_le (Heap.lt_size e) I.ok.above))).trans e1⟩
    · obtain ⟨o', e1⟩ := I.base.there b o e hx
      exact ⟨o', (hs.2 b (Nat.ne_of_lt (Nat.lt_of_lt_of_le (Heap.lt_size e) I.ok.above))).trans e1⟩
    · by_cases hj : j = i
      · subst hj
        rw [hi] at e1; cases e1
        rw [List.getElem?_set_self hiσ] at e2
        cases e2
        exact ⟨u, r, .inl ⟨hk, by simp⟩⟩
      · rw [List.getElem?_set_ne (Ne.symm hj)] at e2
        obtain ⟨u', r', q⟩ := hl j y v' e1 e2 e3
        refine ⟨u', r', ?_⟩
        rcases q with ⟨k, e⟩ | ⟨k, c, e, z⟩
        · refine .inl ⟨k, ?_⟩
          have : y ≠ x := fun e => hj (nodup_ix hN e1 (e ▸ hi))
          simp [this, e]
        · exact .inr ⟨k, c, e, z.sameBut hs (cne y c e)⟩
    · obtain ⟨w', z⟩ := I.cell y c e
      exact ⟨w', z.sameBut hs (cne y c e)⟩
    · obtain ⟨e, n, ne, nf, d⟩ := I.pin p hp
      exact ⟨(hs.2 p.1 ne).trans e, n, ne, nf, d⟩
  · have hfn : X.fn x = true := by
      rcases hf with z | z
      · exact z
      · rw [z] at hk; cases hk
    obtain ⟨c, hc⟩ := I.ok.has x (.inl hk)
    obtain ⟨w', z⟩ := I.cell x c hc
    refine wpAny_storeName_cell I.ok.kind hk hc z (fun h' hc' hs => ?_)
    obtain ⟨oc, hoc, hocd⟩ := id z
    refine h { s with heap := h' } ⟨I.ok, I.os, I.bare, ⟨fun b o e n hb hx => ?_, fun b o e n hb hx => ?_, I.base.free, fun b o e hx => ?_, I.base.tups, I.base.frzs, I.base.tbls⟩, ⟨m, hn.sameBut hs (Ne.symm (cne x c hc)), fun j y v' e1 e2 e3 => ?_⟩, fun y c' e => ?_, I.free, I.freeC, fun p hp => ?_, tracked ⟨oc, hoc, I.freeC x c hc⟩ hs, by simpa using I.len⟩ ⟨c, hs, .inr hc⟩
    · exact (hs.2 b (Nat.ne_of_lt (Nat.lt_of_lt_of_le (Heap.lt_size e) (I.ok.cab x c hfn hc)))).trans (I.base.keep b o e n hb hx)
    · obtain ⟨sl, e1⟩ := I.base.slot b o e n hb hx
      exact ⟨sl, (hs.2 b (Nat.ne_of_lt (Nat.lt_of_lt_of_le (Heap.lt_size e) (I.ok.cab x c hfn hc)))).trans e1⟩
    · obtain ⟨o', e1⟩ := I.base.there b o e hx
      exact ⟨o', (hs.2 b (Nat.ne_of_lt (Nat.lt_of_lt_of_le (Heap.lt_size e) (I.ok.cab x c hfn hc)))).trans e1⟩
    · by_cases hj : j = i
      · subst hj
        rw [hi] at e1; cases e1
        rw [List.getElem?_set_self hiσ] at e2
        cases e2
        exact ⟨u, r, .inr ⟨.inl hk, c, hc, hc'⟩⟩
      · rw [List.getElem?_set_ne (Ne.symm hj)] at e2
        obtain ⟨u', r', q⟩ := hl j y v' e1 e2 e3
        refine ⟨u', r', ?_⟩
        rcases q with q | ⟨k, c', e, z'⟩
        · exact .inl q
        · refine .inr ⟨k, c', e, z'.sameBut hs ?_⟩
          rintro rfl
          exact hj (nodup_ix hN e1 (I.ok.inj _ _ _ e hc ▸ hi))
    · by_cases hcc : c' = c
      · subst hcc; exact ⟨_, hc'⟩
      · obtain ⟨w2, z2⟩ := I.cell y c' e
        exact ⟨w2, z2.sameBut hs hcc⟩
    · obtain ⟨e, n, ne, nf, d⟩ := I.pin p hp
      refine ⟨(hs.2 p.1 ?_).trans e, n, ne, nf, d⟩
      intro q
      rw [q, hoc] at e
      have q' : oc = p.2 := Option.some.inj e
      exact d w' (by rw [← q']; exact hocd)
theorem store_ok {M : Model} {A : Around} {E : Value → Shared → Prop} {i : Nat} {x : Str} {v : V} {u : Value} {Q : Unit → Shared → Prop} (I : Inv X pins σ H s) (hN : X.N.Nodup) (hi : X.N[i]? = some x) (hx : Loc X.env.scope x) (r : RelV v u)
    (h : ∀ s', Inv X pins (σ.set i (some v)) H s' → Q () s') (hf : X.fn x = true ∨ X.env.scope.names.lookup x = some .local := by first | exact .inl rfl | exact .inr rfl | assumption) : wpAny M A (storeName X.env x u) Q E s :=
  store_ok2 I hN hi hx r (fun s' I' _ => h s' I') hf
/-- behind a call or a block, the state as it is -/
theorem Inv.call' {s' : Shared} {ch : List Addr} (I : Inv X pins σ H s) (ho : s'.os = s.os) (u : Un (frs X.stack) ch H H' s.heap s'.heap) (hok : HOk X.prog X.w H' s'.heap) (hg : AllBare s'.gens)
    (hch : ∀ b ∈ ch, (b ∈ X.ex ∨ X.s₀.heap.objs.size ≤ b) ∧ b ≠ X.env.locals ∧ (∀ x c, X.env.cells.lookup x = some c → c ≠ b) ∧ ∀ p ∈ X.pn ++ pins, p.1 ≠ b) : Inv X pins σ H' s' := by
  obtain ⟨h', g', d', t', o'⟩ := s'
  have e : o' = s.os := ho
  subst e
  exact I.call (g' := g') (t' := t') (d' := d') u hok hg hch
end

/-! ### the judgements -/
/-- an exception: its class, its own dict's address (where it has one), the abstract heap behind it -/
abbrev XK := Value → Option Addr → Hp → Prop
abbrev St := List (Option V)
abbrev VK := V → Hp → Prop
/-- an expression's reading; a test's; an argument list's -/
abbrev TE := St → Hp → VK → Prop
abbrev TT := St → Hp → (Bool → Hp → Prop) → Prop
abbrev TA := St → Hp → (List V → Hp → Prop) → Prop
/-- what is wanted behind a statement -/
structure Ends where
  nx : St → Hp → Prop
  rt : VK
  bk : St → Hp → Prop := fun _ _ => False
  ct : St → Hp → Prop := fun _ _ => False
abbrev TS := Ends → St → Hp → Prop

def EP (X : Cx) (pins : List (Addr × Obj)) (σ : St) (Q : VK) (u : Value) (s' : Shared) : Prop := ∃ v H', Inv X pins σ H' s' ∧ RelV v u ∧ Q v H'
def TP (X : Cx) (pins : List (Addr × Obj)) (σ : St) (Q : Bool → Hp → Prop) (b : Bool) (s' : Shared) : Prop := ∃ H', Inv X pins σ H' s' ∧ Q b H'
def AP (X : Cx) (pins : List (Addr × Obj)) (σ : St) (Q : List V → Hp → Prop) (us : List Value) (s' : Shared) : Prop := ∃ vs H', Inv X pins σ H' s' ∧ Vals vs us ∧ Q vs H'
def SP (X : Cx) (pins : List (Addr × Obj)) (D : Ends) (f : Flow) (s' : Shared) : Prop :=
  match f with
  | .next => ∃ σ' H', Inv X pins σ' H' s' ∧ D.nx σ' H'
  | .brk => ∃ σ' H', Inv X pins σ' H' s' ∧ D.bk σ' H'
  | .cont => ∃ σ' H', Inv X pins σ' H' s' ∧ D.ct σ' H'
  | .ret u => ∃ v σ' H', Inv X pins σ' H' s' ∧ RelV v u ∧ D.rt v H'

def PE (X : Cx) (e : Expr) (t : TE) : Prop :=
  ∀ (pins : List (Addr × Obj)) (s : Shared) (σ : St) (H : Hp) (Q : VK), Inv X pins σ H s → t σ H Q → wpAny (model X.prog X.w) X.A (eval e X.env) (EP X pins σ Q) X.xe s
def PT (X : Cx) (e : Expr) (t : TT) : Prop :=
  ∀ (pins : List (Addr × Obj)) (s : Shared) (σ : St) (H : Hp) (Q : Bool → Hp → Prop), Inv X pins σ H s → t σ H Q → wpAny (model X.prog X.w) X.A (isTrue e X.env (eval e X.env)) (TP X pins σ Q) X.xe s
/-- a test whatever its 'whole' is (and, or) -/
def PW (X : Cx) (e : Expr) (t : TT) : Prop :=
  ∀ (whole : Sem Value) (pins : List (Addr × Obj)) (s : Shared) (σ : St) (H : Hp) (Q : Bool → Hp → Prop), Inv X pins σ H s → t σ H Q → wpAny (model X.prog X.w) X.A (isTrue e X.env whole) (TP X pins σ Q) X.xe s
theorem PW.pt {X : Cx} {e : Expr} {t : TT} (h : PW X e t) : PT X e t := h _
/-- an argument list (no star), from the left -/
def PA (X : Cx) (es : List Expr) (t : TA) : Prop :=
  ∀ (pos : Pos) (pins : List (Addr × Obj)) (s : Shared) (σ : St) (H : Hp) (Q : List V → Hp → Prop), Inv X pins σ H s → t σ H Q → wpAny (model X.prog X.w) X.A (spliced (backTo pos (starEach es X.env))) (AP X pins σ Q) X.xe s
def PS (X : Cx) (st : Stmt) (t : TS) : Prop :=
  ∀ (pins : List (Addr × Obj)) (s : Shared) (σ : St) (H : Hp) (D : Ends), Inv X pins σ H s → t D σ H → wpAny (model X.prog X.w) X.A (exec st X.env) (SP X pins D) X.xe s
def PSs (X : Cx) (st : List Stmt) (t : TS) : Prop :=
  ∀ (pins : List (Addr × Obj)) (s : Shared) (σ : St) (H : Hp) (D : Ends), Inv X pins σ H s → t D σ H → wpAny (model X.prog X.w) X.A (execs st X.env) (SP X pins D) X.xe s
/-- weaken the end -/
theorem thn {α : Type} {t : Sem α} {Q Q' : α → Shared → Prop} {M : Model} {A : Around} {E : Value → Shared → Prop} {s : Shared} (h : wpAny M A t Q E s) (hQ : ∀ a s, Q a s → Q' a s) : wpAny M A t Q' E s := wpAny_mono h hQ fun _ _ x => x
end L2

namespace L2
open PySem PySem.Spec PyProof.Rows
section
variable {X : Cx}

/-! ### names and constants -/
def tVar (i : Nat) : TE := fun σ H Q => ∃ v, σ[i]? = some (some v) ∧ Q v H
def tC (v : V) : TE := fun _ H Q => Q v H
theorem pe_var {i : Nat} {x : Str} {pos : Pos} (hN : X.N[i]? = some x) (hv : Vis X.env.scope x) (hd : (x == ("__debug__" : Str)) = false := by decide) (hcd : (x == ("__classdict__" : Str)) = false := by decide) : PE X (.Name x pos) (tVar i) := by
  intro pins s σ H Q I h
  obtain ⟨v, e, h⟩ := h
  obtain ⟨m, hn, hl⟩ := I.loc
  obtain ⟨u, r, l⟩ := hl i x v hN e hv
  have fin : EP X pins σ Q u s := ⟨v, H, I, r, h⟩
  rcases l with ⟨hk, hm⟩ | ⟨hk, c, hc, hcell⟩
  · exact wpAny_Name (wpAny_loadName_local I.ok.kind hk hn hm fin) hd
  · rcases hk with hk | hk
    · exact wpAny_Name (wpAny_loadName_cell I.ok.kind hk hc hcell fin) hd
    · exact wpAny_Name (wpAny_loadName_free I.ok.kind hk hc hcell fin hcd) hd
theorem pe_int {i j pos} : PE X (.Constant (.int i) j pos) (tC (.int i)) := fun _ _ _ H _ I h => wpAny_Constant_int ⟨.int i, H, I.tok _, ⟨_, rfl⟩, h⟩
theorem pe_bl {b j pos} : PE X (.Constant (.bool b) j pos) (tC (.bl b)) := fun _ _ _ H _ I h => Constant_bool ⟨.bl b, H, I, rfl, h⟩
/-- a global name of the def -/
def Gl (X : Cx) (x : Str) : Prop := X.env.kindOf x = some .globalImplicit
theorem ld_glob {E : Value → Shared → Prop} {pins : List (Addr × Obj)} {s : Shared} {σ : St} {H : Hp} {x : Str} {u : Value} {pos : Pos} {Q : Value → Shared → Prop} (I : Inv X pins σ H s) (hg : Gl X x) (hm : X.mg x = some u) (h : Q u s)
    (hd : (x == ("__debug__" : Str)) = false := by decide) : wpAny (model X.prog X.w) X.A (eval (.Name x pos) X.env) Q E s :=
  Calls.Name_function_global I.ok.kind hg (Calls.loadGlobal_global (by rw [I.ok.glob]; exact I.mod.glob.keeps I.bk) hm h) hd
theorem ld_blt {E : Value → Shared → Prop} {pins : List (Addr × Obj)} {s : Shared} {σ : St} {H : Hp} {x : Str} {u : Value} {pos : Pos} {Q : Value → Shared → Prop} (I : Inv X pins σ H s) (hg : Gl X x) (hm : X.mg x = none) (hv : bootBuiltins x = some u) (h : Q u s)
    (hn : x ≠ "__name__" := by decide) (hd : (x == ("__debug__" : Str)) = false := by decide) : wpAny (model X.prog X.w) X.A (eval (.Name x pos) X.env) Q E s := by
  obtain ⟨mb, h1, h2⟩ := I.mod.blt
  exact Calls.Name_function_global I.ok.kind hg (Calls.loadGlobal_builtin (by rw [I.ok.glob]; exact I.mod.glob.keeps I.bk) hm (by rw [I.ok.blt]; exact h1.keeps I.bk) ((h2 x hn).trans hv) h) hd
/-- a module's constant, a class, a function, as a value -/
theorem pe_glob {x : Str} {v : V} {u : Value} {pos : Pos} (hg : Gl X x) (hm : X.mg x = some u) (r : RelV v u) (hd : (x == ("__debug__" : Str)) = false := by decide) : PE X (.Name x pos) (tC v) :=
  fun _ _ _ H _ I h => ld_glob I hg hm ⟨v, H, I, r, h⟩ hd
theorem pe_bltn {x : Str} {v : V} {u : Value} {pos : Pos} (hg : Gl X x) (hm : X.mg x = none) (hv : bootBuiltins x = some u) (r : RelV v u) (hn : x ≠ "__name__" := by decide) (hd : (x == ("__debug__" : Str)) = false := by decide) : PE X (.Name x pos) (tC v) :=
  fun _ _ _ H _ I h => ld_blt I hg hm hv ⟨v, H, I, r, h⟩ hn hd

/-! ### arithmetic -/
variable {a b : Expr} {ta tb : TE} {pos : Pos}
/-! ### comparisons -/
/-- a comparison as a value, as a test -/
def tB (t : TE) : TT := fun σ H Q => t σ H fun x H1 => ∃ c, x = .bl c ∧ Q c H1
/-- an expression whose value is a bool, as a test -/
theorem pt_val {e : Expr} {t : TE} (h : PE X e t) (he : ∀ whole, isTrue e X.env whole = (do let v ← whole; standAt e.pos; holding [v] (truthy v)) := by intro _; rfl) : PT X e (tB t) := by
  intro pins s σ H Q I hw
  refine isTrue_plain (thn (h pins s σ H _ I hw) fun v s1 ⟨x, H1, I1, r1, q1⟩ => ?_) (he _)
  obtain ⟨d, rfl, q⟩ := q1
  cases r1
  exact wpAny_truthy_bool ⟨H1, I1, q⟩

/-! ### and, or, not -/
variable {tA tB' : TT} {rest : List Expr}
def tAnd (t u : TT) : TT := fun σ H Q => t σ H fun c H1 => if c = true then u σ H1 Q else Q false H1
def tOr (t u : TT) : TT := fun σ H Q => t σ H fun c H1 => if c = true then Q true H1 else u σ H1 Q
def tNot (t : TT) : TT := fun σ H Q => t σ H fun c H1 => Q (!c) H1
theorem pw_and1 (ha : PT X a tA) : PW X (.BoolOp .And [a] pos) tA := by
  intro wh pins s σ H Q I h
  refine isTrue_and (thn (ha pins s σ H Q I h) fun c s1 e => ?_)
  cases c with
  | true => exact isTrue_and_nil e
  | false => exact e
theorem pw_or1 (ha : PT X a tA) : PW X (.BoolOp .Or [a] pos) tA := by
  intro wh pins s σ H Q I h
  refine isTrue_or (thn (ha pins s σ H Q I h) fun c s1 e => ?_)
  cases c with
  | false => exact isTrue_or_nil e
  | true => exact e
theorem pw_and (ha : PT X a tA) (hb : PW X (.BoolOp .And (b :: rest) pos) tB') : PW X (.BoolOp .And (a :: b :: rest) pos) (tAnd tA tB') := by
  intro wh pins s σ H Q I h
  refine isTrue_and (thn (ha pins s σ H _ I h) fun c s1 ⟨H1, I1, q1⟩ => ?_)
  cases c with
  | true => exact hb wh pins s1 σ H1 Q I1 q1
  | false => exact ⟨H1, I1, q1⟩
theorem pw_or (ha : PT X a tA) (hb : PW X (.BoolOp .Or (b :: rest) pos) tB') : PW X (.BoolOp .Or (a :: b :: rest) pos) (tOr tA tB') := by
  intro wh pins s σ H Q I h
  refine isTrue_or (thn (ha pins s σ H _ I h) fun c s1 ⟨H1, I1, q1⟩ => ?_)
  cases c with
  | true => exact ⟨H1, I1, q1⟩
  | false => exact hb wh pins s1 σ H1 Q I1 q1
theorem pt_not (ha : PT X a tA) : PT X (.UnaryOp .Not a pos) (tNot tA) := by
  intro pins s σ H Q I h
  exact isTrue_not (ha pins s σ H (fun c H1 => Q (!c) H1) I h)
/-- .. as values (bools) -/
def tAndV (ta tb : TE) : TE := fun σ H Q => ta σ H fun x H1 => ∃ c, x = .bl c ∧ if c = true then tb σ H1 Q else Q (.bl false) H1
def tOrV (ta tb : TE) : TE := fun σ H Q => ta σ H fun x H1 => ∃ c, x = .bl c ∧ if c = true then Q (.bl true) H1 else tb σ H1 Q
def tNotV (ta : TE) : TE := fun σ H Q => ta σ H fun x H1 => ∃ c, x = .bl c ∧ Q (.bl (!c)) H1
theorem pe_one {op} {t : TE} (h : PE X a t) : PE X (.BoolOp op [a] pos) t := fun pins s σ H Q I hw => BoolOp_one (h pins s σ H Q I hw)
theorem pe_and (ha : PE X a ta) (hb : PE X (.BoolOp .And (b :: rest) pos) tb) : PE X (.BoolOp .And (a :: b :: rest) pos) (tAndV ta tb) := by
  intro pins s σ H Q I h
  refine BoolOp_and (thn (ha pins s σ H _ I h) fun v s1 ⟨x, H1, I1, r1, q1⟩ => ?_)
  obtain ⟨c, rfl, q1⟩ := q1
  cases r1
  refine wpAny_truthy_bool ?_
  cases c with
  | true => exact hb pins s1 σ H1 Q I1 q1
  | false => exact ⟨.bl false, H1, I1, rfl, q1⟩
theorem pe_or (ha : PE X a ta) (hb : PE X (.BoolOp .Or (b :: rest) pos) tb) : PE X (.BoolOp .Or (a :: b :: rest) pos) (tOrV ta tb) := by
  intro pins s σ H Q I h
  refine BoolOp_or (thn (ha pins s σ H _ I h) fun v s1 ⟨x, H1, I1, r1, q1⟩ => ?_)
  obtain ⟨c, rfl, q1⟩ := q1
  cases r1
  refine wpAny_truthy_bool ?_
  cases c with
  | false => exact hb pins s1 σ H1 Q I1 q1
  | true => exact ⟨.bl true, H1, I1, rfl, q1⟩
theorem pe_not (ha : PE X a ta) : PE X (.UnaryOp .Not a pos) (tNotV ta) := by
  intro pins s σ H Q I h
  refine UnaryOp_ (thn (ha pins s σ H _ I h) fun v s1 ⟨x, H1, I1, r1, q1⟩ => ?_)
  obtain ⟨c, rfl, q1⟩ := q1
  cases r1
  exact not_of (wpAny_truthy_bool ⟨.bl (!c), H1, I1, rfl, q1⟩)
end
end L2

namespace L2
open PySem PySem.Spec PyProof.Rows

/-! ### a list, a tuple that is read: tracked, frozen, or an object of the module -/
def SqL (K : PySem.W.Frag) (H : Hp) (a : Addr) (xs : List V) : Prop :=
  Rd H a (.lst xs) ∨
    ∃ (o : Obj) (its : Array Value) (n : Nat), K.lookup a = some o ∧ o.cls = .type "list" ∧ o.dict = none ∧ o.data = .seq its n ∧ its.size ≤ sizeLine ∧ Vals xs its.toList
def SqT (K : PySem.W.Frag) (H : Hp) (a : Addr) (xs : List V) : Prop :=
  Rd H a (.tup xs) ∨
    ∃ (o : Obj) (its : Array Value) (n : Nat), K.lookup a = some o ∧ o.cls = .type "tuple" ∧ o.data = .seq its n ∧ its.size ≤ sizeLine ∧ Vals xs its.toList
def absV : Value → Option V
  | .none => some .non
  | .bool b => some (.bl b)
  | .int i _ => some (.int i)
  | .str x _ => some (.str x)
  | .bytes b _ => some (.byt b)
  | .float b _ => some (.flt b)
  | .ref a => some (.ref a)
  | .type n => some (.ty n)
  | _ => none
theorem RelV.abs {x : V} {u : Value} (r : RelV x u) : absV u = some x := by
  cases x with
  | non => cases r; rfl
  | bl _ => cases r; rfl
  | int _ => obtain ⟨t, rfl⟩ := r; rfl
  | str _ => obtain ⟨t, rfl⟩ := r; rfl
  | byt _ => obtain ⟨t, rfl⟩ := r; rfl
  | flt _ => obtain ⟨t, rfl⟩ := r; rfl
  | ref _ => cases r; rfl
  | ty _ => cases r; rfl
theorem RelV.inj {x y : V} {u : Value} (r : RelV x u) (q : RelV y u) : x = y := Option.some.inj (r.abs.symm.trans q.abs)
theorem Vals.inj : ∀ {xs ys : List V} {us : List Value}, Vals xs us → Vals ys us → xs = ys
  | _, _, _, .nil, .nil => rfl
  | _, _, _, .cons r t, .cons r' t' => by rw [r.inj r', Vals.inj t t']
section
variable {X : Cx} {pins : List (Addr × Obj)} {σ : St} {H : Hp} {s : Shared} {a : Addr} {xs ys : List V}
theorem SqL.of {K : PySem.W.Frag} (h : H a = some (.lst xs)) : SqL K H a xs := .inl (.inl h)
theorem SqT.of {K : PySem.W.Frag} (h : H a = some (.tup xs)) : SqT K H a xs := .inl (.inl h)
theorem Inv.list (I : Inv X pins σ H s) (h : SqL X.K H a xs) : ∃ its : List Value, Vals xs its ∧ PlainL s.heap a its.toArray ∧ xs.length ≤ sizeLine := by
  rcases h with h | ⟨o, its, n, hk, hc, hd, hs, hz, r⟩
  · obtain ⟨z, its, n, r, e⟩ := h.ok I.hok
    exact ⟨its, r, ⟨_, n, e, rfl, rfl, rfl⟩, z⟩
  · refine ⟨its.toList, r, ⟨o, n, I.kIn a o hk, hc, hd, by simpa using hs⟩, ?_⟩
    have e := r.length
    simp only [Array.length_toList] at e
    omega
theorem Inv.tuple (I : Inv X pins σ H s) (h : SqT X.K H a xs) : ∃ its : List Value, Vals xs its ∧ IsTup s.heap a its.toArray ∧ xs.length ≤ sizeLine := by
  rcases h with h | ⟨o, its, n, hk, hc, hs, hz, r⟩
  · obtain ⟨z, its, r, p⟩ := h.ok I.hok
    exact ⟨its, r, p, z⟩
  · refine ⟨its.toList, r, ⟨o, I.kIn a o hk, hc, n, by simpa using hs⟩, ?_⟩
    have e := r.length
    simp only [Array.length_toList] at e
    omega
theorem Inv.tuple_inj (I : Inv X pins σ H s) (h : SqT X.K H a xs) (h' : SqT X.K H a ys) : xs = ys := by
  obtain ⟨its, r, ⟨o, e, _, n, d⟩, _⟩ := I.tuple h
  obtain ⟨its', r', ⟨o', e', _, n', d'⟩, _⟩ := I.tuple h'
  rw [e] at e'; cases e'
  rw [d] at d'
  injection d' with d1 _
  have : its = its' := by simpa using congrArg Array.toList d1
  subst this
  exact r.inj r'
end

/-! ### another wish about exceptions -/
abbrev Cx.wish (X : Cx) (E : Value → Shared → Prop) : Cx := { X with xe := E }
/-- no exception leaves -/
abbrev Cx.nox (X : Cx) : Cx := X.wish fun _ _ => False
theorem Cx.Ok.wish {X : Cx} (ok : X.Ok) (E : Value → Shared → Prop) : (X.wish E).Ok :=
  ⟨ok.mod, ok.kind, ok.glob, ok.blt, ok.above, ok.inj, ok.has, ok.cab, ok.hd, ok.frames, ok.stk, ok.exf, ok.bs, ok.bsz, ok.noex, ok.exfs, ok.funs, ok.frf⟩
theorem Cx.Ok.unwish {X : Cx} {E : Value → Shared → Prop} (ok : (X.wish E).Ok) : X.Ok :=
  ⟨ok.mod, ok.kind, ok.glob, ok.blt, ok.above, ok.inj, ok.has, ok.cab, ok.hd, ok.frames, ok.stk, ok.exf, ok.bs, ok.bsz, ok.noex, ok.exfs, ok.funs, ok.frf⟩
section
variable {X : Cx} {pins : List (Addr × Obj)} {σ : St} {H : Hp} {s : Shared} {E : Value → Shared → Prop}
theorem Inv.wish (I : Inv X pins σ H s) (E : Value → Shared → Prop) : Inv (X.wish E) pins σ H s := ⟨I.ok.wish E, I.os, I.bare, I.base, I.loc, I.cell, I.free, I.freeC, I.pin, I.hok, I.len⟩
theorem Inv.unwish (I : Inv (X.wish E) pins σ H s) : Inv X pins σ H s := ⟨I.ok.unwish, I.os, I.bare, I.base, I.loc, I.cell, I.free, I.freeC, I.pin, I.hok, I.len⟩
theorem SP.unwish {D : Ends} {f : Flow} {s' : Shared} (h : SP (X.wish E) pins D f s') : SP X pins D f s' := by
  cases f with
  | next => obtain ⟨σ', H', I, q⟩ := h; exact ⟨σ', H', I.unwish, q⟩
  | brk => obtain ⟨σ', H', I, q⟩ := h; exact ⟨σ', H', I.unwish, q⟩
  | cont => obtain ⟨σ', H', I, q⟩ := h; exact ⟨σ', H', I.unwish, q⟩
  | ret u => obtain ⟨v, σ', H', I, r, q⟩ := h; exact ⟨v, σ', H', I.unwish, r, q⟩
theorem PSs.nox {st : List Stmt} {t : TS} (h : PSs X.nox st t) : PSs X st t := fun pins s σ H D I hw =>
  wpAny_mono (h pins s σ H D (I.wish _) hw) (fun _ _ q => q.unwish) fun _ _ z => False.elim z
end

/-! ### blocks and small statements -/
section
variable {X : Cx} {st : Stmt} {rest : List Stmt} {t u : TS} {e : Expr} {te : TE} {pos : Pos}
def tNext : TS := fun D σ H => D.nx σ H
def tSeq (t u : TS) : TS := fun D σ H => t { D with nx := u D } σ H
theorem pss_nil : PSs X [] tNext := fun _ _ σ H _ I h => wpAny_execs_nil ⟨σ, H, I, h⟩
theorem pss_cons (h1 : PS X st t) (h2 : PSs X rest u) : PSs X (st :: rest) (tSeq t u) := by
  intro pins s σ H D I h
  refine wpAny_execs_cons (thn (h1 pins s σ H { D with nx := u D } I h) fun f s1 q => ?_)
  cases f with
  | next =>
    obtain ⟨σ', H', I', q⟩ := q
    exact h2 pins s1 σ' H' D I' q
  | ret v => exact q
  | brk => exact q
  | cont => exact q
/-- in a def's body nothing is shown -/
theorem Inv.quiet {pins : List (Addr × Obj)} {σ : St} {H : Hp} {s : Shared} (I : Inv X pins σ H s) : interactive X.env = false := by simp [interactive, I.ok.kind]
/-- an expression whose value is dropped -/
def tDrop (te : TE) : TS := fun D σ H => te σ H fun _ H1 => D.nx σ H1
theorem ps_expr (he : PE X e te) (hs : swapsWith e none pos.line X.env = pure false := by rfl) : PS X (.Expr e pos) (tDrop te) := by
  intro pins s σ H D I h
  exact wpAny_Expr_any (thn (he pins s σ H _ I h) fun v s1 ⟨x, H1, I1, r1, q1⟩ => ⟨σ, H1, I1, q1⟩) I.quiet hs
def tRet (te : TE) : TS := fun D σ H => te σ H D.rt
theorem ps_ret (he : PE X e te) : PS X (.Return (some e) pos) (tRet te) := by
  intro pins s σ H D I h
  exact wpAny_Return_some (thn (he pins s σ H _ I h) fun v s1 ⟨x, H1, I1, r1, q1⟩ => ⟨x, σ, H1, I1, r1, q1⟩)
def tIfS (c : TT) (t u : TS) : TS := fun D σ H => c σ H fun b H1 => if b = true then t D σ H1 else u D σ H1
theorem ps_if {c : Expr} {a b : List Stmt} {tc : TT} (hc : PT X c tc) (ha : PSs X a t) (hb : PSs X b u) : PS X (.If c a b pos) (tIfS tc t u) := by
  intro pins s σ H D I h
  refine wpAny_If (thn (hc pins s σ H _ I h) fun d s1 ⟨H1, I1, q1⟩ => ?_)
  cases d with
  | true => exact ha pins s1 σ H1 D I1 q1
  | false => exact hb pins s1 σ H1 D I1 q1
/-- code that the proof never comes to -/
def tNever : TS := fun _ _ _ => False
theorem pss_never {sts : List Stmt} : PSs X sts tNever := fun _ _ _ _ _ _ h => h.elim
end

/-! ### targets -/
abbrev TG := V → St → Hp → (St → Hp → Prop) → Prop
def PG (X : Cx) (target : Expr) (t : TG) : Prop :=
  ∀ (pins : List (Addr × Obj)) (s : Shared) (σ : St) (H : Hp) (v : V) (u : Value) (Q : St → Hp → Prop), Inv X pins σ H s → RelV v u → t v σ H Q →
    wpAny (model X.prog X.w) X.A (assign target X.env u) (fun _ s' => ∃ σ' H', Inv X pins σ' H' s' ∧ Q σ' H') X.xe s
/-- a op= b, by values -/
abbrev TIp := V → V → Hp → VK → Prop
def PIp (X : Cx) (op : Operator) (t : TIp) : Prop :=
  ∀ (pins : List (Addr × Obj)) (s : Shared) (σ : St) (H : Hp) (x y : V) (v u : Value) (Q : VK), Inv X pins σ H s → RelV x v → RelV y u → t x y H Q →
    wpAny (model X.prog X.w) X.A (inplaceOp op v u) (EP X pins σ Q) X.xe s
section
variable {X : Cx} {pos : Pos}
def gName (i : Nat) : TG := fun v σ H Q => Q (σ.set i (some v)) H
theorem pg_name {i : Nat} {x : Str} (hN : X.N.Nodup) (hi : X.N[i]? = some x) (hx : Loc X.env.scope x) (hf : X.fn x = true ∨ X.env.scope.names.lookup x = some .local := by first | exact .inl rfl | exact .inr rfl | assumption) : PG X (.Name x pos) (gName i) := by
  intro pins s σ H v u Q I r h
  exact wpAny_assign_Name (store_ok I hN hi hx r (fun s' I' => ⟨_, H, I', h⟩) hf)
/-- target = value -/
def tAsg (te : TE) (g : TG) : TS := fun D σ H => te σ H fun x H1 => g x σ H1 D.nx
/-- name = value -/
theorem ps_set {i : Nat} {x : Str} {e : Expr} {te : TE} {pos' : Pos} (hN : X.N.Nodup) (hi : X.N[i]? = some x) (hx : Loc X.env.scope x) (he : PE X e te) (hs : swapsWith e (some (.Name x pos')) pos.line X.env = pure false := by rfl) (hf : X.fn x = true ∨ X.env.scope.names.lookup x = some .local := by first | exact .inl rfl | exact .inr rfl | assumption) :
    PS X (.Assign [.Name x pos'] e pos) (tAsg te (gName i)) := by
  intro pins s σ H D I h
  refine wpAny_Assign_Name (thn (he pins s σ H _ I h) fun v s1 ⟨y, H1, I1, r1, q1⟩ => ?_) hs
  exact store_ok I1 hN hi hx r1 (fun s2 I2 => ⟨_, H1, I2, q1⟩) hf
/-- name op= e -/
def tAug (i : Nat) (te : TE) (ti : TIp) : TS := fun D σ H => ∃ x, σ[i]? = some (some x) ∧ te σ H fun y H1 => ti x y H1 fun z H2 => D.nx (σ.set i (some z)) H2
theorem ps_aug {i : Nat} {x : Str} {e : Expr} {te : TE} {op : Operator} {ti : TIp} {pos' : Pos} (hN : X.N.Nodup) (hi : X.N[i]? = some x) (hx : Loc X.env.scope x) (he : PE X e te) (ho : PIp X op ti) (hf : X.fn x = true ∨ X.env.scope.names.lookup x = some .local := by first | exact .inl rfl | exact .inr rfl | assumption) :
    PS X (.AugAssign (.Name x pos') op e pos) (tAug i te ti) := by
  intro pins s σ H D I h
  obtain ⟨v, e1, h⟩ := h
  obtain ⟨m, hn, hl⟩ := I.loc
  have vis : Vis X.env.scope x := by rcases hx with k | k; exact .inl k; exact .inr (.inl k)
  obtain ⟨u, r, l⟩ := hl i x v hi e1 vis
  refine wpAny_AugAssign_Name ?_
  have go : wpAny (model X.prog X.w) X.A (eval e X.env) (fun w s₂ => wpAny (model X.prog X.w) X.A (inplaceOp op u w) (fun r s₃ => wpAny (model X.prog X.w) X.A (storeName X.env x r) (fun _ => SP X pins D .next) X.xe s₃) X.xe s₂) X.xe s := by
    refine thn (he pins s σ H _ I h) fun w s1 ⟨y, H1, I1, r1, q1⟩ => ?_
    refine thn (ho pins s1 σ H1 v y u w _ I1 r r1 q1) fun z s2 ⟨zv, H2, I2, r2, q2⟩ => ?_
    exact store_ok I2 hN hi hx r2 (fun s3 I3 => ⟨_, H2, I3, q2⟩) hf
  rcases l with ⟨hk, hm⟩ | ⟨hk, c, hc, hcell⟩
  · exact wpAny_loadName_local I.ok.kind hk hn hm go
  · rcases hk with hk | hk
    · exact wpAny_loadName_cell I.ok.kind hk hc hcell go
    · rcases hx with k | k
      · have : X.env.scope.names.lookup x = some .free := hk
        rw [k] at this; cases this
      · have : X.env.scope.names.lookup x = some .free := hk
        rw [k] at this; cases this
/-- ints -/
def ipI (f : Int → Int → Int) : TIp := fun x y H Q => ∃ i j, x = .int i ∧ y = .int j ∧ Q (.int (f i j)) H
theorem ip_add : PIp X .Add (ipI fun i j => i + j) := by
  intro pins s σ H x y v u Q I r1 r2 h
  obtain ⟨i, j, e1, e2, q⟩ := h
  subst e1; subst e2
  obtain ⟨t, rfl⟩ := r1
  obtain ⟨t', rfl⟩ := r2
  exact iadd_int ⟨.int _, H, I.tok _, ⟨_, rfl⟩, q⟩
end

/-! ### while -/
section
variable {X : Cx} {pos : Pos}
/-- the invariant W with its measure -/
def tWhile (c : TT) (tb : TS) : TS := fun D σ H => ∃ W : Nat → St → Hp → Prop, (∃ m, W m σ H) ∧ ∀ m σ H, W m σ H →
  c σ H fun b H1 => if b = true then ∃ N : St → Hp → Prop, (∀ σ' H', N σ' H' → ∃ m', m' < m ∧ W m' σ' H') ∧ tb { D with nx := N, ct := N, bk := D.nx } σ H1 else D.nx σ H1
theorem ps_while {c : Expr} {body : List Stmt} {tc : TT} {tb : TS} (hp : PassesOwn (model X.prog X.w) X.A X.env X.xe) (hc : PT X c tc) (hb : PSs X body tb) : PS X (.While c body [] pos) (tWhile tc tb) := by
  intro pins s σ H D I h
  obtain ⟨W, ⟨m0, w0⟩, turn⟩ := h
  refine wpAny_While (codeAny_whileLoop (fun n s' => ∃ σ' H', Inv X pins σ' H' s' ∧ W n σ' H') ?_ m0 ⟨σ, H, I, w0⟩)
  rintro n s1 ⟨σ1, H1, I1, w1⟩
  refine wpAny_passesOwn hp (thn (hc pins s1 σ1 H1 _ I1 (turn n σ1 H1 w1)) fun b s2 ⟨H2, I2, q2⟩ => ?_)
  cases b with
  | true =>
    obtain ⟨N, hN, q2⟩ := q2
    rw [if_pos rfl]
    refine wpAny_passesOwn hp (thn (hb pins s2 σ1 H2 _ I2 q2) fun f s3 q3 => ?_)
    cases f with
    | next =>
      obtain ⟨σ3, H3, I3, n3⟩ := q3
      obtain ⟨m', hm, w3⟩ := hN σ3 H3 n3
      exact ⟨m', hm, σ3, H3, I3, w3⟩
    | cont =>
      obtain ⟨σ3, H3, I3, n3⟩ := q3
      obtain ⟨m', hm, w3⟩ := hN σ3 H3 n3
      exact ⟨m', hm, σ3, H3, I3, w3⟩
    | brk => exact q3
    | ret v => exact q3
  | false =>
    rw [if_neg Bool.false_ne_true]
    exact wpAny_execs_nil ⟨σ1, H2, I2, q2⟩
end

/-! ### what a loop or a comprehension walks -/
/-- at turn i: it yields x (the heap may grow), or it stops -/
structure It where
  go : Nat → Hp → Prop
  yld : Nat → Hp → V → Hp → Prop
  stop : Nat → Hp → Prop
/-- the iterator's own objects may turn: they are not the frame's, not pinned, younger than the entry (or a comprehension's own) -/
def FpOk (X : Cx) (pins : List (Addr × Obj)) (H : Hp) (b : Addr) : Prop :=
  H b = none ∧ b ≠ X.env.locals ∧ b ∉ X.fs ∧ (b ∈ X.ex ∨ X.s₀.heap.objs.size ≤ b) ∧ (∀ x c, X.env.cells.lookup x = some c → c ≠ b) ∧ ∀ p ∈ X.pn ++ pins, p.1 ≠ b
theorem Inv.fpOk {X : Cx} {pins : List (Addr × Obj)} {σ : St} {H H' : Hp} {s : Shared} {b : Addr} (I : Inv X pins σ H s) (hb : s.heap.objs.size ≤ b) (hn : H' b = none) : FpOk X pins H' b := by
  refine ⟨hn, Nat.ne_of_gt (Nat.lt_of_lt_of_le I.lt hb), I.nofs hb, .inr (Nat.le_trans I.sz hb), fun x c e z => ?_, fun p hp z => ?_⟩
  · obtain ⟨v, q⟩ := I.cell x c e
    exact absurd (Nat.lt_of_lt_of_le q.lt (by rw [z]; exact hb)) (Nat.lt_irrefl _)
  · exact absurd (Nat.lt_of_lt_of_le (Heap.lt_size (I.pin p hp).1) (by rw [z]; exact hb)) (Nat.lt_irrefl _)
structure Turn (P : Program) (w : World) (K : PySem.W.Frag) (tg : Expr) (J : It) (fp : List Addr) (it : Addr) (tn : Nat → Heap → Prop) : Prop where
  mem : it ∈ fp
  obj : ∀ i h, tn i h → ∀ b ∈ fp, ∃ o, h.get? b = some o ∧ ∀ v, o.data ≠ .cell v
  keep : ∀ i h h', tn i h → (∀ b ∈ fp, ∀ o, h.get? b = some o → h'.get? b = some o) → tn i h'
  item : ∀ (X : Cx), X.prog = P → X.w = w → X.K = K → X.calm = true → ∀ (i : Nat) (pins : List (Addr × Obj)) (s : Shared) (σ : St) (H : Hp) (E : Value → Shared → Prop), Inv X pins σ H s → (∀ b ∈ fp, FpOk X pins H b) → tn i s.heap → J.go i H →
    wpAny (model P w) X.A (pyNext (.ref it)) (fun r s1 => ∃ u, r = some u ∧
      wpAny (model P w) X.A (letOwnedTupleGo tg (.ref it) u) (fun _ s2 => ∃ x H', Inv X pins σ H' s2 ∧ RelV x u ∧ J.yld i H x H' ∧ tn (i + 1) s2.heap ∧ ∀ b ∈ fp, H' b = none) E s1) E s
  done : ∀ (X : Cx), X.prog = P → X.w = w → X.K = K → X.calm = true → ∀ (i : Nat) (pins : List (Addr × Obj)) (s : Shared) (σ : St) (H : Hp) (E : Value → Shared → Prop), Inv X pins σ H s → (∀ b ∈ fp, FpOk X pins H b) → tn i s.heap → J.stop i H →
    wpAny (model P w) X.A (pyNext (.ref it)) (fun r s1 => r = none ∧ Inv X pins σ H s1) E s
  self : ∀ (A : Around) (i : Nat) (s : Shared) (Q : Value → Shared → Prop) (E : Value → Shared → Prop), tn i s.heap → Q (.ref it) s → wpAny (model P w) A (pyIter (.ref it)) Q E s
abbrev TI := St → Hp → (It → Hp → Prop) → Prop
/-- an iterator has come -/
def PIE (X : Cx) (pins : List (Addr × Obj)) (σ : St) (tg : Expr) (R : It → Hp → Prop) (itv : Value) (s2 : Shared) : Prop :=
  ∃ (it : Addr) (fp : List Addr) (tn : Nat → Heap → Prop) (J : It) (H' : Hp), itv = .ref it ∧ Inv X pins σ H' s2 ∧ Turn X.prog X.w X.K tg J fp it tn ∧ tn 0 s2.heap ∧ (∀ b ∈ fp, FpOk X pins H' b) ∧ R J H'
def PI (X : Cx) (tg iter : Expr) (wi : TI) : Prop :=
  ∀ (pins : List (Addr × Obj)) (s : Shared) (σ : St) (H : Hp) (R : It → Hp → Prop), Inv X pins σ H s → wi σ H R →
    wpAny (model X.prog X.w) X.A (eval iter X.env) (fun v s1 => wpAny (model X.prog X.w) X.A (pyIter v) (PIE X pins σ tg R) X.xe s1) X.xe s

/-- the step ahead of the store is nothing for an iterator that keeps no tuple -/
theorem go_of {M : Model} {A : Around} {E : Value → Shared → Prop} {s : Shared} {tg : Expr} {it : Addr} {u : Value} {o : Obj} {n : String} {vs : Array Value} {Q : Unit → Shared → Prop} (ho : s.heap.get? it = some o) (hc : o.cls = .type n) (hd : o.data = .fields vs)
    (hn : ["enumerate", "zip", "dict_itemiterator", "dict_reverseitemiterator", "odict_iterator", "itertools.zip_longest", "itertools.pairwise"].contains n = false) (hQ : Q () s) : wpAny M A (letOwnedTupleGo tg (.ref it) u) Q E s := by
  unfold letOwnedTupleGo
  cases tg <;> first
    | exact wpAny_pure hQ
    | (cases u <;> first
        | exact wpAny_pure hQ
        | (refine wpAny_bind (wpAny_load ho ?_)
           rw [hc, hd]
           show wpAny M A (if (["enumerate", "zip", "dict_itemiterator", "dict_reverseitemiterator", "odict_iterator", "itertools.zip_longest", "itertools.pairwise"].contains n && vs[0]? == some (rawInt _)) = true then _ else _) Q E s
           rw [if_neg (by intro h; rw [hn, Bool.false_and] at h; cases h)]
           exact wpAny_pure hQ))

def Itt (K : PySem.W.Frag) (a : Addr) : It :=
  ⟨fun i H => ∃ xs x, SqT K H a xs ∧ xs[i]? = some x, fun i H x H' => H' = H ∧ ∀ xs, SqT K H a xs → xs[i]? = some x, fun i H => ∃ xs, SqT K H a xs ∧ xs.length ≤ i⟩
theorem turn_tuple {P : Program} {w : World} {K : PySem.W.Frag} {tg : Expr} (a it : Addr) : Turn P w K tg (Itt K a) [it] it (fun i h => h.IsTupleIter it a i) where
  mem := by simp
  obj := fun i h st b hb => by
    have e : b = it := by simpa using hb
    subst e
    obtain ⟨o, e, c, d⟩ := st
    exact ⟨o, e, fun v z => by rw [d] at z; cases z⟩
  keep := fun i h h' st k => st.at fun o e => k it (by simp) o e
  item := by
    intro X hP hw hK hc i pins s σ H E I hf st hg
    subst hP hw hK
    obtain ⟨xs, x, hq, hx⟩ := hg
    obtain ⟨its, rv, p, hz⟩ := I.tuple hq
    obtain ⟨u, hu, ru⟩ := rv.get hx
    obtain ⟨f0, f1, f2, f3, f4, f5⟩ := hf it (by simp)
    refine wpAny_pyNext_tuple_item st (show s.heap.IsTuple a its.toArray from p) (x := u) (by simpa using hu) fun h' st' sb => ?_
    have I1 : Inv X pins σ H { s with heap := h' } := I.turned (t' := s.toks) (fun b o hb e => (sb.2 b hb).trans e) f0 f1 f3 f4 f5
    obtain ⟨o, e, c, d⟩ := id st'
    exact ⟨u, rfl, go_of (s := { s with heap := h' }) e c d (by decide) ⟨x, H, I1, ru, ⟨rfl, fun ys hy => by rw [I.tuple_inj hy hq]; exact hx⟩, st', fun b hb => (hf b hb).1⟩⟩
  done := by
    intro X hP hw hK hc i pins s σ H E I hf st hg
    subst hP hw hK
    obtain ⟨xs, hq, hx⟩ := hg
    obtain ⟨its, rv, p, hz⟩ := I.tuple hq
    obtain ⟨f0, f1, f2, f3, f4, f5⟩ := hf it (by simp)
    have hl := rv.length
    exact wpAny_pyNext_tuple_end (I.ok.hd hc) st (show s.heap.IsTuple a its.toArray from p) (by simp; omega) fun h' eb => ⟨rfl, I.turned (t' := s.toks) (fun b o hb e => eb b o hb e) f0 f1 f3 f4 f5⟩
  self := fun _ _ _ _ _ st h => wpAny_pyIter_tupleiter st h
end L2

namespace L2
open PySem PySem.Spec PyProof.Rows
section
variable {X : Cx} {tg : Expr}
def iTup (K : PySem.W.Frag) (tl : TE) : TI := fun σ H R => tl σ H fun x H1 => ∃ a, x = .ref a ∧ (∃ xs, SqT K H1 a xs) ∧ R (Itt K a) H1
theorem pi_tup {l : Expr} {tl : TE} (hl : PE X l tl) : PI X tg l (iTup X.K tl) := by
  intro pins s σ H R I h
  refine thn (hl pins s σ H _ I h) fun v s1 ⟨x, H1, I1, r1, q1⟩ => ?_
  obtain ⟨a, e, ⟨xs, hq⟩, q⟩ := q1
  subst e
  cases r1
  obtain ⟨its, rv, p, hz⟩ := I1.tuple hq
  refine wpAny_pyIter_tuple (show s1.heap.IsTuple a its.toArray from p) ?_
  refine ⟨s1.heap.objs.size, [s1.heap.objs.size], _, _, H1, rfl, I1.kept (t' := s1.toks) fun b o e => Heap.get?_push_of_some _ e, turn_tuple a _, ⟨_, Heap.get?_push_size _ rfl, rfl, rfl⟩, fun b hb => ?_, q⟩
  have e : b = s1.heap.objs.size := by simpa using hb
  subst e
  exact I1.fpOk (Nat.le_refl _) (I1.hok.fresh (Nat.le_refl _))
/-! ### for -/
/-- W: the invariant by the turn and a measure; N: what the body is to reach -/
def tFor (wi : TI) (g : TG) (tb : TS) : TS := fun D σ H => wi σ H fun J H1 => ∃ W : Nat → Nat → St → Hp → Prop, (∃ m, W 0 m σ H1) ∧ ∀ i m σ H, W i m σ H →
  (J.stop i H ∧ D.nx σ H) ∨ (J.go i H ∧ ∃ N : St → Hp → Prop, (∀ σ' H', N σ' H' → ∃ m', m' < m ∧ W (i + 1) m' σ' H') ∧ ∀ x H', J.yld i H x H' → g x σ H' fun σ2 H2 => tb { D with nx := N, ct := N, bk := D.nx } σ2 H2)
/-- the records at fp as they stand -/
def pinsAt (fp : List Addr) (h : Heap) : List (Addr × Obj) := fp.filterMap fun b => (h.get? b).map fun o => (b, o)
theorem mem_pinsAt {fp : List Addr} {h : Heap} {b : Addr} {o : Obj} (hb : b ∈ fp) (e : h.get? b = some o) : (b, o) ∈ pinsAt fp h := List.mem_filterMap.mpr ⟨b, hb, by rw [e]; rfl⟩
theorem of_pinsAt {fp : List Addr} {h : Heap} {p : Addr × Obj} (hp : p ∈ pinsAt fp h) : p.1 ∈ fp ∧ h.get? p.1 = some p.2 := by
  obtain ⟨b, hb, e⟩ := List.mem_filterMap.mp hp
  cases q : h.get? b with
  | none => rw [q] at e; cases e
  | some o =>
    rw [q] at e
    have e' : (b, o) = p := Option.some.inj e
    subst e'
    exact ⟨hb, q⟩
theorem Inv.pinned {pins : List (Addr × Obj)} {σ : St} {H : Hp} {s : Shared} {fp : List Addr} (I : Inv X pins σ H s) (hf : ∀ b ∈ fp, FpOk X pins H b) (ho : ∀ b ∈ fp, ∃ o, s.heap.get? b = some o ∧ ∀ v, o.data ≠ .cell v) : Inv X (pins ++ pinsAt fp s.heap) σ H s :=
  I.pins_of fun p hp => (List.mem_append.mp hp).elim (fun z => I.pin p (List.mem_append_right _ z)) fun z => by
    obtain ⟨hb, e⟩ := of_pinsAt z
    obtain ⟨f0, f1, f2, _⟩ := hf p.1 hb
    obtain ⟨o, e', d⟩ := ho p.1 hb
    rw [e] at e'; cases e'
    exact ⟨e, f0, f1, f2, d⟩
theorem Inv.unpinned {pins pl : List (Addr × Obj)} {σ : St} {H : Hp} {s : Shared} (I : Inv X (pins ++ pl) σ H s) : Inv X pins σ H s := I.pins_of fun p hp => I.pin p (List.mem_append_right _ (List.mem_append_left _ hp))
theorem ps_for {iter : Expr} {body : List Stmt} {wi : TI} {g : TG} {tb : TS} {pos : Pos} (hp : PassesOwn (model X.prog X.w) X.A X.env X.xe) (hc : X.calm = true) (hi : PI X tg iter wi) (hg : PG X tg g) (hb : PSs X body tb)
    (hs : ∀ x, foldedSetIterable iter X.env x = pure x := by intro _; rfl) : PS X (.For tg iter body [] pos) (tFor wi g tb) := by
  intro pins s σ H D I h
  refine wpAny_For (thn (hi pins s σ H _ I h) fun v s1 h1 => thn h1 fun itv s2 h2 => ?_) hs
  obtain ⟨it, fp, tn, J, H2, e, I2, T, st2, f2, W, ⟨m0, w0⟩, turn⟩ := h2
  subst e
  -- what stays true of the iterator's objects through the loop
  have stat : ∀ {H' : Hp}, (∀ b ∈ fp, H' b = none) → ∀ b ∈ fp, FpOk X pins H' b := fun hn b hb => ⟨hn b hb, (f2 b hb).2⟩
  refine codeAny_forLoop_any (fun n s' => ∃ i σ' H', Inv X pins σ' H' s' ∧ tn i s'.heap ∧ (∀ b ∈ fp, H' b = none) ∧ W i n σ' H') ?_ m0 ⟨0, σ, H2, I2, st2, fun b hb => (f2 b hb).1, w0⟩
  rintro n s3 ⟨i, σ3, H3, I3, st3, fr3, w3⟩
  rcases turn i n σ3 H3 w3 with ⟨stop, qn⟩ | ⟨go, N, hN, step⟩
  · refine wpAny_passesOwn hp (thn (T.done X rfl rfl rfl hc i pins s3 σ3 H3 X.xe I3 (stat fr3) st3 stop) fun r s4 ⟨hr, I4⟩ => ?_)
    subst hr
    exact wpAny_execs_nil ⟨σ3, H3, I4, qn⟩
  · refine wpAny_passesOwn hp (thn (T.item X rfl rfl rfl hc i pins s3 σ3 H3 X.xe I3 (stat fr3) st3 go) fun r s4 ⟨u, hr, h4⟩ => ?_)
    subst hr
    refine wpAny_passesOwn hp (thn h4 fun _ s5 ⟨x, H5, I5, r5, y5, st5, fr5⟩ => ?_)
    have I5' := I5.pinned (stat fr5) (T.obj _ _ st5)
    refine wpAny_passesOwn hp (thn (hg _ s5 σ3 H5 x u _ I5' r5 (step x H5 y5)) fun _ s6 ⟨σ6, H6, I6, q6⟩ => ?_)
    refine wpAny_passesOwn hp (thn (hb _ s6 σ6 H6 _ I6 q6) fun f s7 q7 => ?_)
    have again : ∀ {σ7 : St} {H7 : Hp}, Inv X (pins ++ pinsAt fp s5.heap) σ7 H7 s7 → N σ7 H7 → ∃ m, m < n ∧ ∃ i σ' H', Inv X pins σ' H' s7 ∧ tn i s7.heap ∧ (∀ b ∈ fp, H' b = none) ∧ W i m σ' H' := fun {σ7 H7} I7 n7 => by
      obtain ⟨m', hm, w7⟩ := hN σ7 H7 n7
      refine ⟨m', hm, i + 1, σ7, H7, I7.unpinned, T.keep _ _ _ st5 fun b hb o e => (I7.pin (b, o) (List.mem_append_right _ (List.mem_append_right _ (mem_pinsAt hb e)))).1, fun b hb => ?_, w7⟩
      obtain ⟨o, e, d⟩ := T.obj _ _ st5 b hb
      exact (I7.pin (b, o) (List.mem_append_right _ (List.mem_append_right _ (mem_pinsAt hb e)))).2.1
    cases f with
    | next => obtain ⟨σ7, H7, I7, n7⟩ := q7; exact again I7 n7
    | cont => obtain ⟨σ7, H7, I7, n7⟩ := q7; exact again I7 n7
    | brk => obtain ⟨σ7, H7, I7, q7⟩ := q7; exact ⟨σ7, H7, I7.unpinned, q7⟩
    | ret v => obtain ⟨x7, σ7, H7, I7, r7, q7⟩ := q7; exact ⟨x7, σ7, H7, I7.unpinned, r7, q7⟩
end

/-! ### the forms one uses -/
end L2

namespace L2
open PySem PySem.Spec PyProof.Rows

abbrev R2 := V → V → Hp → VK → Prop
/-- a two-place operation on values: f is binaryOp op, inplaceOp op or compareOp op -/
def OpR (X : Cx) (f : Value → Value → Sem Value) (r : R2) : Prop :=
  ∀ (pins : List (Addr × Obj)) (s : Shared) (σ : St) (H : Hp) (x y : V) (v u : Value) (Q : VK), Inv X pins σ H s → RelV x v → RelV y u → r x y H Q →
    wpAny (model X.prog X.w) X.A (f v u) (EP X pins σ Q) X.xe s
/-- a one-place operation -/
def UnR (X : Cx) (f : Value → Sem Value) (r : V → Hp → VK → Prop) : Prop :=
  ∀ (pins : List (Addr × Obj)) (s : Shared) (σ : St) (H : Hp) (x : V) (v : Value) (Q : VK), Inv X pins σ H s → RelV x v → r x H Q →
    wpAny (model X.prog X.w) X.A (f v) (EP X pins σ Q) X.xe s
/-- a call of a value that is known (a builtin, a type) with values -/
def CallR (X : Cx) (f : Value) (r : List V → Hp → VK → Prop) : Prop :=
  ∀ (pins : List (Addr × Obj)) (s : Shared) (σ : St) (H : Hp) (xs : List V) (us : List Value) (Q : VK), Inv X pins σ H s → Vals xs us → r xs H Q →
    wpAny (model X.prog X.w) X.A (call f us) (EP X pins σ Q) X.xe s
def tOp (r : R2) (ta tb : TE) : TE := fun σ H Q => ta σ H fun x H1 => tb σ H1 fun y H2 => r x y H2 Q
def tUn (r : V → Hp → VK → Prop) (ta : TE) : TE := fun σ H Q => ta σ H fun x H1 => r x H1 Q
/-- ints in, under C, and a value out -/
def rI (C : Int → Int → Prop) (g : Int → Int → V) : R2 := fun x y H Q => ∃ i j, x = .int i ∧ y = .int j ∧ C i j ∧ Q (g i j) H
def rI0 (g : Int → Int → V) : R2 := fun x y H Q => ∃ i j, x = .int i ∧ y = .int j ∧ Q (g i j) H
def rU (g : Int → V) : V → Hp → VK → Prop := fun x H Q => ∃ i, x = .int i ∧ Q (g i) H

section
variable {X : Cx} {a b c : Expr} {ta tb tc : TE} {pos : Pos}

theorem binT (ha : PE X a ta) (hb : PE X b tb) {pins : List (Addr × Obj)} {s : Shared} {σ : St} {H : Hp} {R : V → V → Hp → Prop} (I : Inv X pins σ H s)
    (h : ta σ H fun x H1 => tb σ H1 fun y H2 => R x y H2) {Q : Value → Shared → Prop} {f : Value → Value → Sem Value}
    (hf : ∀ v u s2 x y H2, Inv X pins σ H2 s2 → RelV x v → RelV y u → R x y H2 → wpAny (model X.prog X.w) X.A (f v u) Q X.xe s2) :
    wpAny (model X.prog X.w) X.A (eval a X.env) (fun v s₁ => wpAny (model X.prog X.w) X.A (eval b X.env) (fun u s₂ => wpAny (model X.prog X.w) X.A (f v u) Q X.xe s₂) X.xe s₁) X.xe s := by
  refine thn (ha pins s σ H _ I h) fun v s1 ⟨x, H1, I1, r1, q1⟩ => ?_
  refine thn (hb pins s1 σ H1 _ I1 q1) fun u s2 ⟨y, H2, I2, r2, q2⟩ => ?_
  exact hf v u s2 x y H2 I2 r1 r2 q2

theorem pe_op {op : Operator} {r : R2} (ho : OpR X (binaryOp op) r) (ha : PE X a ta) (hb : PE X b tb) : PE X (.BinOp a op b pos) (tOp r ta tb) := by
  intro pins s σ H Q I h
  exact wpAny_BinOp (binT ha hb I h fun v u s2 x y H2 I2 rx ry q => ho pins s2 σ H2 x y v u Q I2 rx ry q)
theorem pe_un {op : UnaryOp} {r : V → Hp → VK → Prop} (ho : UnR X (unaryOp op) r) (ha : PE X a ta) : PE X (.UnaryOp op a pos) (tUn r ta) := by
  intro pins s σ H Q I h
  exact UnaryOp_ (thn (ha pins s σ H _ I h) fun v s1 ⟨x, H1, I1, r1, q1⟩ => ho pins s1 σ H1 x v Q I1 r1 q1)
/-! ### ints -/
theorem opI {f : Value → Value → Sem Value} {C : Int → Int → Prop} {g : Int → Int → Int}
    (rule : ∀ (i j : Int) (t u : Tok) (s : Shared) (Q : Value → Shared → Prop) (E : Value → Shared → Prop), C i j → Q (.int (g i j) s.toks) { s with toks := s.toks + 1 } → wpAny (model X.prog X.w) X.A (f (.int i t) (.int j u)) Q E s) :
    OpR X f (rI C fun i j => .int (g i j)) := by
  intro pins s σ H x y v u Q I rx ry h
  obtain ⟨i, j, rfl, rfl, hc, q⟩ := h
  obtain ⟨t, rfl⟩ := rx
  obtain ⟨t', rfl⟩ := ry
  exact rule i j t t' s _ _ hc ⟨.int (g i j), H, I.tok _, ⟨_, rfl⟩, q⟩
theorem opI0 {f : Value → Value → Sem Value} {g : Int → Int → Int}
    (rule : ∀ (i j : Int) (t u : Tok) (s : Shared) (Q : Value → Shared → Prop) (E : Value → Shared → Prop), Q (.int (g i j) s.toks) { s with toks := s.toks + 1 } → wpAny (model X.prog X.w) X.A (f (.int i t) (.int j u)) Q E s) :
    OpR X f (rI0 fun i j => .int (g i j)) := by
  intro pins s σ H x y v u Q I rx ry h
  obtain ⟨i, j, rfl, rfl, q⟩ := h
  obtain ⟨t, rfl⟩ := rx
  obtain ⟨t', rfl⟩ := ry
  exact rule i j t t' s _ _ ⟨.int (g i j), H, I.tok _, ⟨_, rfl⟩, q⟩
theorem opB0 {f : Value → Value → Sem Value} {g : Int → Int → Bool}
    (rule : ∀ (i j : Int) (t u : Tok) (s : Shared) (Q : Value → Shared → Prop) (E : Value → Shared → Prop), Q (.bool (g i j)) s → wpAny (model X.prog X.w) X.A (f (.int i t) (.int j u)) Q E s) :
    OpR X f (rI0 fun i j => .bl (g i j)) := by
  intro pins s σ H x y v u Q I rx ry h
  obtain ⟨i, j, rfl, rfl, q⟩ := h
  obtain ⟨t, rfl⟩ := rx
  obtain ⟨t', rfl⟩ := ry
  exact rule i j t t' s _ _ ⟨.bl (g i j), H, I, rfl, q⟩

theorem op_add : OpR X (binaryOp .Add) (rI0 fun i j => .int (i + j)) := opI0 fun _ _ _ _ _ _ _ q => add_int q
theorem op_sub : OpR X (binaryOp .Sub) (rI0 fun i j => .int (i - j)) := opI0 fun _ _ _ _ _ _ _ q => sub_int q
/-- % by a positive divisor of any size -/
theorem op_mod : OpR X (binaryOp .Mod) (rI (fun _ j => 0 < j) fun i j => .int (i % j)) := opI fun i j _ _ _ _ _ hc q => by
  have h1 : (0 : Int) < j := hc
  exact mod_int' (by omega) (by rw [Int.fmod_eq_emod_of_nonneg i (by omega)]; exact q)
theorem op_or : OpR X (binaryOp .BitOr) (rI0 fun i j => .int (Builtin.bitOr i j)) := opI0 fun _ _ _ _ _ _ _ q => or_int q
theorem unI {f : Value → Sem Value} {g : Int → Int}
    (rule : ∀ (i : Int) (t : Tok) (s : Shared) (Q : Value → Shared → Prop) (E : Value → Shared → Prop), Q (.int (g i) s.toks) { s with toks := s.toks + 1 } → wpAny (model X.prog X.w) X.A (f (.int i t)) Q E s) :
    UnR X f (rU fun i => .int (g i)) := by
  intro pins s σ H x v Q I rx h
  obtain ⟨i, rfl, q⟩ := h
  obtain ⟨t, rfl⟩ := rx
  exact rule i t s _ _ ⟨.int (g i), H, I.tok _, ⟨_, rfl⟩, q⟩
theorem un_neg : UnR X (unaryOp .USub) (rU fun i => .int (-i)) := unI fun _ _ _ _ _ q => neg_int q
/-! ### bools among ints: n += (a < b) -/
end

/-! ### comparisons -/
/-- the scalars that == tells apart as data does -/
def scal : V → V → Bool
  | .non, .non => true | .non, .int _ => true | .int _, .non => true | .non, .bl _ => true | .bl _, .non => true | .non, .str _ => true | .str _, .non => true
  | .int _, .int _ => true | .bl _, .bl _ => true | .str _, .str _ => true | .byt _, .byt _ => true
  | .int _, .str _ => true | .str _, .int _ => true | .bl _, .str _ => true | .str _, .bl _ => true
  | _, _ => false
def rEq : R2 := fun x y H Q => scal x y = true ∧ Q (.bl (decide (x = y))) H
def rNe : R2 := fun x y H Q => scal x y = true ∧ Q (.bl (!decide (x = y))) H

theorem dec_int {i j : Int} : decide (V.int i = V.int j) = (i == j) := by
  rw [Bool.eq_iff_iff]
  simp
theorem dec_bl {i j : Bool} : decide (V.bl i = V.bl j) = (i == j) := by
  rw [Bool.eq_iff_iff]
  simp
theorem dec_str {i j : Str} : decide (V.str i = V.str j) = (i == j) := by
  rw [Bool.eq_iff_iff]
  simp
theorem dec_byt {i j : Array UInt8} : decide (V.byt i = V.byt j) = (i.toList == j.toList) := by
  rw [Bool.eq_iff_iff]
  cases i
  cases j
  simp

section
variable {X : Cx} {a b c : Expr} {ta tb tc : TE} {pos : Pos}
theorem fin_bl {pins : List (Addr × Obj)} {σ : St} {H : Hp} {s : Shared} {Q : VK} {k k' : Bool} (I : Inv X pins σ H s) (q : Q (.bl k) H) (e : k = k') : EP X pins σ Q (.bool k') s := by
  subst e
  exact ⟨.bl k, H, I, rfl, q⟩
theorem op_eq : OpR X (compareOp .Eq) rEq := by
  intro pins s σ H x y v u Q I rx ry h
  obtain ⟨hs, q⟩ := h
  cases x with
  | non =>
    cases rx
    cases y with
    | non => cases ry; exact PySem.EqNone.eq_none_none (fin_bl I q (by simp))
    | bl j => cases ry; exact PySem.EqNone.eq_none_bool (fin_bl I q (by simp))
    | int j => obtain ⟨t', rfl⟩ := ry; exact PySem.EqNone.eq_none_int (fin_bl I q (by simp))
    | str j => obtain ⟨t', rfl⟩ := ry; exact PySem.EqNone.eq_none_str (fin_bl I q (by simp))
    | _ => exact absurd (show false = true from hs) Bool.false_ne_true
  | bl i =>
    cases rx
    cases y with
    | non => cases ry; exact PySem.EqNone.eq_bool_none (fin_bl I q (by simp))
    | bl j => cases ry; exact eq_bool (fin_bl I q dec_bl)
    | str j => obtain ⟨t', rfl⟩ := ry; exact PySem.EqMixed.eq_bool_str (fin_bl I q (by simp))
    | _ => exact absurd (show false = true from hs) Bool.false_ne_true
  | int i =>
    obtain ⟨t, rfl⟩ := rx
    cases y with
    | non => cases ry; exact PySem.EqNone.eq_int_none (fin_bl I q (by simp))
    | int j => obtain ⟨t', rfl⟩ := ry; exact eq_int (fin_bl I q dec_int)
    | str j => obtain ⟨t', rfl⟩ := ry; exact PySem.EqMixed.eq_int_str (fin_bl I q (by simp))
    | _ => exact absurd (show false = true from hs) Bool.false_ne_true
  | str i =>
    obtain ⟨t, rfl⟩ := rx
    cases y with
    | non => cases ry; exact PySem.EqNone.eq_str_none (fin_bl I q (by simp))
    | bl j => cases ry; exact PySem.EqMixed.eq_str_bool (fin_bl I q (by simp))
    | int j => obtain ⟨t', rfl⟩ := ry; exact PySem.EqMixed.eq_str_int (fin_bl I q (by simp))
    | str j => obtain ⟨t', rfl⟩ := ry; exact eq_str (fin_bl I q dec_str)
    | _ => exact absurd (show false = true from hs) Bool.false_ne_true
  | byt i =>
    obtain ⟨t, rfl⟩ := rx
    cases y with
    | byt j => obtain ⟨t', rfl⟩ := ry; exact PySem.W.eq_bytes (fin_bl I q dec_byt)
    | _ => exact absurd (show false = true from hs) Bool.false_ne_true
  | _ => cases y <;> exact absurd (show false = true from hs) Bool.false_ne_true
theorem op_ne : OpR X (compareOp .NotEq) rNe := by
  intro pins s σ H x y v u Q I rx ry h
  obtain ⟨hs, q⟩ := h
  cases x with
  | non =>
    cases rx
    cases y with
    | non => cases ry; exact PySem.EqNone.ne_none_none (fin_bl I q (by simp))
    | bl j => cases ry; exact PySem.EqNone.ne_none_bool (fin_bl I q (by simp))
    | int j => obtain ⟨t', rfl⟩ := ry; exact PySem.EqNone.ne_none_int (fin_bl I q (by simp))
    | str j => obtain ⟨t', rfl⟩ := ry; exact PySem.EqNone.ne_none_str (fin_bl I q (by simp))
    | _ => exact absurd (show false = true from hs) Bool.false_ne_true
  | bl i =>
    cases rx
    cases y with
    | non => cases ry; exact PySem.EqNone.ne_bool_none (fin_bl I q (by simp))
    | bl j => cases ry; exact ne_bool (fin_bl I q (congrArg not dec_bl))
    | str j => obtain ⟨t', rfl⟩ := ry; exact PySem.EqMixed.ne_bool_str (fin_bl I q (by simp))
    | _ => exact absurd (show false = true from hs) Bool.false_ne_true
  | int i =>
    obtain ⟨t, rfl⟩ := rx
    cases y with
    | non => cases ry; exact PySem.EqNone.ne_int_none (fin_bl I q (by simp))
    | int j => obtain ⟨t', rfl⟩ := ry; exact ne_int (fin_bl I q (congrArg not dec_int))
    | str j => obtain ⟨t', rfl⟩ := ry; exact PySem.EqMixed.ne_int_str (fin_bl I q (by simp))
    | _ => exact absurd (show false = true from hs) Bool.false_ne_true
  | str i =>
    obtain ⟨t, rfl⟩ := rx
    cases y with
    | non => cases ry; exact PySem.EqNone.ne_str_none (fin_bl I q (by simp))
    | bl j => cases ry; exact PySem.EqMixed.ne_str_bool (fin_bl I q (by simp))
    | int j => obtain ⟨t', rfl⟩ := ry; exact PySem.EqMixed.ne_str_int (fin_bl I q (by simp))
    | str j => obtain ⟨t', rfl⟩ := ry; exact ne_str (fin_bl I q (congrArg not dec_str))
    | _ => exact absurd (show false = true from hs) Bool.false_ne_true
  | byt i =>
    obtain ⟨t, rfl⟩ := rx
    cases y with
    | byt j => obtain ⟨t', rfl⟩ := ry; exact PySem.W.ne_bytes (fin_bl I q (congrArg not dec_byt))
    | _ => exact absurd (show false = true from hs) Bool.false_ne_true
  | _ => cases y <;> exact absurd (show false = true from hs) Bool.false_ne_true

theorem op_lt : OpR X (compareOp .Lt) (rI0 fun i j => .bl (decide (i < j))) := opB0 fun _ _ _ _ _ _ _ q => lt_int q
theorem op_le : OpR X (compareOp .LtE) (rI0 fun i j => .bl (decide (i ≤ j))) := opB0 fun _ _ _ _ _ _ _ q => le_int q
theorem op_gt : OpR X (compareOp .Gt) (rI0 fun i j => .bl (decide (j < i))) := opB0 fun _ _ _ _ _ _ _ q => gt_int q
theorem op_ge : OpR X (compareOp .GtE) (rI0 fun i j => .bl (decide (j ≤ i))) := opB0 fun _ _ _ _ _ _ _ q => ge_int q
theorem nomark (b : Expr) {op : CmpOp} (h : op ≠ .In := by decide) (h2 : op ≠ .NotIn := by decide) : behindInMarks op b = false := by
  have e1 : (op == CmpOp.In) = false := by cases op <;> first | rfl | exact absurd rfl h
  have e2 : (op == CmpOp.NotIn) = false := by cases op <;> first | rfl | exact absurd rfl h2
  cases b <;> simp [behindInMarks, e1, e2]
/-- a comparison as a value; hm: nomark b, or (for in, not in) by with_unfolding_all rfl -/
theorem pe_cmpR {op : CmpOp} {r : R2} (ho : OpR X (compareOp op) r) (ha : PE X a ta) (hb : PE X b tb) (hm : behindInMarks op b = false) : PE X (.Compare a [op] [b] pos) (tOp r ta tb) := by
  intro pins s σ H Q I h
  exact wpAny_Compare1 (binT ha hb I h fun v u s2 x y H2 I2 rx ry q => ho pins s2 σ H2 x y v u Q I2 rx ry q) hm
/-- a reading of a value as a test -/
def tTest (t : TE) : TT := fun σ H Q => t σ H fun x H' => ∃ k, x = .bl k ∧ Q k H'
theorem pt_cmpR {op : CmpOp} {r : R2} (ho : OpR X (compareOp op) r) (ha : PE X a ta) (hb : PE X b tb) (hm : behindInMarks op b = false) : PT X (.Compare a [op] [b] pos) (tTest (tOp r ta tb)) := by
  intro pins s σ H Q I h
  refine wpAny_isTrue_Compare1 (thn (ha pins s σ H _ I h) fun v s1 ⟨x, H1, I1, r1, q1⟩ => thn (hb pins s1 σ H1 _ I1 q1) fun u s2 ⟨y, H2, I2, r2, q2⟩ =>
    thn (ho pins s2 σ H2 x y v u _ I2 r1 r2 q2) fun c s3 ⟨z, H3, I3, r3, k, e, q3⟩ => ?_) hm
  subst e
  cases r3
  exact wpAny_truthy_bool ⟨H3, I3, q3⟩
/-! ### truth -/
theorem line63 : (sizeLine : Nat) < 2 ^ 63 := by rw [sizeLine_eq]; decide
/-! ### strs and bytes -/
/-! ### scalar builtins, by CallR -/
theorem vals1 {x : V} {us : List Value} (r : Vals [x] us) : ∃ u, us = [u] ∧ RelV x u := by
  cases r with
  | cons r1 r2 => cases r2; exact ⟨_, rfl, r1⟩
theorem vals2 {x y : V} {us : List Value} (r : Vals [x, y] us) : ∃ u w', us = [u, w'] ∧ RelV x u ∧ RelV y w' := by
  cases r with
  | cons r1 r2 =>
    cases r2 with
    | cons r3 r4 => cases r4; exact ⟨_, _, rfl, r1, r3⟩
/-- len of a str, a bytes, a list, a tuple -/
def LenV (K : PySem.W.Frag) (x : V) (H : Hp) (n : Nat) : Prop :=
  match x with
  | .str y => y.length ≤ sizeLine ∧ n = y.length
  | .byt y => y.size ≤ sizeLine ∧ n = y.size
  | .ref p => (∃ xs, SqL K H p xs ∧ n = xs.length) ∨ ∃ xs, SqT K H p xs ∧ n = xs.length
  | _ => False
theorem call_len : CallR X (.builtin "len") (fun xs H Q => ∃ x n, xs = [x] ∧ LenV X.K x H n ∧ Q (.int n) H) := by
  intro pins s σ H xs us Q I r h
  obtain ⟨x, n, rfl, e, q⟩ := h
  obtain ⟨u, rfl, rx⟩ := vals1 r
  have hl := line63
  have hs : sizeLine = 16777216 := sizeLine_eq
  cases x with
  | str y =>
    obtain ⟨t, rfl⟩ := rx
    obtain ⟨hy, e'⟩ : y.length ≤ sizeLine ∧ n = y.length := e
    subst e'
    exact len_str (by omega) ⟨.int _, H, I.tok _, ⟨_, rfl⟩, q⟩
  | byt y =>
    obtain ⟨t, rfl⟩ := rx
    obtain ⟨hy, e'⟩ : y.size ≤ sizeLine ∧ n = y.size := e
    subst e'
    exact PySem.W.len_bytes (by omega) ⟨.int _, H, I.tok _, ⟨_, rfl⟩, q⟩
  | ref p =>
    cases rx
    have e' : (∃ xs, SqL X.K H p xs ∧ n = xs.length) ∨ ∃ xs, SqT X.K H p xs ∧ n = xs.length := e
    rcases e' with ⟨xs, hx, e'⟩ | ⟨xs, hx, e'⟩
    · subst e'
      obtain ⟨its, r', pl, hz⟩ := I.list hx
      have hlen := r'.length
      exact Calls.call_len_list pl.isList (by simp only [List.size_toArray]; omega) ⟨.int xs.length, H, I.tok _, ⟨_, by simp only [List.size_toArray]; rw [hlen]⟩, q⟩
    · subst e'
      obtain ⟨its, r', pl, hz⟩ := I.tuple hx
      have hlen := r'.length
      exact len_tuple pl (by simp only [List.size_toArray]; omega) ⟨.int xs.length, H, I.tok _, ⟨_, by simp only [List.size_toArray]; rw [hlen]⟩, q⟩
  | _ => exact (show False from e).elim
end
end L2

namespace L2
open PySem PySem.Spec PyProof.Rows

/-! ### an instance, its attributes a map -/
structure ObjM (h : Heap) (x dx C : Addr) (mA : Str → Option Value) : Prop where
  obj : h.get? x = some (PySem.W.instObj C dx)
  ns : h.Ns1 dx mA
  ne : dx ≠ x

theorem lookIn_ns {h : Heap} {dx : Addr} {mA : Str → Option Value} (n : h.Ns1 dx mA) : ∃ od, h.get? dx = some od ∧ ∀ name, PySem.W.lookIn name od = some (mA name) := by
  obtain ⟨o, es, ep, ho, hd, hk, _, hm⟩ := n
  refine ⟨o, ho, fun name => ?_⟩
  have e := hm name
  unfold nsFind findBy at e
  rw [← Array.find?_toList] at e
  unfold PySem.W.lookIn
  rw [hd]
  dsimp only
  split
  · rename_i y q
    rw [q] at e
    exact congrArg some e
  · rename_i q
    rw [q] at e
    have a : es.toList.any (·.refKey) = false := by
      rw [List.any_eq_false]
      intro y hy
      obtain ⟨z, t, hkey⟩ := hk y (Array.mem_toList_iff.mp hy)
      simp [DictEntry.refKey, hkey]
    have a' : ¬ es.toList.any (·.refKey) = true := by rw [a]; exact Bool.false_ne_true
    rw [if_neg a']
    exact congrArg some e

theorem ObjM.look {h : Heap} {x dx C : Addr} {mA : Str → Option Value} (I : ObjM h x dx C mA) : ∃ od, PySem.W.InstAt h x (PySem.W.instObj C dx) C (some od) ∧ ∀ name, PySem.W.lookIn name od = some (mA name) :=
  let ⟨od, ho, hl⟩ := lookIn_ns I.ns
  ⟨od, ⟨I.obj, rfl, rfl, ho⟩, hl⟩

section
variable {prog : Program} {w : World} {A : Around} {E : Value → Shared → Prop} {s : Shared} {K : PySem.W.Frag} {x dx C f : Addr} {mA : Str → Option Value} {name : Str} {v : Value}

end

/-! ### the attributes as a list of pairs -/
section
variable {P : Program} {w : World} {H H' : Hp} {h h' : Heap} {a C dx : Addr} {fs fs' : List (Str × V)}
theorem ins_get (hok : HOk P w H h) (e : H a = some (.ins C dx fs)) : ∃ mA, ObjM h a dx C mA ∧ (∀ f, RelO (fs.lookup f) (mA f)) ∧ PySem.Within mA (fs.map (·.1)) ∧ fs.length ≤ 1000 ∧ H dx = some (.own a) := by
  obtain ⟨d, z, ne, ob, mA, n, r, q⟩ := (show ObjOk P w H h a (.ins C dx fs) from hok a _ e)
  exact ⟨mA, ⟨ob, n, ne⟩, r, q, z, d⟩
end

/-! ### what of the text a class must have -/
structure Cls (K : PySem.W.Frag) (C : Addr) : Prop where
  pg : PySem.W.plainGet K C Str.empty = true
  hd : PySem.W.hasDictIn K C = true
  po : PySem.W.plainOver K C = true
  sa : PySem.W.findIn K (.ref C) "__setattr__" = some (some (.builtin "object.__setattr__"))
theorem Cls.get {K : PySem.W.Frag} {C : Addr} (c : Cls K C) (f : Str) : PySem.W.plainGet K C f = true := c.pg
section
variable {X : Cx} {pins : List (Addr × Obj)} {σ : St} {H : Hp} {s : Shared} {a C dx : Addr} {fs : List (Str × V)} {f : Str} {v : V} {A : Around} {E : Value → Shared → Prop}

end

/-! ### readings and rules -/
section
variable {X : Cx} {o e value : Expr} {f : Str} {pos pos' tpos : Pos} {ta tv : TE}
end

/-! ### isinstance -/
section
variable {X : Cx} {pins : List (Addr × Obj)} {σ : St} {H : Hp} {s : Shared} {A : Around} {E : Value → Shared → Prop} {Q : Value → Shared → Prop} {c : Value} {b : Bool}
/-- the type of a value, as the fragment's deciders take it; for an instance its class -/
inductive TyOf (K : PySem.W.Frag) (H : Hp) : V → Value → Prop where
  | non : TyOf K H .non (.type "NoneType")
  | bl (x : Bool) : TyOf K H (.bl x) (.type "bool")
  | int (i : Int) : TyOf K H (.int i) (.type "int")
  | str (x : Str) : TyOf K H (.str x) (.type "str")
  | flt (x : UInt64) : TyOf K H (.flt x) (.type "float")
  | lst {a : Addr} {xs : List V} (e : H a = some (.lst xs)) : TyOf K H (.ref a) (.type "list")
  | frz {a : Addr} {o : Obj} {xs : List V} (e : H a = some (.frz o (.lst xs))) : TyOf K H (.ref a) (.type "list")
  | tup {a : Addr} {xs : List V} (e : H a = some (.tup xs)) : TyOf K H (.ref a) (.type "tuple")
  | dK {a : Addr} {kvs : List (Key × V)} (e : H a = some (.dK kvs)) : TyOf K H (.ref a) (.type "dict")
  | dT {a : Addr} {kvs : List (List Key × V)} (e : H a = some (.dT kvs)) : TyOf K H (.ref a) (.type "dict")
  | ins {a C dx : Addr} {fs : List (Str × V)} (e : H a = some (.ins C dx fs)) (cl : Cls K C) (ha : PySem.W.findIn K (.ref C) "__class__" = some (some (.builtin "object.__class__")))
      (hn : PySem.W.specialIn K (.builtin "object.__class__") "__get__" = some (some (.builtin "getset_descriptor.__get__"))) (htk : PySem.W.takesIn K (.builtin "object.__class__") = some true)
      (hm : PySem.W.mroIn K C (.type "object") = some true) : TyOf K H (.ref a) (.ref C)
/-- isinstance(x, c) for one class c, a built-in or an own one: kitOne's answer -/
theorem isinst_ok {x : V} {u t : Value} (I : Inv X pins σ H s) (rx : RelV x u) (ty : TyOf X.K H x t) (e : PySem.W.kitOne X.K t c = some b) (h : ∀ tk, Q (.bool b) { s with toks := tk }) :
    wpAny (model X.prog X.w) A (call (.builtin "isinstance") [u, c]) Q E s := by
  cases ty with
  | non => cases (show u = Value.none from rx); exact PySem.W.kia_one PySem.W.kitx_none I.kIn True.intro e (fun z => nomatch z) h
  | bl y => cases (show u = Value.bool y from rx); exact PySem.W.kia_one PySem.W.kitx_bool I.kIn True.intro e (fun z => nomatch z) h
  | int i => obtain ⟨t, q⟩ := (show ∃ t, u = Value.int i t from rx); cases q; exact PySem.W.kia_one PySem.W.kitx_int I.kIn True.intro e (fun z => nomatch z) h
  | str y => obtain ⟨t, q⟩ := (show ∃ t, u = Value.str y t from rx); cases q; exact PySem.W.kia_one PySem.W.kitx_str I.kIn True.intro e (fun z => nomatch z) h
  | flt y => obtain ⟨t, q⟩ := (show ∃ t, u = Value.float y t from rx); cases q; exact PySem.W.kia_one PySem.W.kitx_float I.kIn True.intro e (fun z => nomatch z) h
  | @lst a xs ea =>
    cases (show u = Value.ref a from rx)
    obtain ⟨_, _, n, _, h1⟩ := (show ObjOk X.prog X.w H s.heap a (.lst xs) from I.hok a _ ea)
    exact PySem.W.kia_one PySem.W.kitx_list I.kIn ⟨_, h1, rfl⟩ e (fun z => nomatch z) h
  | @frz a ob xs ea =>
    cases (show u = Value.ref a from rx)
    obtain ⟨_, _, _, n, _, h1⟩ := (show ObjOk X.prog X.w H s.heap a (.frz ob (.lst xs)) from I.hok a _ ea)
    exact PySem.W.kia_one PySem.W.kitx_list I.kIn ⟨_, h1, rfl⟩ e (fun z => nomatch z) h
  | @tup a xs ea =>
    cases (show u = Value.ref a from rx)
    obtain ⟨_, _, _, p⟩ := (show ObjOk X.prog X.w H s.heap a (.tup xs) from I.hok a _ ea)
    obtain ⟨o, h1, h2, _⟩ := p
    exact PySem.W.kia_one PySem.W.kitx_tuple I.kIn ⟨o, h1, h2⟩ e (fun z => nomatch z) h
  | @dK a kvs ea =>
    cases (show u = Value.ref a from rx)
    obtain ⟨_, _, vs, _, p⟩ := (show ObjOk X.prog X.w H s.heap a (.dK kvs) from I.hok a _ ea)
    obtain ⟨o, es, ep, h1, h2, _⟩ := p
    exact PySem.W.kia_one PySem.W.kitx_dict I.kIn ⟨o, h1, h2.1⟩ e (fun z => nomatch z) h
  | @dT a kvs ea =>
    cases (show u = Value.ref a from rx)
    obtain ⟨_, _, xs, _, o, es, ep, h1, h2, _⟩ := (show ObjOk X.prog X.w H s.heap a (.dT kvs) from I.hok a _ ea)
    exact PySem.W.kia_one PySem.W.kitx_dict I.kIn ⟨o, h1, h2.1⟩ e (fun z => nomatch z) h
  | @ins a C dx fs ea cl ha hn htk hm =>
    cases (show u = Value.ref a from rx)
    obtain ⟨mA, O, _⟩ := ins_get I.hok ea
    obtain ⟨od, J, _⟩ := O.look
    exact PySem.W.kia_one (PySem.W.kitx_own (cl.get _) cl.hd ha hn htk hm) I.kIn J e (fun z => nomatch z) h
end
end L2

namespace L2
open PySem PySem.Spec PyProof.Rows

/-! ### room -/
structure Room (k : Nat) (A : Around) : Prop where
  hd : A.handled = none
  dp : A.depth + 3 * k + 5 < recursionLimit
  un : A.units + 16 * k + 200 < cLine
theorem Room.mono {j k : Nat} {A : Around} (r : Room k A) (h : j ≤ k) : Room j A := ⟨r.hd, by have := r.dp; omega, by have := r.un; omega⟩
theorem Room.deeper {k : Nat} {A : Around} (r : Room (k + 1) A) (env : Env) : Room k (A.deeper env) :=
  ⟨r.hd, by have := r.dp; show A.depth + 1 + 3 * k + 5 < _; omega, by have := r.un; show A.units + 3 + 16 * k + 200 < _; omega⟩
theorem Room.depth {k : Nat} {A : Around} (r : Room k A) : A.depth < recursionLimit := by have := r.dp; omega
theorem Room.units {k : Nat} {A : Around} (r : Room k A) : A.units + 64 < cLine := by have := r.un; omega
/-! ### argument lists and displays -/
def tNil : TA := fun _ H Q => Q [] H
def tCons (ta : TE) (tr : TA) : TA := fun σ H Q => ta σ H fun x H1 => tr σ H1 fun xs H2 => Q (x :: xs) H2
section
variable {X : Cx} {e : Expr} {es : List Expr} {te : TE} {t : TA} {pos : Pos}
theorem pa_nil : PA X [] tNil := fun _ _ _ _ H Q I h => Calls.spliced_nil ⟨[], H, I, .nil, h⟩
theorem pa_cons (ha : PE X e te) (hr : PA X es t) (hs : starEach (e :: es) X.env = (false, eval e X.env) :: starEach es X.env := by rfl) : PA X (e :: es) (tCons te t) := by
  intro pos pins s σ H Q I h
  rw [hs]
  show wpAny _ _ (spliced ((false, eval e X.env) :: backTo pos (starEach es X.env))) _ _ s
  refine Calls.spliced_cons (thn (ha pins s σ H _ I h) fun u s1 ⟨x, H1, I1, r1, q1⟩ => ?_)
  exact thn (hr pos pins s1 σ H1 _ I1 q1) fun us s2 ⟨xs, H2, I2, r2, q2⟩ => ⟨x :: xs, H2, I2, .cons r1 r2, q2⟩

/-- a tuple, a list of written items -/
def tTup (t : TA) : TE := fun σ H Q => t σ H fun xs H1 => xs.length ≤ sizeLine ∧ ∀ p, H1 p = none → Q (.ref p) (upd H1 p (.tup xs))
def tLst (t : TA) : TE := fun σ H Q => t σ H fun xs H1 => xs.length ≤ sizeLine ∧ ∀ p, H1 p = none → Q (.ref p) (upd H1 p (.lst xs))
theorem pe_tup {x1} (h : PA X es t) : PE X (.Tuple es x1 pos) (tTup t) := by
  intro pins s σ H Q I hq
  refine wpAny_Tuple_spliced (thn (h pos pins s σ H _ I hq) fun us s1 ⟨xs, H1, I1, r, z, q⟩ => ⟨by rw [← r.length]; exact z, ?_⟩)
  have hf : H1 s1.heap.objs.size = none := I1.hok.fresh (Nat.le_refl _)
  refine ⟨.ref s1.heap.objs.size, upd H1 s1.heap.objs.size (.tup xs), I1.laid (t' := s1.toks) (fun b u e => Heap.get?_push_of_some _ e) (Nat.le_refl _) ?_, rfl, q _ hf⟩
  exact ⟨z, us, r, ⟨_, Heap.get?_push_size _ rfl, rfl, _, rfl⟩⟩
theorem pe_lst (h : PA X es t) : PE X (.List es pos) (tLst t) := by
  intro pins s σ H Q I hq
  refine wpAny_List_spliced (thn (h pos pins s σ H _ I hq) fun us s1 ⟨xs, H1, I1, r, z, q⟩ => ⟨by rw [← r.length]; exact z, ?_⟩)
  have hf : H1 s1.heap.objs.size = none := I1.hok.fresh (Nat.le_refl _)
  refine ⟨.ref s1.heap.objs.size, upd H1 s1.heap.objs.size (.lst xs), I1.laid (t' := s1.toks) (fun b u e => Heap.get?_push_of_some _ e) (Nat.le_refl _) ?_, rfl, q _ hf⟩
  exact ⟨z, us, 0, r, Heap.get?_push_size _ rfl⟩
end

/-! ### what a def promises -/
/-- a def's promise: the bound arguments in the parameters' order, the heap, the wanted end, the wanted exception -/
abbrev Sp := List V → Hp → VK → XK → Prop
/-- how an exception lies behind a call (file 08 gives it): the callers' frames, abstract heap and state ahead of the call, the wish, the exception, the state -/
abbrev CXT := List Env → Hp → Shared → XK → Value → Shared → Prop

/-- the state at a call -/
structure Env0 (P : Program) (w : World) (K : PySem.W.Frag) (mg : Str → Option Value) (base : Heap) (A : Around) (outer : List Env) (s : Shared) (H : Hp) : Prop where
  frames : A.frames = some outer
  mod : Mod K mg base
  bs : ∀ b o, base.get? b = some o → s.heap.get? b = some o ∧ H b = none
  bsz : base.objs.size ≤ s.heap.objs.size
  funs : s.heap.FunFrames base outer
  frf : ∀ b ∈ frs outer, H b = none
  hok : HOk P w H s.heap
  bare : AllBare s.gens
/-- a call's end -/
def CE (outer : List Env) (P : Program) (w : World) (H : Hp) (s : Shared) (Q : VK) (u : Value) (s' : Shared) : Prop :=
  ∃ v H', s'.os = s.os ∧ AllBare s'.gens ∧ Un (frs outer) [] H H' s.heap s'.heap ∧ HOk P w H' s'.heap ∧ RelV v u ∧ Q v H'
def CR (CX : CXT) (outer : List Env) (P : Program) (w : World) (H : Hp) (s : Shared) (Q : VK) (E : XK) (r : Result) (s' : Shared) : Prop :=
  match r with
  | .ok (.ret u) => CE outer P w H s Q u s'
  | .ok _ => False
  | .error e => CX outer H s E e s'
structure FnOk (P : Program) (w : World) (K : PySem.W.Frag) (mg : Str → Option Value) (base : Heap) (CX : CXT) (k : Nat) (f : Addr) (fd : FuncData) (ps : List Str) (sp : Sp) : Prop where
  len : ∀ vs H Q E, sp vs H Q E → vs.length = ps.length
  run : ∀ (A : Around) (outer : List Env) (s : Shared) (H : Hp) (args : Args) (us : List Value) (vs : List V) (Q : VK) (E : XK), Room k A → Env0 P w K mg base A outer s H → BindsTo s fd args (ps.zip us) → Vals vs us → sp vs H Q E →
    codeAny (model P w) A (.call (.ref f) args) (CR CX outer P w H s Q E) s
section
variable {X : Cx} {pins : List (Addr × Obj)} {σ : St} {H : Hp} {s s' : Shared}
/-- from a body: what a callee wants -/
theorem Inv.env0 (I : Inv X pins σ H s) : Env0 X.prog X.w X.K X.mg X.base X.A X.stack s H :=
  ⟨I.ok.frames, I.ok.mod, I.bs, Nat.le_trans I.ok.bsz I.sz, I.stack, I.stkFree, I.hok, I.bare⟩
/-- behind a call -/
theorem Inv.after {Q : VK} {u : Value} (I : Inv X pins σ H s) (h : CE X.stack X.prog X.w H s Q u s') : EP X pins σ Q u s' := by
  obtain ⟨v, H', os, bare, un, hok, r, q⟩ := h
  obtain ⟨hh, g, d, t, os'⟩ := s'
  obtain rfl : os' = s.os := os
  exact ⟨v, H', I.call (h' := hh) (g' := g) (d' := d) (t' := t) (ch := []) un hok bare (fun b z => absurd z (by simp)), r, q⟩
end

/-! ### calls -/
/-- f(..): the written arguments, then the defaults dvs; E: what is wanted of an exception -/
def tCall (sp : Sp) (dvs : List V) (E : XK) (t : TA) : TE := fun σ H Q => t σ H fun vs H1 => sp (vs ++ dvs) H1 Q E
/-- how the parameters are bound: us the positional arguments, kw the keywords' values by name, ds the defaults that fill up -/
def Binds (K : PySem.W.Frag) (fd : FuncData) (ps : List Str) (ds : List Value) : Prop :=
  ∀ (s : Shared) (us : List Value), K.In s.heap → (us ++ ds).length = ps.length → BindsTo s fd ⟨us, []⟩ (ps.zip (us ++ ds))
/-- every parameter is given -/
theorem Binds.all {K : PySem.W.Frag} {fd : FuncData} {ps : List Str} (h : ∀ us : List Value, us.length = ps.length → bindArgs fd ⟨us, []⟩ = pure (ps.zip us)) : Binds K fd ps [] := fun s us _ hl => by
  rw [List.append_nil] at hl ⊢
  exact .of_eq (h us hl)

/-- an exception of a callee reaches what this body wants of exceptions -/
def Passes (CX : CXT) (X : Cx) (E : XK) : Prop := ∀ (pins : List (Addr × Obj)) (σ : St) (H : Hp) (s : Shared) (e : Value) (s' : Shared), Inv X pins σ H s → CX X.stack H s E e s' → X.xe e s'

section
variable {X : Cx} {CX : CXT} {k : Nat} {f C : Addr} {fd : FuncData} {ps : List Str} {sp : Sp} {dvs : List V} {ds : List Value} {E : XK} {x m : Str} {p pos apos : Pos} {e o : Expr} {es : List Expr} {ta : TE} {t : TA}

/-- the callee runs -/
theorem run_fn {pins : List (Addr × Obj)} {σ : St} {H : Hp} {s : Shared} {Q : VK} {us : List Value} {vs : List V} (F : FnOk X.prog X.w X.K X.mg X.base CX k f fd ps sp) (hr : Room k X.A) (hb : Binds X.K fd ps ds) (hd : Vals dvs ds) (hx : Passes CX X E)
    (I : Inv X pins σ H s) (r : Vals vs us) (h : sp (vs ++ dvs) H Q E) : wpAny (model X.prog X.w) X.A (call (.ref f) us) (EP X pins σ Q) X.xe s := by
  have r2 : Vals (vs ++ dvs) (us ++ ds) := r.append hd
  have hl : (us ++ ds).length = ps.length := by rw [← r2.length]; exact F.len _ _ _ _ h
  refine wpAny_call (codeAny_mono (F.run X.A X.stack s H ⟨us, []⟩ (us ++ ds) (vs ++ dvs) Q E hr I.env0 (hb s us I.kIn hl) r2 h) fun r s' hq => ?_)
  cases r with
  | error e => exact hx pins σ H s e s' I hq
  | ok fl =>
    cases fl with
    | ret u => exact I.after hq
    | next => exact False.elim hq
    | brk => exact False.elim hq
    | cont => exact False.elim hq

theorem pe_call (F : FnOk X.prog X.w X.K X.mg X.base CX k f fd ps sp) (hr : Room k X.A) (hg : Gl X x) (hm : X.mg x = some (.ref f)) (hk : PySem.W.keepIn X.K (.ref f) = true) (hb : Binds X.K fd ps ds) (hd : Vals dvs ds) (hx : Passes CX X E)
    (ha : PA X (e :: es) t) (hdb : (x == ("__debug__" : Str)) = false := by decide) (he : starEach (e :: es) X.env = (false, eval e X.env) :: starEach es X.env := by rfl) (hpl : (backTo pos (starEach es X.env)).any (·.1) = false := by rfl) :
    PE X (.Call (.Name x p) (e :: es) [] pos) (tCall sp dvs E t) := by
  intro pins s σ H Q I h
  refine wpAny_Call_Name_kw (ld_glob I hg hm ?_ hdb)
  refine PySem.W.callWith_K (h₀ := X.base) I.ok.mod.kin hk (thn (ha pos pins s σ H _ I h) fun us s1 ⟨vs, H1, I1, r, q⟩ => ⟨I1.kIn, ?_⟩) he hpl
  exact run_fn F hr hb hd hx I1 r q
end

/-! ### keywords -/
section
variable {X : Cx} {CX : CXT} {k : Nat} {f C : Addr} {fd : FuncData} {ps ks : List Str} {sp : Sp} {E : XK} {x m : Str} {p pos apos kpos : Pos} {e o : Expr} {es : List Expr} {kws : List Keyword} {te ta : TE} {t tk : TA} {nm : Option Str}
variable {g : List Value → List Value → List Value} {gV : List V → List V → List V}
end

/-! ### a def's body keeps its promise -/
/-- names: the parameters first -/
structure FnScope (N P : List Str) (sc : Scope) : Prop where
  kind : sc.kind = .function
  co : sc.isCoroutine = false
  gen : sc.isGenerator = false
  nd : N.Nodup
  pre : N.take P.length = P
  par : ∀ x ∈ P, sc.names.lookup x = some .local ∨ sc.names.lookup x = some .cell
  nofree : ∀ y ∈ sc.names, y.2 ≠ .free

theorem bindL_out {kindOf : Str → Option NameKind} {x : Str} : ∀ {binds : List (Str × Value)} {m : Str → Option Value}, (∀ v, (x, v) ∉ binds) → bindL kindOf binds m x = m x
  | [], _, _ => rfl
  | (n, v) :: r, m, h => by
    unfold bindL
    rw [bindL_out fun w hw => h w (List.mem_cons_of_mem _ hw)]
    split
    · have : x ≠ n := by rintro rfl; exact h v List.mem_cons_self
      simp [this]
    · rfl
theorem bindC_out {kindOf : Str → Option NameKind} {x : Str} : ∀ {binds : List (Str × Value)} {m : Str → Option Value}, (∀ v, (x, v) ∉ binds) → bindC kindOf binds m x = m x
  | [], _, _ => rfl
  | (n, v) :: r, m, h => by
    unfold bindC
    rw [bindC_out fun w hw => h w (List.mem_cons_of_mem _ hw)]
    split
    · rfl
    · have : x ≠ n := by rintro rfl; exact h v List.mem_cons_self
      simp [this]
theorem bindL_get {kindOf : Str → Option NameKind} {x : Str} {v : Value} : ∀ {P : List Str} {vs : List Value} {i : Nat} {m : Str → Option Value}, P.Nodup → P[i]? = some x → vs[i]? = some v → kindOf x = some .local →
    bindL kindOf (P.zip vs) m x = some v
  | [], _, _, _, _, h, _, _ => by simp at h
  | _ :: _, [], _, _, _, _, h, _ => by simp at h
  | p :: P, w :: vs, 0, m, nd, h1, h2, hk => by
    simp at h1 h2; subst h1; subst h2
    show bindL kindOf ((p, w) :: P.zip vs) m p = _
    unfold bindL
    rw [bindL_out fun v hv => (List.nodup_cons.mp nd).1 (List.of_mem_zip hv).1, if_pos hk]
    simp
  | p :: P, w :: vs, i + 1, m, nd, h1, h2, hk => by
    show bindL kindOf ((p, w) :: P.zip vs) m x = _
    unfold bindL
    exact bindL_get (i := i) (List.nodup_cons.mp nd).2 (by simpa using h1) (by simpa using h2) hk
theorem bindC_get {kindOf : Str → Option NameKind} {x : Str} {v : Value} : ∀ {P : List Str} {vs : List Value} {i : Nat} {m : Str → Option Value}, P.Nodup → P[i]? = some x → vs[i]? = some v → kindOf x ≠ some .local →
    bindC kindOf (P.zip vs) m x = some v
  | [], _, _, _, _, h, _, _ => by simp at h
  | _ :: _, [], _, _, _, _, h, _ => by simp at h
  | p :: P, w :: vs, 0, m, nd, h1, h2, hk => by
    simp at h1 h2; subst h1; subst h2
    show bindC kindOf ((p, w) :: P.zip vs) m p = _
    unfold bindC
    rw [bindC_out fun v hv => (List.nodup_cons.mp nd).1 (List.of_mem_zip hv).1, if_neg hk]
    simp
  | p :: P, w :: vs, i + 1, m, nd, h1, h2, hk => by
    show bindC kindOf ((p, w) :: P.zip vs) m x = _
    unfold bindC
    exact bindC_get (i := i) (List.nodup_cons.mp nd).2 (by simpa using h1) (by simpa using h2) hk

/-- the names' values at the entry -/
def start (N : List Str) (vs : List V) : St := vs.map some ++ List.replicate (N.length - vs.length) none

/-- the context of a def's body, at its entry; an exception leaves the frame, then lies as CX says -/
def cxOf (CX : CXT) (P : Program) (w : World) (K : PySem.W.Frag) (mg : Str → Option Value) (base : Heap) (N : List Str) (qual : Str) (scope : Scope) (f : Addr) (cd : Value) (A : Around) (outer : List Env) (s : Shared) (H : Hp) (E : XK) : Cx where
  prog := P
  w := w
  K := K
  mg := mg
  base := base
  A := A.deeper (envOfC qual scope s.heap.objs.size f cd)
  N := N
  s₀ := s
  H₀ := H
  env := envOfC qual scope s.heap.objs.size f cd
  outer := outer
  stack := envOfC qual scope s.heap.objs.size f cd :: outer
  ex := []
  calm := true
  fn := fun _ => true
  pn := []
  xe := fun e s' => wpAny (model P w) (A.deeper (envOfC qual scope s.heap.objs.size f cd)) (leaving (envOfC qual scope s.heap.objs.size f cd) e) (fun _ s'' => CX outer H s E e s'') (fun e' s'' => CX outer H s E e' s'') s'

theorem cell_has {sc : Scope} {n : Nat} {x : Str} (h : sc.names.lookup x = some .cell) : ∃ c, (cellsFrom n sc.names []).lookup x = some c := by
  have q := PySem.W.cellsFrom_some sc.names n [] (.inl h)
  exact Option.isSome_iff_exists.mp q

theorem inv_start {CX : CXT} {P : Program} {w : World} {K : PySem.W.Frag} {mg : Str → Option Value} {base : Heap} {N ps : List Str} {qual : Str} {scope : Scope} {f : Addr} {cd : Value} {A : Around} {outer : List Env} {s s1 : Shared} {H : Hp} {E : XK} {us : List Value} {vs : List V}
    (S : FnScope N ps scope) (hd : A.handled = none) (e0 : Env0 P w K mg base A outer s H) (hl : vs.length = ps.length) (r : Vals vs us)
    (x : InCallC s s.heap.objs.size (bindL (envOfC qual scope s.heap.objs.size f cd).kindOf (ps.zip us) fun _ => none) (cellsFrom (s.heap.objs.size + 1) scope.names []) (bindC (envOfC qual scope s.heap.objs.size f cd).kindOf (ps.zip us) fun _ => none) s1) :
    Inv (cxOf CX P w K mg base N qual scope f cd A outer s H E) [] (start N vs) H s1 := by
  have hpl : ps.length ≤ N.length := by have := congrArg List.length S.pre; rw [List.length_take] at this; omega
  obtain ⟨h1, tk, rfl, hk⟩ := x.done
  have noA : ∀ b : Addr, b ∉ (cxOf CX P w K mg base N qual scope f cd A outer s H E).ex := fun b z => absurd (show b ∈ ([] : List Addr) from z) (by simp)
  refine ⟨⟨e0.mod, S.kind, rfl, rfl, Nat.le_refl _, fun y z c h1 h2 => ?_, fun y hy => ?_, fun y c _ h => ?_, fun _ => hd, Around.frames_deeper e0.frames, .inr ⟨rfl, rfl⟩, fun b z => absurd z (noA b), e0.bs, e0.bsz, fun b _ _ => noA b, fun b z => absurd z (noA b), e0.funs, e0.frf⟩,
    rfl, e0.bare, Un.kept hk, ⟨_, x.toInCall.ns, fun i y v h1 h2 h3 => ?_⟩, fun y c h => ⟨_, x.cell y c h⟩, e0.hok.fresh (Nat.le_refl _), fun y c h => ?_, fun p hp => absurd (show p ∈ ([] : List (Addr × Obj)) from hp) (by simp), e0.hok.kept hk, ?_⟩
  · exact name_of_addr x.apart (PySem.mem_of_lookup h1) (PySem.mem_of_lookup h2)
  · have hy : scope.names.lookup y = some .cell ∨ scope.names.lookup y = some .free := hy
    rcases hy with hy | hy
    · exact cell_has hy
    · exact absurd rfl (S.nofree _ (PySem.mem_of_lookup hy))
  · exact Nat.le_of_lt (x.above y c (PySem.mem_of_lookup h))
  · have hi : i < vs.length := by
      unfold start at h2
      by_cases hi : i < vs.length
      · exact hi
      · rw [List.getElem?_append_right (by simpa using hi)] at h2
        rw [List.getElem?_replicate] at h2
        split at h2 <;> cases h2
    have ha : vs[i]? = some v := by
      unfold start at h2
      rw [List.getElem?_append_left (by simpa using hi), List.getElem?_map] at h2
      cases e : vs[i]? with
      | none => rw [e] at h2; cases h2
      | some a => rw [e] at h2; cases h2; rfl
    obtain ⟨u, hu, rv⟩ := r.get ha
    have hp : ps[i]? = some y := by
      rw [← S.pre, List.getElem?_take_of_lt (by omega)]; exact h1
    have ndP : ps.Nodup := by rw [← S.pre]; exact S.nd.sublist (List.take_sublist _ _)
    refine ⟨u, rv, ?_⟩
    rcases S.par y (List.mem_of_getElem? hp) with k | k
    · exact .inl ⟨k, bindL_get ndP hp hu k⟩
    · obtain ⟨c, e⟩ := cell_has (n := s.heap.objs.size + 1) k
      refine .inr ⟨.inl k, c, e, ?_⟩
      have q := x.cell y c e
      rw [bindC_get ndP hp hu (by show scope.names.lookup y ≠ _; rw [k]; decide)] at q
      exact q
  · exact e0.hok.fresh (Nat.le_of_lt (x.above y c (PySem.mem_of_lookup h)))
  · unfold start
    show _ = N.length
    rw [List.length_append, List.length_map, List.length_replicate]
    omega

/-- THE RULE: a def (or a method) of the text, by its body. The body's reading t is chosen for each entry; it is run at the parameters' values -/
theorem fn_of {CX : CXT} {P : Program} {w : World} {K : PySem.W.Frag} {mg : Str → Option Value} {base : Heap} {k : Nat} {f : Addr} {name qual : Str} {params : Arguments} {body : List Stmt} {scope : Scope} {dV kV doc pm cdv ct oc : Value} {an od : Option Addr}
    {osl : Array (Option Value)} {N ps : List Str} {sp : Sp} (lk : K.lookup f = some ⟨oc, od, .func (PySem.W.fnOf name qual params body scope dV kV doc pm an cdv ct), osl⟩) (hcd : PySem.W.codeIn K cdv qual = true) (S : FnScope N ps scope)
    (len : ∀ vs H Q E, sp vs H Q E → vs.length = ps.length)
    (hbody : ∀ (A : Around) (outer : List Env) (s : Shared) (H : Hp) (vs : List V) (Q : VK) (E : XK), Room k (A.deeper (envOfC qual scope s.heap.objs.size f cdv)) → sp vs H Q E →
      ∃ t, PSs (cxOf CX P w K mg base N qual scope f cdv A outer s H E) body t ∧ t { nx := fun _ H' => Q .non H', rt := Q } (start N vs) H) :
    FnOk P w K mg base CX (k + 1) f (PySem.W.fnOf name qual params body scope dV kV doc pm an cdv ct) ps sp := by
  refine ⟨len, fun A outer s H args us vs Q E hr e0 hb r hsp => ?_⟩
  have hl := len _ _ _ _ hsp
  have KX : K.In s.heap := e0.mod.kin.keeps fun b o e => (e0.bs b o e).1
  have lim : s.heap.NoLimit := e0.mod.nolimit.keeps fun b o e => (e0.bs b o e).1
  have hkind : ∀ y ∈ ps.zip us, scope.names.lookup y.1 = some .local ∨ (scope.names.lookup y.1 = some .cell ∧ ((cellsFrom (s.heap.objs.size + 1) scope.names []).lookup y.1).isSome = true) := fun ⟨n, v⟩ hy => by
    rcases S.par n (List.of_mem_zip hy).1 with q | q
    · exact .inl q
    · exact .inr ⟨q, PySem.W.cellsFrom_some _ _ _ (.inl q)⟩
  refine codeAny_call_function hr.depth (KX _ _ lk) rfl S.co S.gen rfl (PySem.W.codeRec_of KX hcd) (hb _ _ _ _ ?_)
  refine wpAny_newFunctionEnv_cells S.kind hkind fun env he s1 x => ?_
  subst he
  refine ⟨lim.keeps x.toInCall.keep, codeAny_func ?_⟩
  obtain ⟨t, ht, hq⟩ := hbody A outer s H vs Q E (hr.deeper _) hsp
  have I : Inv (cxOf CX P w K mg base N qual scope f cdv A outer s H E) [] (start N vs) H s1 := inv_start S hr.hd e0 hl r x
  refine wpAny_mono (ht [] s1 (start N vs) H _ I hq) (fun fl s' hs => ?_) fun e s' hs => hs
  have fin : ∀ {σ' : St} {H' : Hp} {v : V} {u : Value}, Inv (cxOf CX P w K mg base N qual scope f cdv A outer s H E) [] σ' H' s' → RelV v u → Q v H' → CE outer P w H s Q u s' :=
    fun {σ' H' v u} J rv q => ⟨v, H', J.os, J.bare, J.base, J.hok, rv, q⟩
  cases fl with
  | ret u =>
    obtain ⟨v, σ', H', J, rv, q⟩ := hs
    exact fin J rv q
  | next =>
    obtain ⟨σ', H', J, q⟩ := hs
    exact fin (v := V.non) (u := Value.none) J rfl q
  | brk =>
    obtain ⟨_, _, _, q⟩ := hs
    exact False.elim q
  | cont =>
    obtain ⟨_, _, _, q⟩ := hs
    exact False.elim q
end L2

namespace L2
open PySem PySem.Spec PyProof.Rows
section
variable {X : Cx} {x : Str} {p pos : Pos} {e : Expr} {es : List Expr} {t : TA} {id T : String} {r : List V → Hp → VK → Prop}

def tCB (r : List V → Hp → VK → Prop) (t : TA) : TE := fun σ H Q => t σ H fun vs H1 => r vs H1 Q
/-- f(e, ..), f a built-in function -/
theorem pe_callB (hc : CallR X (.builtin id) r) (hg : Gl X x) (hm : X.mg x = none) (hv : bootBuiltins x = some (.builtin id)) (ha : PA X (e :: es) t) (hn : x ≠ "__name__" := by decide) (hdb : (x == ("__debug__" : Str)) = false := by decide)
    (he : starEach (e :: es) X.env = (false, eval e X.env) :: starEach es X.env := by rfl) (hpl : (backTo pos (starEach es X.env)).any (·.1) = false := by rfl) : PE X (.Call (.Name x p) (e :: es) [] pos) (tCB r t) := by
  intro pins s σ H Q I h
  refine wpAny_Call_Name_kw (ld_blt I hg hm hv ?_ hn hdb)
  exact PyProof.Rows.callWith_builtin1 (thn (ha pos pins s σ H _ I h) fun us s1 ⟨vs, H1, I1, r1, q1⟩ => hc pins s1 σ H1 vs us Q I1 r1 q1) he hpl
end
end L2

namespace HT
open PySem PyProof.Rows

section
open PySem.SeqAt
open PySem.AutoSeq1 (wpAny_loadPart')
open PySem.MeetsSeq PySem.MeetsSeq2 PySem.MeetsSeq3

end

section
variable {prog : Program} {w : World} {A : Around} {E : Value → Shared → Prop} {s : Shared}

/-! ### t[a:b], not the whole -/
end
end HT

namespace L2
open PySem PySem.Spec PyProof.Rows

/-! ### the parts of a slice -/
section
variable {X : Cx} {e : Expr} {te : TE} {lo hi : Option Expr} {tl th : TO} {pos p2 : Pos}

/-! ### t < u, t + u -/
end
end L2

namespace L2
open PySem PySem.Spec PyProof.Rows

/-! ### places -/
/-- the place that an index of any sign means -/
def ixN (n : Nat) (i : Int) : Option Nat := if 0 ≤ i then (if i < n then some i.toNat else none) else if -(n : Int) ≤ i then some (i + n).toNat else none
def atI {α : Type} (xs : List α) (i : Int) : Option α := (ixN xs.length i).bind fun j => xs[j]?
theorem ixN_seq {n : Nat} {i : Int} {j : Nat} (h : ixN n i = some j) : seqIndex? i n = some j ∧ j < n ∧ -(n : Int) ≤ i ∧ i < n := by
  unfold ixN at h
  by_cases h0 : 0 ≤ i
  · rw [if_pos h0] at h
    by_cases h1 : i < n
    · rw [if_pos h1] at h
      have e : i.toNat = j := Option.some.inj h
      exact ⟨by rw [seqIndex_of h0 h1, e], by omega, by omega, h1⟩
    · rw [if_neg h1] at h; cases h
  · rw [if_neg h0] at h
    by_cases h1 : -(n : Int) ≤ i
    · rw [if_pos h1] at h
      have e : (i + n).toNat = j := Option.some.inj h
      exact ⟨by rw [seqIndex_neg (by omega) h1, e], by omega, h1, by omega⟩
    · rw [if_neg h1] at h; cases h
theorem atI_get {α : Type} {xs : List α} {i : Int} {v : α} (h : atI xs i = some v) : ∃ j, seqIndex? i xs.length = some j ∧ xs[j]? = some v ∧ j < xs.length ∧ -(xs.length : Int) ≤ i ∧ i < xs.length := by
  unfold atI at h
  cases e : ixN xs.length i with
  | none => rw [e] at h; cases h
  | some j =>
    rw [e] at h
    obtain ⟨h1, h2, h3, h4⟩ := ixN_seq e
    exact ⟨j, h1, h, h2, h3, h4⟩
theorem atI_nat {α : Type} {xs : List α} {j : Nat} {v : α} (h : xs[j]? = some v) : atI xs (j : Int) = some v := by
  have hj : j < xs.length := (List.getElem?_eq_some_iff.mp h).1
  have e : ixN xs.length (j : Int) = some j := by
    unfold ixN
    rw [if_pos (by omega), if_pos (by omega)]; simp
  unfold atI; rw [e]; exact h
/-! ### what may be subscripted -/
/-- what stands as an index of a plain subscript -/
def PlainIx (b : Expr) : Prop := ∀ o i, subscripted b false o i = operate [o, i] (getItem o i)
/-- a subscript by values -/
def IxR (X : Cx) (r : R2) : Prop :=
  ∀ (value slice : Expr) (pins : List (Addr × Obj)) (s : Shared) (σ : St) (H : Hp) (x y : V) (v u : Value) (Q : VK), Inv X pins σ H s → RelV x v → RelV y u → r x y H Q →
    subscripted slice false v u = operate [v, u] (getItem v u) → wpAny (model X.prog X.w) X.A (subscriptTail value slice v u) (EP X pins σ Q) X.xe s
/-- a call of a builtin's method by values: the receiver, the arguments -/
def MtR (X : Cx) (id : String) (r : V → List V → Hp → VK → Prop) : Prop :=
  ∀ (pins : List (Addr × Obj)) (s : Shared) (σ : St) (H : Hp) (x : V) (xs : List V) (v : Value) (us : List Value) (Q : VK), Inv X pins σ H s → RelV x v → Vals xs us → r x xs H Q →
    wpAny (model X.prog X.w) X.A (call (.builtin id) (v :: us)) (EP X pins σ Q) X.xe s
section
variable {X : Cx} {a b : Expr} {ta tb : TE} {pos : Pos}
/-- a[b] -/
theorem pe_ix {r : R2} (hr : IxR X r) (ha : PE X a ta) (hb : PE X b tb) (hs : PlainIx b) : PE X (.Subscript a b pos) (tOp r ta tb) := by
  intro pins s σ H Q I h
  exact Subscript_ (binT ha hb I h fun v u s2 x y H2 I2 rx ry q => hr a b pins s2 σ H2 x y v u Q I2 rx ry q (hs _ _))

def rIxL (K : PySem.W.Frag) : R2 := fun x y H Q => ∃ p xs i v, x = .ref p ∧ y = .int i ∧ SqL K H p xs ∧ atI xs i = some v ∧ Q v H
def rIxT (K : PySem.W.Frag) : R2 := fun x y H Q => ∃ p xs i v, x = .ref p ∧ y = .int i ∧ SqT K H p xs ∧ atI xs i = some v ∧ Q v H
theorem ix_list : IxR X (rIxL X.K) := by
  intro value slice pins s σ H x y v u Q I rx ry h hs
  obtain ⟨p, xs, i, z, rfl, rfl, hq, he, q⟩ := h
  cases rx
  obtain ⟨t, rfl⟩ := ry
  obtain ⟨its, r, pl, hz⟩ := I.list hq
  obtain ⟨j, h1, h2, h3, h4, h5⟩ := atI_get he
  obtain ⟨w, ew, rw'⟩ := r.get h2
  have hl := r.length
  have hn := line63
  have fin : EP X pins σ Q w s := ⟨z, H, I, rw', q⟩
  by_cases h0 : 0 ≤ i
  · have hj : i.toNat = j := by
      rw [seqIndex_of h0 h5] at h1
      exact Option.some.inj h1
    exact item_listR pl.isList h0 (by omega) (by rw [hj]; simpa using ew) fin hs
  · have hj : (i + (its.toArray.size : Int)).toNat = j := by
      rw [seqIndex_neg (by omega) h4] at h1
      rw [List.size_toArray, ← hl]
      exact Option.some.inj h1
    exact subscriptTail_builtinR (x := w) pl.isList.typeIs slot_list_getitem.lookup
      (wpAny_getItem_list_neg (Q := fun r s' => r = w ∧ EP X pins σ Q r s') pl.isList (by omega) (by rw [List.size_toArray] <;> omega) (by omega) (by rw [hj]; simpa using ew) ⟨rfl, fin⟩) hs
theorem ix_tup : IxR X (rIxT X.K) := by
  intro value slice pins s σ H x y v u Q I rx ry h hs
  obtain ⟨p, xs, i, z, rfl, rfl, hq, he, q⟩ := h
  cases rx
  obtain ⟨t, rfl⟩ := ry
  obtain ⟨its, r, pl, hz⟩ := I.tuple hq
  obtain ⟨j, h1, h2, h3, h4, h5⟩ := atI_get he
  obtain ⟨w, ew, rw'⟩ := r.get h2
  have hl := r.length
  have hn := line63
  have fin : EP X pins σ Q w s := ⟨z, H, I, rw', q⟩
  exact subscriptTail_builtinR (x := w) pl.typeIs slot_tuple_getitem.lookup
    (getItem_tuple (j := j) (Q := fun r s' => r = w ∧ EP X pins σ Q r s') pl (by omega) (by omega) (by rw [List.size_toArray, ← hl]; exact h1) (by simpa using ew) ⟨rfl, fin⟩) hs
/-! ### xs[i] = v, any sign -/
/-! ### slices -/
/-! ### in, not in: flat items -/
def flatV : V → Bool
  | .non => true
  | .bl _ => true
  | .int _ => true
  | .str _ => true
  | _ => false
/-- == of flat values -/
def eqV : V → V → Bool
  | .non, .non => true
  | .bl a, .bl b => a == b
  | .bl a, .int b => (if a then 1 else 0) == b
  | .int a, .bl b => a == (if b then 1 else 0)
  | .int a, .int b => a == b
  | .str a, .str b => a == b
  | _, _ => false
theorem eqAt_V {A : Around} {s : Shared} {y x : V} {u v : Value} (ry : RelV y u) (rx : RelV x v) (fy : flatV y = true) (fx : flatV x = true) : SeqAt.EqAt A s u v (eqV y x) := by
  cases y with
  | non =>
    cases ry
    cases x with
    | non => cases rx; exact SeqAt.EqAt.same _
    | bl b => cases rx; exact SeqAt.EqAt.none_bool b
    | int b => obtain ⟨t, rfl⟩ := rx; exact SeqAt.EqAt.none_int b t
    | str b => obtain ⟨t, rfl⟩ := rx; exact SeqAt.EqAt.none_str b t
    | _ => exact absurd (show false = true from fx) Bool.false_ne_true
  | bl a =>
    cases ry
    cases x with
    | non => cases rx; exact SeqAt.EqAt.bool_none a
    | bl b => cases rx; exact SeqAt.EqAt.bool_bool a b
    | int b => obtain ⟨t, rfl⟩ := rx; exact SeqAt.EqAt.bool_int a b t
    | str b => obtain ⟨t, rfl⟩ := rx; exact SeqAt.EqAt.bool_str a b t
    | _ => exact absurd (show false = true from fx) Bool.false_ne_true
  | int a =>
    obtain ⟨t', rfl⟩ := ry
    cases x with
    | non => cases rx; exact SeqAt.EqAt.int_none a t'
    | bl b => cases rx; exact SeqAt.EqAt.int_bool a t' b
    | int b => obtain ⟨t, rfl⟩ := rx; exact SeqAt.EqAt.int_int a t' b t
    | str b => obtain ⟨t, rfl⟩ := rx; exact SeqAt.EqAt.int_str a t' b t
    | _ => exact absurd (show false = true from fx) Bool.false_ne_true
  | str a =>
    obtain ⟨t', rfl⟩ := ry
    cases x with
    | non => cases rx; exact SeqAt.EqAt.str_none a t'
    | bl b => cases rx; exact SeqAt.EqAt.str_bool a t' b
    | int b => obtain ⟨t, rfl⟩ := rx; exact SeqAt.EqAt.str_int a t' b t
    | str b => obtain ⟨t, rfl⟩ := rx; exact SeqAt.EqAt.str_str a t' b t
    | _ => exact absurd (show false = true from fx) Bool.false_ne_true
  | _ => exact absurd (show false = true from fy) Bool.false_ne_true
/-! ### len, list(x), tuple(x) of any list or tuple that is read -/
/-! ### the call of a builtin's method: o.m(..) -/
/-- the value is of that builtin type -/
def tyV (K : PySem.W.Frag) (T : String) (x : V) (H : Hp) : Prop := match x with
  | .str _ => T = "str"
  | .int _ => T = "int"
  | .ref p => (T = "list" ∧ ∃ xs, SqL K H p xs) ∨ (T = "tuple" ∧ ∃ o, K.lookup p = some o ∧ o.cls = .type "tuple" ∧ o.dict = none) ∨
      (T = "dict" ∧ ((∃ kvs, H p = some (.dK kvs)) ∨ ∃ kvs, H p = some (.dT kvs))) ∨ (T = "set" ∧ ∃ S n, H p = some (.set S n))
  | _ => False
theorem tyV_is {pins : List (Addr × Obj)} {σ : St} {H : Hp} {s : Shared} {T : String} {x : V} {v : Value} (I : Inv X pins σ H s) (r : RelV x v) (ty : tyV X.K T x H) :
    s.TypeIs v T ∧ ∀ a, v = .ref a → ∃ ob, s.heap.get? a = some ob ∧ ob.dict = none := by
  cases x with
  | str z =>
    obtain ⟨t, rfl⟩ := r
    cases (show T = "str" from ty)
    exact ⟨typeIs_str s z t, fun _ e => nomatch e⟩
  | int i =>
    obtain ⟨t, rfl⟩ := r
    cases (show T = "int" from ty)
    exact ⟨typeIs_int s i t, fun _ e => nomatch e⟩
  | ref p =>
    cases r
    rcases ty with ⟨rfl, xs, hq⟩ | ⟨rfl, o, hk, hc, hd⟩ | ⟨rfl, hk⟩ | ⟨rfl, S, n, hk⟩
    · obtain ⟨its, _, pl, _⟩ := I.list hq
      refine ⟨pl.isList.typeIs, fun a e => ?_⟩
      cases e
      obtain ⟨o, n, e, c, hd, _⟩ := pl
      exact ⟨o, e, hd⟩
    · refine ⟨⟨o, I.kIn p o hk, hc⟩, fun a e => ?_⟩
      cases e
      exact ⟨o, I.kIn _ o hk, hd⟩
    · have z : ∃ o, s.heap.get? p = some o ∧ o.ExactDict := by
        rcases hk with ⟨kvs, hk⟩ | ⟨kvs, hk⟩
        · obtain ⟨_, _, _, _, o, _, _, e, ex, _⟩ := I.hok p _ hk
          exact ⟨o, e, ex⟩
        · obtain ⟨_, _, _, _, o, _, _, e, ex, _⟩ := I.hok p _ hk
          exact ⟨o, e, ex⟩
      obtain ⟨o, e, ex⟩ := z
      refine ⟨⟨o, e, ex.1⟩, fun a e2 => ?_⟩
      cases e2
      exact ⟨o, e, ex.2.1⟩
    · obtain ⟨o, _, _, _, e, ex, _⟩ := I.hok p _ hk
      refine ⟨⟨o, e, ex.1⟩, fun a e2 => ?_⟩
      cases e2
      exact ⟨o, e, ex.2.1⟩
  | _ => exact False.elim ty
def tBM (K : PySem.W.Frag) (T : String) (r : V → List V → Hp → VK → Prop) (to : TE) (t : TA) : TE := fun σ H Q => to σ H fun x H1 => tyV K T x H1 ∧ t σ H1 fun xs H2 => r x xs H2 Q
variable {o e : Expr} {es : List Expr} {to : TE} {t : TA} {name : Str} {apos cpos : Pos} {T id : String} {r : V → List V → Hp → VK → Prop}
theorem pe_bm (pa : PlainAttrs T) (slot : Slot T name id) (hty : typeOf (.builtin id) = pure (.type "method_descriptor")) (hm : MtR X id r) (ho : PE X o to) (ha : PA X (e :: es) t)
    (hbase : attributeBase o name X.env (eval o X.env) = eval o X.env := by rfl)
    (hfew : ((backTo cpos (starEach (e :: es) X.env)).all (fun x => !x.1) && (backToKw cpos (keywordEach [] X.env)).all (fun x => x.1.isSome)
      && decide ((e :: es).length + ([] : List Keyword).length + (if ([] : List Keyword).isEmpty then 0 else 1) < 30)) = true := by rfl)
    (hline : (apos.endLine == cpos.line) = true := by rfl) (hs : starEach (e :: es) X.env = (false, eval e X.env) :: starEach es X.env := by rfl) (hplain : (backTo cpos (starEach es X.env)).any (·.1) = false := by rfl) :
    PE X (.Call (.Attribute o name apos) (e :: es) [] cpos) (tBM X.K T r to t) := by
  intro pins s σ H Q I h
  refine wpAny_Call_method_late hbase hfew hline rfl (thn (ho pins s σ H _ I h) fun v s1 ⟨x, H1, I1, r1, ty, q1⟩ => ?_)
  obtain ⟨h1, h2⟩ := tyV_is I1 r1 ty
  refine ⟨T, id, pa, slot, hty, h1, h2, ?_⟩
  have hA := ha cpos pins s1 σ H1 _ I1 q1
  rw [hs] at hA ⊢
  refine Calls.callWith_builtin (by show (false || (backTo cpos (starEach es X.env)).any (·.1)) = false; rw [hplain] <;> rfl) (Calls.evalArgs_plain ?_)
  exact thn hA fun us s2 ⟨vs, H2, I2, r2, q2⟩ => hm pins s2 σ H2 x vs v us Q I2 r1 r2 q2
/- xs.append(e), list.index on a module's tuple .. are MtR facts of 06m -/
end
end L2

namespace L2
open PySem PySem.Spec PyProof.Rows

def MtM (X : Cx) (id : String) (r : V → List V → Hp → VK → Prop) : Prop :=
  ∀ (pins : List (Addr × Obj)) (s : Shared) (σ : St) (H : Hp) (x : V) (xs : List V) (v : Value) (us : List Value) (Q : VK), Inv X pins σ H s → RelV x v → Vals xs us → r x xs H Q →
    wpAny (model X.prog X.w) X.A (call (.builtin id) (v :: us)) (EP X pins σ Q) X.xe s

/-! ### lists of values -/
theorem Vals.one : ∀ {x : V} {us : List Value}, Vals [x] us → ∃ u, us = [u] ∧ RelV x u
  | _, _, .cons r .nil => ⟨_, rfl, r⟩
section
variable {X : Cx} {pins : List (Addr × Obj)} {σ : St} {H : Hp} {s : Shared} {l b : Addr} {xs ys zs : List V}

/-! ### the two steps: a tracked list is rewritten, a new list is laid -/
theorem Inv.lset {its its' : List Value} {n : Nat} {f : Array Value → Array Value} {t' : Nat} (I : Inv X pins σ H s) (hH : H l = some (.lst xs))
    (e : s.heap.get? l = some { cls := .type "list", data := .seq its.toArray n }) (hf : f its.toArray = its'.toArray) (hv : Vals ys its') (hz : ys.length ≤ sizeLine) :
    Inv X pins σ (upd H l (.lst ys)) { s with heap := s.heap.update l (Obj.mapSeq f), toks := t' } := by
  have q := PySem.IsL.update e f
  rw [hf] at q
  refine I.write (x := l) (e := l) (by rw [hH]; exact trivial) (.inl rfl) (fun b' u hb hu => (Heap.get?_update_other s.heap (Obj.mapSeq f) (Ne.symm hb)).trans hu) ⟨_, q⟩ ?_
  exact ⟨hz, its', _, hv, q⟩
theorem Inv.lstM (I : Inv X pins σ H s) (hH : H l = some (.lst xs)) : xs.length ≤ sizeLine ∧ ∃ (its : List Value) (n : Nat), Vals xs its ∧ xs.length = its.length ∧ s.heap.get? l = some { cls := .type "list", data := .seq its.toArray n } := by
  obtain ⟨z, its, n, r, e⟩ := I.hok l _ hH
  exact ⟨z, its, n, r, r.length, e⟩

end

section
variable {X : Cx}

/-! ### methods -/
def rAppend : V → List V → Hp → VK → Prop := fun x vs H Q => ∃ l xs y, x = .ref l ∧ vs = [y] ∧ H l = some (.lst xs) ∧ xs.length < sizeLine ∧ Q .non (upd H l (.lst (xs ++ [y])))
theorem mt_append : MtM X "list.append" rAppend := by
  intro pins s σ H x vs v us Q I rx rv h
  obtain ⟨l, xs, y, rfl, rfl, hH, hz, q⟩ := h
  cases rx
  obtain ⟨u, rfl, ru⟩ := rv.one
  obtain ⟨z, its, n, r, hl, e⟩ := I.lstM hH
  refine call_meets F.slot_list_append ⟨_, e, rfl⟩ F.entry_list_append (F.args_list_append_2 _ _) (PySem.list_append l its.toArray n u (by rw [List.size_toArray]; omega)) ⟨e, ?_⟩
  refine ⟨.non, _, I.lset (its' := its ++ [u]) hH e (by simp) (r.append (.cons ru .nil)) ?_, rfl, q⟩
  rw [List.length_append, List.length_singleton]
  omega

/-! ### list + list, list += list, list * int -/
/-! ### del xs[i] -/
end

/-! ### xs[a:b] = ys -/
section
variable {prog : Program} {w : World} {A : Around} {E : Value → Shared → Prop} {s : Shared}
end

section
variable {X : Cx}
end
end L2

namespace Att
open PySem PySem.W PySem.Calls PyProof.Rows

/-! ### the script -/
theorem ints_of_wellAll {P : Params} {h : Heap} : ∀ (ns : List Int) (vs : List Value), WellAll P h vs (ns.map WData.int) → IntsAre vs ns := by
  intro ns
  induction ns with
  | nil =>
    intro vs w
    rw [List.map_nil] at w
    cases w
    exact .nil
  | cons n ns ih =>
    intro vs w
    rw [List.map_cons] at w
    cases w with
    | cons a b =>
      cases a
      exact .cons _ _ (ih _ b)

theorem script_of {l : OpenLaw} {n : Nat} (hn : l.most = some n) {P : Params} {h : Heap} {args : List WData} {vals : List Value}
    (hpre : l.row.toRowW.claim.pre args = true) (hwl : WellAll P h vals args) :
    ∃ a vs ns, vals = [Value.ref a] ∧ args = [WData.list (ns.map WData.int)] ∧ h.get? a = some { cls := .type "list", data := .seq vs.toArray } ∧ IntsAre vs ns ∧ ns.length ≤ n := by
  have hsh : WShape.hasAll [] args [.list .int] = true := (pre_splitW hpre).1
  have hc : l.pre.holds [] { args := args } = true := (pre_splitW hpre).2
  obtain ⟨d, r, rfl, h1, h2⟩ := hasAllW_cons hsh
  obtain rfl := hasAllW_nil h2
  obtain ⟨xs, rfl, h3⟩ := hasW_list h1
  obtain ⟨ns, rfl⟩ := items_int h3
  have hlen : ns.length ≤ n := by
    unfold OpenLaw.pre at hc
    have h4 : (WTm.not (.lt (.lit (.int (n : Int))) (.len (.arg 0)))).holds [] { args := [.list (ns.map .int)] } = true := by
      have h4 := (holds_andW hc).1
      rw [hn] at h4
      exact h4
    have h5 := condW_of h4 (w_not (w_lt w_lit (w_len_list (w_arg rfl))))
    rw [List.length_map] at h5
    refine Nat.le_of_not_lt fun q => ?_
    have q' : (n : Int) < ((ns.length : Nat) : Int) := by omega
    first
      | (rw [decide_eq_true q'] at h5; exact absurd h5 (by decide))
      | (simp at h5; omega)
  cases hwl with
  | cons w1 w2 =>
    cases w2
    cases w1 with
    | list ho hall => exact ⟨_, _, ns, rfl, rfl, ho, ints_of_wellAll ns _ hall, hlen⟩

theorem post_true (l : OpenLaw) (args : List WData) : l.row.toRowW.claim.post args (.bool true) args = true :=
  postW_of (r := l.row.toRowW) (X := (true == true))
    (show WShape.has [] (.bool true) .bool = true by first | rfl | decide | simp [WShape.has, WShape.arms, WShape.armsAll])
    (show (WTm.eq .res (.lit (.bool true))).value [] { args := args, res := some (.bool true), after := args } = some (.bool (true == true)) from w_eq_bool (w_res rfl) w_lit) rfl

/-! ### the attachment: holds_open's last premise (the goal 'hc' behind k_head) from a wpAny of the law's body -/
/-! ### rules over ANY heap (no ledger) from facts about the written part K: the library's own take a ledger (News) for what they write -/
section
variable {prog : Program} {w : World} {A : Around} {E : Value → Shared → Prop} {s : Shared} {K : Frag}

/-! the whole heap as the ledger: makes every rule that writes through a ledger a rule over any heap -/
end
end Att

namespace L2
open PySem PySem.Spec PyProof.Rows

theorem vals_ints : ∀ {vs : List Value} {ns : List Int}, IntsAre vs ns → Vals (ns.map V.int) vs
  | _, _, .nil => .nil
  | _, _, .cons n t h => .cons ⟨t, rfl⟩ (vals_ints h)

/-- nothing is tracked but the script, known to the object (or it is an object of the module) -/
def Only (H : Hp) : Prop := ∀ b, H b = none ∨ ∃ o xs, H b = some (.frz o (.lst xs))

/-- THE HEAD: the law's promise, at the heap behind the top. F, the promise of the law's def, may use that base is part of the heap (so K.In base, base.Ns mainGlobals mg stand in Mod) -/
theorem law_call {P : Program} {w : World} {K : PySem.W.Frag} {mg mb : Str → Option Value} {CX : CXT} {k : Nat} {fa a : Addr} {fd : FuncData} {x : Str} {sp : Sp} {s₁ : Shared} {vs : List Value} {ns : List Int}
    (KX : K.In s₁.heap) (hns : s₁.heap.Ns mainGlobals mg) (hb : s₁.heap.Ns builtinsNs mb) (hbb : ∀ x : Str, x ≠ "__name__" → mb x = bootBuiltins x) (hlim : s₁.heap.NoLimit) (hg : s₁.gens = #[])
    (ha : s₁.heap.get? a = some { cls := .type "list", data := .seq vs.toArray }) (hi : IntsAre vs ns) (hl : ns.length ≤ sizeLine) (hr : Room k callerA)
    (F : ∀ base : Heap, K.In base → base.Ns mainGlobals mg → FnOk P w K mg base CX k fa fd [x] sp) (hbind : ∀ (s : Shared) (u : Value), BindsTo s fd ⟨[u], []⟩ [(x, u)])
    (hsp : ∀ H : Hp, Only H → SqL K H a (ns.map V.int) → sp [.ref a] H (fun v _ => v = .bl true) fun _ _ _ => False)
    (hCX : ∀ H e s', CX [] H s₁ (fun _ _ _ => False) e s' → False) :
    codeAny (model P w) callerA (.call (.ref fa) ⟨[.ref a], []⟩) (fun r s' => r = .ok (.ret (.bool true)) ∧ OldK s₁.heap s'.heap ∧ s'.os = s₁.os ∧ AllBare s'.gens) s₁ := by
  have rv := vals_ints hi
  have lenV := hi.length
  -- from an abstract heap in which nothing but the script may be tracked
  have core : ∀ H : Hp, Only H → SqL K H a (ns.map V.int) → HOk P w H s₁.heap → (∀ b, H b ≠ none → b = a) → (H a ≠ none → K.lookup a = none) →
      codeAny (model P w) callerA (.call (.ref fa) ⟨[.ref a], []⟩) (fun r s' => r = .ok (.ret (.bool true)) ∧ OldK s₁.heap s'.heap ∧ s'.os = s₁.os ∧ AllBare s'.gens) s₁ := by
    intro H hO hS hok hA hK
    have base_of : ∀ {b : Addr} {o : Obj}, s₁.heap.get? b = some o → H b = none → (hidT s₁.heap H).get? b = some o := fun e n => hidT_get e n
    have noA : ∀ {b : Addr} {o : Obj} {es : Array DictEntry} {ep : Nat}, s₁.heap.get? b = some o → o.data = .dict es ep → H b = none := fun {b o es ep} e d => by
      cases q : H b with
      | none => rfl
      | some u =>
        have e' : b = a := hA b (by rw [q]; simp)
        subst e'
        rw [ha] at e; cases e
        have d' : Data.seq vs.toArray _ = Data.dict es ep := d
        cases d'
    have nsK : ∀ {b : Addr} {m : Str → Option Value}, s₁.heap.Ns b m → (hidT s₁.heap H).Ns b m := fun {b m} ⟨o, es, ep, e, d, r⟩ => ⟨o, es, ep, base_of e (noA e d), d, r⟩
    have hKb : K.In (hidT s₁.heap H) := fun b o e => base_of (KX b o e) (by
      cases q : H b with
      | none => rfl
      | some u =>
        have e' : b = a := hA b (by rw [q]; simp)
        subst e'
        rw [hK (by rw [q]; simp)] at e; cases e)
    have hM : Mod K mg (hidT s₁.heap H) := ⟨hKb, nsK hns, ⟨mb, nsK hb, hbb⟩, let ⟨mc, h1, h2⟩ := hlim; ⟨mc, nsK h1, h2⟩⟩
    have e0 : Env0 P w K mg (hidT s₁.heap H) callerA [] s₁ H := ⟨rfl, hM, fun b o e => of_hidT e, Nat.le_of_eq (hidT_size _ _), trivial, fun b hb => absurd (show b ∈ ([] : List Addr) from hb) (by simp), hok, .of_eq hg⟩
    refine codeAny_mono ((F _ hKb (nsK hns)).run callerA [] s₁ H ⟨[.ref a], []⟩ [.ref a] [.ref a] _ _ hr e0 (hbind s₁ (.ref a)) (.cons rfl .nil) (hsp H hO hS)) fun r s' h => ?_
    cases r with
    | error e => exact (hCX H e s' h).elim
    | ok fl =>
      cases fl with
      | next => exact False.elim h
      | brk => exact False.elim h
      | cont => exact False.elim h
      | ret u =>
        obtain ⟨v, H', os, bare, un, hok', r', q⟩ := h
        have q' : v = .bl true := q
        subst q'
        obtain rfl : u = Value.bool true := r'
        refine ⟨rfl, OldK.of_keep fun b o e => ?_, os, bare⟩
        cases q : H b with
        | none => exact un.keep b o e q (by intro z; exact absurd (show b ∈ ([] : List Addr) from z) (by simp)) (by simp)
        | some u =>
          rcases hO b with z | ⟨ob, xs, z⟩
          · rw [q] at z; cases z
          · have z2 := un.frzs b ob _ z
            obtain ⟨e1, _⟩ := hok b _ z
            obtain ⟨e2, _⟩ := hok' b _ z2
            rw [e] at e1; cases e1
            exact e2
  cases hk : K.lookup a with
  | some o =>
    -- the script is one of the module's own objects
    have e := KX a o hk
    rw [ha] at e
    cases e
    refine core (fun _ => none) (fun _ => .inl rfl) (.inr ⟨_, vs.toArray, _, hk, rfl, rfl, rfl, by rw [List.size_toArray, lenV]; exact hl, by simpa using rv⟩) (fun b u z => by have z' : (none : Option HO) = some u := z; cases z') (fun b z => absurd rfl z) fun z => absurd rfl z
  | none =>
    refine core (fun b => if b = a then some (.frz { cls := .type "list", data := .seq vs.toArray } (.lst (ns.map V.int))) else none) (fun b => ?_) (.inl (.inr ⟨{ cls := .type "list", data := .seq vs.toArray }, if_pos rfl⟩)) (fun b u z => ?_) (fun b z => ?_) fun _ => hk
    · by_cases hb : b = a
      · exact .inr ⟨_, _, if_pos hb⟩
      · exact .inl (if_neg hb)
    · by_cases hb : b = a
      · have z' := (if_pos hb).symm.trans z
        cases z'
        subst hb
        exact ⟨ha, by rw [List.length_map]; exact hl, vs, _, rv, ha⟩
      · have z' := (if_neg hb).symm.trans z
        cases z'
    · by_cases hb : b = a
      · exact hb
      · exact absurd (if_neg hb) z
end L2

namespace L2
open PySem PySem.Spec PyProof.Rows

end L2

/- THE LAST THEOREM (shape; LID, My.* are yours):
   My.Adr: a structure of the addresses that your layer names (classes, functions); My.Txt K t: a structure (Prop) of the equations over K;
   My.txt_mk : {K} {implicit addresses ..} (e1 : nsIn K mainGlobals "law" = some (some (.ref f))) (e2 : K.lookup f = some ⟨oc, od, .func (fnOf "law" "law" params body scope dV kV doc pm an cdv ct), sl⟩) (e3 : codeIn K cdv "law" = true) .. : ∃ t, My.Txt K t

(the tactic k_is has no namespace: write k_is) -/

/-! SHORT WORDS over the layer: a def of the text, its body, what a loop and a test want. -/
namespace L2
open PySem PySem.Spec PyProof.Rows

/-! ### the text by places -/
def defArgs (s : Stmt) : Arguments := match s with
  | .FunctionDef _ a _ _ _ _ _ _ _ _ => a
  | _ => { posonlyargs := [], args := [], vararg := none, kwonlyargs := [], kw_defaults := [], kwarg := none, defaults := [] }
def defBody (s : Stmt) : List Stmt := match s with
  | .FunctionDef _ _ b _ _ _ _ _ _ _ => b
  | _ => []
def defScope (s : Stmt) : Scope := match s with
  | .FunctionDef _ _ _ _ _ _ sc _ _ _ => sc
  | _ => { kind := .function, names := [], isGenerator := false, isCoroutine := false }

/-! ### no exception leaves a def -/
abbrev CX0 : CXT := fun _ _ _ _ _ _ => False
abbrev E0 : XK := fun _ _ _ => False
theorem pass0 {X : Cx} : Passes CX0 X E0 := fun _ _ _ _ _ _ _ h => h.elim

/-! ### a def (or method) of the text as it stands behind the top -/
structure Fun (K : PySem.W.Frag) (x qual : Str) (st : Stmt) (f : Addr) (fd : FuncData) : Prop where
  ex : ∃ (oc : Value) (od : Option Addr) (kV doc pm : Value) (an : Option Addr) (cdv ct : Value) (osl : Array (Option Value)),
    fd = PySem.W.fnOf x qual (defArgs st) (defBody st) (defScope st) .none kV doc pm an cdv ct ∧ K.lookup f = some ⟨oc, od, .func fd, osl⟩ ∧ PySem.W.codeIn K cdv qual = true
  kp : PySem.W.keepIn K (.ref f) = true
section
variable {P : Program} {w : World} {K : PySem.W.Frag} {mg : Str → Option Value} {base : Heap}
/-- THE RULE for a def: its body as a term of rules, and the reading of that term -/
theorem Fun.ok {x qual : Str} {st : Stmt} {f : Addr} {fd : FuncData} {N ps : List Str} {k : Nat} {sp : Sp} (F : Fun K x qual st f fd) (S : FnScope N ps (defScope st)) (len : ∀ vs H Q E, sp vs H Q E → vs.length = ps.length)
    (hbody : ∀ (cdv : Value) (A : Around) (outer : List Env) (s : Shared) (H : Hp) (vs : List V) (Q : VK) (E : XK), Room k (A.deeper (envOfC qual (defScope st) s.heap.objs.size f cdv)) → sp vs H Q E →
      ∃ t, PSs (cxOf CX0 P w K mg base N qual (defScope st) f cdv A outer s H E).nox (defBody st) t ∧ t { nx := fun _ H' => Q .non H', rt := Q } (start N vs) H) : FnOk P w K mg base CX0 (k + 1) f fd ps sp := by
  obtain ⟨oc, od, kV, doc, pm, an, cdv, ct, osl, rfl, lk, hcd⟩ := F.ex
  refine fn_of lk hcd S len fun A outer s H vs Q E hr hsp => ?_
  obtain ⟨t, h, q⟩ := hbody cdv A outer s H vs Q E hr hsp
  exact ⟨t, h.nox, q⟩
/-- how its arguments bind (no defaults): h is «fun _ _ _ _ _ _ us hl => match us, hl with | [_, _], _ => rfl», one _ a parameter -/
theorem Fun.binds {x qual : Str} {st : Stmt} {f : Addr} {fd : FuncData} {ps : List Str} (F : Fun K x qual st f fd)
    (h : ∀ (kV doc pm : Value) (an : Option Addr) (cdv ct : Value) (us : List Value), us.length = ps.length → bindArgs (PySem.W.fnOf x qual (defArgs st) (defBody st) (defScope st) .none kV doc pm an cdv ct) ⟨us, []⟩ = pure (ps.zip us)) : Binds K fd ps [] := by
  obtain ⟨oc, od, kV, doc, pm, an, cdv, ct, osl, rfl, lk, hcd⟩ := F.ex
  exact .all (h kV doc pm an cdv ct)
theorem fun_mk {x qual : Str} {st : Stmt} {f : Addr} {oc : Value} {od an : Option Addr} {osl : Array (Option Value)} {kV doc pm cdv ct : Value} (l : K.lookup f = some ⟨oc, od, .func (PySem.W.fnOf x qual (defArgs st) (defBody st) (defScope st) .none kV doc pm an cdv ct), osl⟩)
    (c : PySem.W.codeIn K cdv qual = true) (k : PySem.W.keepIn K (.ref f) = true) : Fun K x qual st f (PySem.W.fnOf x qual (defArgs st) (defBody st) (defScope st) .none kV doc pm an cdv ct) := ⟨⟨oc, od, kV, doc, pm, an, cdv, ct, osl, rfl, l, c⟩, k⟩
end
theorem small1000 {n : Nat} (h : n ≤ 1000) : n < sizeLine := Nat.lt_of_le_of_lt h (by decide)

/-! ### expressions in short: the name that stands in the i-th slot -/
section
variable {X : Cx}
end

/-! ### tests -/
theorem iteF {A B : Prop} (h : B) : if false = true then A else B := by
  rw [if_neg Bool.false_ne_true]
  exact h
theorem iteT {A B : Prop} (h : A) : if true = true then A else B := by
  rw [if_pos rfl]
  exact h
/-! ### heaps -/
/-- all that was tracked is as it was -/
def Same (H H' : Hp) : Prop := ∀ b o, H b = some o → H' b = some o
theorem Same.refl (H : Hp) : Same H H := fun _ _ h => h
theorem Same.trans {H H1 H2 : Hp} (a : Same H H1) (b : Same H1 H2) : Same H H2 := fun c o h => b c o (a c o h)
theorem Same.free {H H' : Hp} (e : Same H H') {l : Addr} (h : H' l = Option.none) : H l = Option.none := by
  cases q : H l with
  | none => rfl
  | some o =>
    rw [e l o q] at h
    cases h
theorem Same.seq {K : PySem.W.Frag} {H H' : Hp} {a : Addr} {xs : List V} (e : Same H H') (h : SqL K H a xs) : SqL K H' a xs := by
  rcases h with (h | ⟨o, h⟩) | h
  · exact .inl (.inl (e _ _ h))
  · exact .inl (.inr ⟨o, e _ _ h⟩)
  · exact .inr h

end L2

set_option maxHeartbeats 400000

/-! FL: a heap-free reading of the layer: values are data D, a def is a relation between data. -/
namespace FL
open PySem PySem.Spec PyProof.Rows L2

inductive D where
  | non | bl (b : Bool) | int (i : Int) | str (x : Str) | ty (n : String)
  | tup (ds : List D)
  /-- a list that is read -/
  | ls (ds : List D)
  /-- a list of this def's own making, at a -/
  | lst (a : Addr) (ds : List D)

mutual
inductive Is (K : PySem.W.Frag) (H : Hp) : V → D → Prop
  | non : Is K H .non .non
  | bl (b : Bool) : Is K H (.bl b) (.bl b)
  | int (i : Int) : Is K H (.int i) (.int i)
  | str (x : Str) : Is K H (.str x) (.str x)
  | ty (n : String) : Is K H (.ty n) (.ty n)
  | tup {a : Addr} {xs : List V} {ds : List D} (h : SqT K H a xs) (r : IsAll K H xs ds) : Is K H (.ref a) (.tup ds)
  | ls {a : Addr} {xs : List V} {ds : List D} (h : SqL K H a xs) (r : IsAll K H xs ds) : Is K H (.ref a) (.ls ds)
  | lst {a : Addr} {xs : List V} {ds : List D} (h : H a = some (.lst xs)) (r : IsAll K H xs ds) : Is K H (.ref a) (.lst a ds)
inductive IsAll (K : PySem.W.Frag) (H : Hp) : List V → List D → Prop
  | nil : IsAll K H [] []
  | cons {v : V} {vs : List V} {d : D} {ds : List D} (h : Is K H v d) (r : IsAll K H vs ds) : IsAll K H (v :: vs) (d :: ds)
end

theorem sameT {K : PySem.W.Frag} {H H' : Hp} {a : Addr} {xs : List V} (e : Same H H') (h : SqT K H a xs) : SqT K H' a xs := by
  rcases h with (h | ⟨o, h⟩) | h
  · exact .inl (.inl (e _ _ h))
  · exact .inl (.inr ⟨o, e _ _ h⟩)
  · exact .inr h

mutual
theorem Is.mono {K : PySem.W.Frag} {H H' : Hp} (e : Same H H') : ∀ {v : V} {d : D}, Is K H v d → Is K H' v d
  | _, _, .non => .non
  | _, _, .bl b => .bl b
  | _, _, .int i => .int i
  | _, _, .str x => .str x
  | _, _, .ty n => .ty n
  | _, _, .tup h r => .tup (sameT e h) (IsAll.mono e r)
  | _, _, .ls h r => .ls (e.seq h) (IsAll.mono e r)
  | _, _, .lst h r => .lst (e _ _ h) (IsAll.mono e r)
theorem IsAll.mono {K : PySem.W.Frag} {H H' : Hp} (e : Same H H') : ∀ {vs : List V} {ds : List D}, IsAll K H vs ds → IsAll K H' vs ds
  | _, _, .nil => .nil
  | _, _, .cons h r => .cons (Is.mono e h) (IsAll.mono e r)
end

theorem IsAll.length {K : PySem.W.Frag} {H : Hp} : ∀ {vs : List V} {ds : List D}, IsAll K H vs ds → vs.length = ds.length
  | _, _, .nil => rfl
  | _, _, .cons _ r => by simp [IsAll.length r]
theorem IsAll.get {K : PySem.W.Frag} {H : Hp} : ∀ {vs : List V} {ds : List D}, IsAll K H vs ds → ∀ {i : Nat} {d : D}, ds[i]? = some d → ∃ v, vs[i]? = some v ∧ Is K H v d
  | _, _, .nil, i, d, e => by simp at e
  | _, _, .cons h r, 0, d, e => by simp at e; subst e; exact ⟨_, rfl, h⟩
  | _, _, .cons h r, i + 1, d, e => by
    obtain ⟨v, e1, h1⟩ := IsAll.get r (i := i) (d := d) (by simpa using e)
    exact ⟨v, by simpa using e1, h1⟩
theorem IsAll.append {K : PySem.W.Frag} {H : Hp} : ∀ {vs us : List V} {ds es : List D}, IsAll K H vs ds → IsAll K H us es → IsAll K H (vs ++ us) (ds ++ es)
  | _, _, _, _, .nil, s => s
  | _, _, _, _, .cons h r, s => .cons h (IsAll.append r s)
theorem IsAll.ints {K : PySem.W.Frag} {H : Hp} : ∀ (ns : List Int), IsAll K H (ns.map V.int) (ns.map D.int)
  | [] => .nil
  | n :: ns => .cons (.int n) (IsAll.ints ns)

theorem Is.int_inv {K : PySem.W.Frag} {H : Hp} {v : V} {i : Int} (h : Is K H v (.int i)) : v = .int i := by cases h; rfl
theorem Is.bl_inv {K : PySem.W.Frag} {H : Hp} {v : V} {b : Bool} (h : Is K H v (.bl b)) : v = .bl b := by cases h; rfl
theorem Is.str_inv {K : PySem.W.Frag} {H : Hp} {v : V} {x : Str} (h : Is K H v (.str x)) : v = .str x := by cases h; rfl
theorem Is.ty_inv {K : PySem.W.Frag} {H : Hp} {v : V} {x : String} (h : Is K H v (.ty x)) : v = .ty x := by cases h; rfl
theorem Is.non_inv {K : PySem.W.Frag} {H : Hp} {v : V} (h : Is K H v .non) : v = .non := by cases h; rfl
theorem Is.tup_inv {K : PySem.W.Frag} {H : Hp} {v : V} {ds : List D} (h : Is K H v (.tup ds)) : ∃ a xs, v = .ref a ∧ SqT K H a xs ∧ IsAll K H xs ds := by
  cases h with
  | tup h r => exact ⟨_, _, rfl, h, r⟩
theorem Is.lst_inv {K : PySem.W.Frag} {H : Hp} {v : V} {ds : List D} {a : Addr} (h : Is K H v (.lst a ds)) : v = .ref a ∧ ∃ xs, H a = some (.lst xs) ∧ IsAll K H xs ds := by
  cases h with
  | lst h r => exact ⟨rfl, _, h, r⟩
theorem Is.ls_inv {K : PySem.W.Frag} {H : Hp} {v : V} {ds : List D} (h : Is K H v (.ls ds)) : ∃ a xs, v = .ref a ∧ SqL K H a xs ∧ IsAll K H xs ds := by
  cases h with
  | ls h r => exact ⟨_, _, rfl, h, r⟩
/-- the items of what is read as a list -/
def lsD : D → Option (List D)
  | .ls ds => some ds
  | .lst _ ds => some ds
  | _ => none
theorem Is.lsD_inv {K : PySem.W.Frag} {H : Hp} {v : V} {d : D} {ds : List D} (h : Is K H v d) (e : lsD d = some ds) : ∃ a xs, v = .ref a ∧ SqL K H a xs ∧ IsAll K H xs ds := by
  cases d with
  | ls es => cases e; exact h.ls_inv
  | lst a es => cases e; obtain ⟨h1, xs, h2, h3⟩ := h.lst_inv; exact ⟨a, xs, h1, .of h2, h3⟩
  | _ => cases e

/-- no list within: no store touches it -/
inductive Fz : D → Prop
  | non : Fz .non
  | bl (b : Bool) : Fz (.bl b)
  | int (i : Int) : Fz (.int i)
  | str (x : Str) : Fz (.str x)
  | ty (n : String) : Fz (.ty n)
  | tup {ds : List D} (h : ∀ d ∈ ds, Fz d) : Fz (.tup ds)
theorem Fz.tup_inv {ds : List D} (h : Fz (.tup ds)) : ∀ d ∈ ds, Fz d := by cases h with | tup h => exact h
theorem Fz.no_ls {ds : List D} (h : Fz (.ls ds)) : False := by cases h
theorem Fz.no_lst {a : Addr} {ds : List D} (h : Fz (.lst a ds)) : False := by cases h
/-- what stays through any store: tuples and frozen things -/
def KT (H H' : Hp) : Prop := (∀ b xs, H b = some (.tup xs) → H' b = some (.tup xs)) ∧ ∀ b o u, H b = some (.frz o u) → H' b = some (.frz o u)
theorem KT.seqT {K : PySem.W.Frag} {H H' : Hp} {a : Addr} {xs : List V} (e : KT H H') (h : SqT K H a xs) : SqT K H' a xs := by
  rcases h with (h | ⟨o, h⟩) | h
  · exact .inl (.inl (e.1 _ _ h))
  · exact .inl (.inr ⟨o, e.2 _ _ _ h⟩)
  · exact .inr h
mutual
theorem Is.keep {K : PySem.W.Frag} {H H' : Hp} (e : KT H H') : ∀ {v : V} {d : D}, Is K H v d → Fz d → Is K H' v d
  | _, _, .non, _ => .non
  | _, _, .bl b, _ => .bl b
  | _, _, .int i, _ => .int i
  | _, _, .str x, _ => .str x
  | _, _, .ty n, _ => .ty n
  | _, _, .tup h r, f => .tup (e.seqT h) (IsAll.keep e r f.tup_inv)
  | _, _, .ls _ _, f => f.no_ls.elim
  | _, _, .lst _ _, f => f.no_lst.elim
theorem IsAll.keep {K : PySem.W.Frag} {H H' : Hp} (e : KT H H') : ∀ {vs : List V} {ds : List D}, IsAll K H vs ds → (∀ d ∈ ds, Fz d) → IsAll K H' vs ds
  | _, _, .nil, _ => .nil
  | _, _, .cons h r, f => .cons (Is.keep e h (f _ List.mem_cons_self)) (IsAll.keep e r fun d hd => f d (List.mem_cons_of_mem _ hd))
end

abbrev Ro := List (Option D)
/-- a list of the def's own making stands in a slot -/
def Mu (ρ : Ro) (a : Addr) : Prop := ∃ (i : Nat) (ds : List D), ρ[i]? = some (some (.lst a ds))
/-- the frame's names hold these data; what was tracked at the entry is as it was; what is neither plain data nor a list of the def's own was there at the entry -/
structure RelS (X : Cx) (Hb H : Hp) (σ : L2.St) (ρ : Ro) : Prop where
  same : Same Hb H
  len : σ.length = ρ.length
  val : ∀ (i : Nat) (d : D), ρ[i]? = some (some d) → ∃ v, σ[i]? = some (some v) ∧ Is X.K H v d ∧ (Fz d ∨ Is X.K Hb v d ∨ ∃ a ds, d = .lst a ds ∧ ∀ e ∈ ds, Fz e)
  own : ∀ a, Mu ρ a → Hb a = none
theorem RelS.mono {X : Cx} {Hb H H' : Hp} {σ : L2.St} {ρ : Ro} (r : RelS X Hb H σ ρ) (e : Same H H') : RelS X Hb H' σ ρ :=
  ⟨r.same.trans e, r.len, fun i d h => let ⟨v, a, b, c⟩ := r.val i d h; ⟨v, a, b.mono e, c⟩, r.own⟩
theorem RelS.mu {X : Cx} {Hb H : Hp} {σ : L2.St} {ρ : Ro} (r : RelS X Hb H σ ρ) {a : Addr} (h : Mu ρ a) : ∃ xs, H a = some (.lst xs) := by
  obtain ⟨i, ds, e⟩ := h
  obtain ⟨v, _, h, _⟩ := r.val i _ e
  obtain ⟨_, xs, h, _⟩ := h.lst_inv
  exact ⟨xs, h⟩
theorem set_get {ρ : Ro} {n j : Nat} {d e : D} (h : (ρ.set n (some d))[j]? = some (some e)) : (j = n ∧ e = d ∧ n < ρ.length) ∨ (j ≠ n ∧ ρ[j]? = some (some e)) := by
  by_cases hji : n = j
  · subst hji
    rw [List.getElem?_set, if_pos rfl] at h
    by_cases hl : n < ρ.length
    · rw [if_pos hl] at h
      cases h
      exact .inl ⟨rfl, rfl, hl⟩
    · rw [if_neg hl] at h; cases h
  · rw [List.getElem?_set_ne hji] at h
    exact .inr ⟨fun z => hji z.symm, h⟩
theorem RelS.set {X : Cx} {Hb H : Hp} {σ : L2.St} {ρ : Ro} (r : RelS X Hb H σ ρ) {v : V} {d : D} (h : Is X.K H v d) (n : Nat) (hf : Fz d ∨ Is X.K Hb v d ∨ ∃ a ds, d = .lst a ds ∧ ∀ e ∈ ds, Fz e) (ho : ∀ a ds, d = .lst a ds → Hb a = none) :
    RelS X Hb H (σ.set n (some v)) (ρ.set n (some d)) := by
  refine ⟨r.same, by simp [r.len], fun j e hj => ?_, fun a ⟨j, ds, hj⟩ => ?_⟩
  · rcases set_get hj with ⟨rfl, rfl, hl⟩ | ⟨hne, hj⟩
    · refine ⟨v, ?_, h, hf⟩
      rw [List.getElem?_set, if_pos rfl, if_pos (by rw [r.len]; exact hl)]
    · obtain ⟨u, h1, h2⟩ := r.val j e hj
      exact ⟨u, by rw [List.getElem?_set_ne (fun z => hne z.symm)]; exact h1, h2⟩
  · rcases set_get hj with ⟨rfl, e, hl⟩ | ⟨hne, hj⟩
    · exact ho a ds e.symm
    · exact r.own a ⟨j, ds, hj⟩
/-- from one point of a body to a later one -/
structure Go (ρ : Ro) (H : Hp) (ρ' : Ro) (H' : Hp) : Prop where
  kept : ∀ b o, H b = some o → ¬ Mu ρ b → H' b = some o
  mu : ∀ a, Mu ρ' a → Mu ρ a ∨ H a = none
theorem Go.refl (ρ : Ro) (H : Hp) : Go ρ H ρ H := ⟨fun _ _ h _ => h, fun _ h => .inl h⟩
theorem Go.trans {ρ ρ1 ρ2 : Ro} {H H1 H2 : Hp} (a : Go ρ H ρ1 H1) (b : Go ρ1 H1 ρ2 H2) : Go ρ H ρ2 H2 where
  kept := fun c o h n => b.kept c o (a.kept c o h n) fun m => by
    rcases a.mu c m with z | z
    · exact n z
    · rw [h] at z; cases z
  mu := fun c m => by
    rcases b.mu c m with z | z
    · exact a.mu c z
    · by_cases hc : Mu ρ c
      · exact .inl hc
      · refine .inr ?_
        cases q : H c with
        | none => rfl
        | some o => rw [a.kept c o q hc] at z; cases z
theorem Go.same {ρ : Ro} {H H' : Hp} (e : Same H H') : Go ρ H ρ H' := ⟨fun b o h _ => e b o h, fun _ h => .inl h⟩
theorem Go.kt {X : Cx} {ρ ρ' : Ro} {Hb H H' : Hp} {σ : L2.St} (g : Go ρ H ρ' H') (r : RelS X Hb H σ ρ) : KT H H' :=
  ⟨fun b _ h => g.kept b _ h (fun m => by obtain ⟨ys, e⟩ := r.mu m; rw [h] at e; cases e), fun b _ _ h => g.kept b _ h (fun m => by obtain ⟨ys, e⟩ := r.mu m; rw [h] at e; cases e)⟩
theorem Go.set {ρ : Ro} {H H' : Hp} (e : Same H H') {d : D} {n : Nat} (hd : ∀ a ds, d = .lst a ds → Mu ρ a ∨ H a = none) : Go ρ H (ρ.set n (some d)) H' :=
  ⟨fun b o h _ => e b o h, fun a ⟨j, ds, hj⟩ => by
    rcases set_get hj with ⟨rfl, q, _⟩ | ⟨_, hj⟩
    · exact hd a ds q.symm
    · exact .inl ⟨j, ds, hj⟩⟩

/-- the names' data alone: what an expression needs -/
structure RelE (X : Cx) (H : Hp) (σ : L2.St) (ρ : Ro) : Prop where
  len : σ.length = ρ.length
  val : ∀ (i : Nat) (d : D), ρ[i]? = some (some d) → ∃ v, σ[i]? = some (some v) ∧ Is X.K H v d
theorem RelE.mono {X : Cx} {H H' : Hp} {σ : L2.St} {ρ : Ro} (r : RelE X H σ ρ) (e : Same H H') : RelE X H' σ ρ := ⟨r.len, fun i d h => let ⟨v, a, b⟩ := r.val i d h; ⟨v, a, b.mono e⟩⟩
theorem RelS.e {X : Cx} {Hb H : Hp} {σ : L2.St} {ρ : Ro} (r : RelS X Hb H σ ρ) : RelE X H σ ρ := ⟨r.len, fun i d h => let ⟨v, a, b, _⟩ := r.val i d h; ⟨v, a, b⟩⟩

/-- the int in a slot -/
def intAt (ρ : Ro) (i : Nat) : Int := match ρ[i]? with
  | some (some (D.int l)) => l
  | _ => 0

/-! ### the judgements -/
def tD (X : Cx) (ρ : Ro) (d : D) : TE := fun σ H Q => RelE X H σ ρ ∧ ∀ v H', Same H H' → Is X.K H' v d → Q v H'
def tB (X : Cx) (ρ : Ro) (b : Bool) : TT := fun σ H Q => RelE X H σ ρ ∧ ∀ H', Same H H' → Q b H'
def tDs (X : Cx) (ρ : Ro) (ds : List D) : TA := fun σ H Q => RelE X H σ ρ ∧ ∀ vs H', Same H H' → IsAll X.K H' vs ds → Q vs H'
def Ev (X : Cx) (e : Expr) (ρ : Ro) (d : D) : Prop := PE X e (tD X ρ d)
def Et (X : Cx) (e : Expr) (ρ : Ro) (b : Bool) : Prop := PT X e (tB X ρ b)
def Ew (X : Cx) (e : Expr) (ρ : Ro) (b : Bool) : Prop := PW X e (tB X ρ b)
def EvA (X : Cx) (es : List Expr) (ρ : Ro) (ds : List D) : Prop := PA X es (tDs X ρ ds)

section
variable {X : Cx} {e a b c : Expr} {es : List Expr} {ρ : Ro} {d : D} {ds : List D} {pos : Pos} {i j : Int} {k k' : Bool}

theorem Ev.tt {p : Prop} [Decidable p] (h : Ev X e ρ (.bl (decide p))) (hp : p) : Ev X e ρ (.bl true) := by rw [decide_eq_true hp] at h; exact h
theorem Ev.ff {p : Prop} [Decidable p] (h : Ev X e ρ (.bl (decide p))) (hp : ¬ p) : Ev X e ρ (.bl false) := by rw [decide_eq_false hp] at h; exact h
theorem Et.tt {p : Prop} [Decidable p] (h : Et X e ρ (decide p)) (hp : p) : Et X e ρ true := by rw [decide_eq_true hp] at h; exact h
theorem Et.ff' {p : Prop} [Decidable p] (h : Et X e ρ (decide p)) (hp : ¬ p) : Et X e ρ false := by rw [decide_eq_false hp] at h; exact h
/-- a != b where they are the same -/
theorem Et.ff {p : Prop} [Decidable p] (h : Et X e ρ (!decide p)) (hp : p) : Et X e ρ false := by rw [decide_eq_true hp] at h; exact h
theorem PE.imp {t t' : TE} (h : PE X e t) (f : ∀ σ H Q, t' σ H Q → t σ H Q) : PE X e t' := fun pins s σ H Q I q => h pins s σ H Q I (f σ H Q q)
theorem PT.imp {t t' : TT} (h : PT X e t) (f : ∀ σ H Q, t' σ H Q → t σ H Q) : PT X e t' := fun pins s σ H Q I q => h pins s σ H Q I (f σ H Q q)
theorem PW.imp {t t' : TT} (h : PW X e t) (f : ∀ σ H Q, t' σ H Q → t σ H Q) : PW X e t' := fun whole pins s σ H Q I q => h whole pins s σ H Q I (f σ H Q q)
theorem PA.imp {t t' : TA} (h : PA X es t) (f : ∀ σ H Q, t' σ H Q → t σ H Q) : PA X es t' := fun pos pins s σ H Q I q => h pos pins s σ H Q I (f σ H Q q)
theorem PS.imp {st : Stmt} {t t' : TS} (h : PS X st t) (f : ∀ D σ H, t' D σ H → t D σ H) : PS X st t' := fun pins s σ H D I q => h pins s σ H D I (f D σ H q)
theorem PSs.imp {st : List Stmt} {t t' : TS} (h : PSs X st t) (f : ∀ D σ H, t' D σ H → t D σ H) : PSs X st t' := fun pins s σ H D I q => h pins s σ H D I (f D σ H q)

theorem ev_v (n : Nat) {x : Str} (hρ : ρ[n]? = some (some d) := by rfl) (hN : X.N[n]? = some x := by rfl) (hv : Vis X.env.scope x := by first | exact Or.inl rfl | exact Or.inr (Or.inl rfl) | exact Or.inr (Or.inr rfl))
    (hd : (x == ("__debug__" : Str)) = false := by decide) (hcd : (x == ("__classdict__" : Str)) = false := by decide) : Ev X (.Name x pos) ρ d :=
  PE.imp (pe_var hN hv hd hcd) fun σ H Q ⟨r, q⟩ => let ⟨v, h1, h2⟩ := r.val n d hρ; ⟨v, h1, q v H (Same.refl H) h2⟩
theorem ev_int {z : Int} {m} : Ev X (.Constant (.int z) m pos) ρ (.int z) := PE.imp pe_int fun _ H _ ⟨_, q⟩ => q _ H (Same.refl H) (.int z)
theorem ev_bl {z : Bool} {m} : Ev X (.Constant (.bool z) m pos) ρ (.bl z) := PE.imp pe_bl fun _ H _ ⟨_, q⟩ => q _ H (Same.refl H) (.bl z)
/-- a built-in type by its name -/
theorem ev_ty {x : Str} {n : String} (hm : X.mg x = none) (hv : bootBuiltins x = some (.type n)) (hg : Gl X x := by rfl) (hn : x ≠ "__name__" := by decide) (hd : (x == ("__debug__" : Str)) = false := by decide) : Ev X (.Name x pos) ρ (.ty n) :=
  PE.imp (pe_bltn hg hm hv (v := .ty n) rfl hn hd) fun _ H _ ⟨_, q⟩ => q _ H (Same.refl H) (.ty n)

/-- two-place operations -/
theorem ev_op {op : Operator} {r : R2} {d1 d2 : D} (ho : OpR X (binaryOp op) r) (ha : Ev X a ρ d1) (hb : Ev X b ρ d2)
    (hr : ∀ v1 v2 H Q, Is X.K H v1 d1 → Is X.K H v2 d2 → (∀ v H', Same H H' → Is X.K H' v d → Q v H') → r v1 v2 H Q) : Ev X (.BinOp a op b pos) ρ d :=
  PE.imp (pe_op ho ha hb) fun σ H Q ⟨r, q⟩ => ⟨r, fun v1 H1 s1 h1 => ⟨r.mono s1, fun v2 H2 s2 h2 => hr v1 v2 H2 Q (h1.mono s2) h2 fun v H' s3 h3 => q v H' (s1.trans (s2.trans s3)) h3⟩⟩
theorem ev_cmp {op : CmpOp} {r : R2} {d1 d2 : D} (ho : OpR X (compareOp op) r) (ha : Ev X a ρ d1) (hb : Ev X b ρ d2) (hm : behindInMarks op b = false)
    (hr : ∀ v1 v2 H Q, Is X.K H v1 d1 → Is X.K H v2 d2 → (∀ v H', Same H H' → Is X.K H' v d → Q v H') → r v1 v2 H Q) : Ev X (.Compare a [op] [b] pos) ρ d :=
  PE.imp (pe_cmpR ho ha hb hm) fun σ H Q ⟨r, q⟩ => ⟨r, fun v1 H1 s1 h1 => ⟨r.mono s1, fun v2 H2 s2 h2 => hr v1 v2 H2 Q (h1.mono s2) h2 fun v H' s3 h3 => q v H' (s1.trans (s2.trans s3)) h3⟩⟩
theorem et_cmp {op : CmpOp} {r : R2} {d1 d2 : D} (ho : OpR X (compareOp op) r) (ha : Ev X a ρ d1) (hb : Ev X b ρ d2) (hm : behindInMarks op b = false)
    (hr : ∀ v1 v2 H Q, Is X.K H v1 d1 → Is X.K H v2 d2 → (∀ v H', Same H H' → Is X.K H' v (.bl k) → Q v H') → r v1 v2 H Q) : Et X (.Compare a [op] [b] pos) ρ k :=
  PT.imp (pt_cmpR ho ha hb hm) fun σ H Q ⟨r, q⟩ => ⟨r, fun v1 H1 s1 h1 => ⟨r.mono s1, fun v2 H2 s2 h2 => hr v1 v2 H2 _ (h1.mono s2) h2 fun v H' s3 h3 => ⟨k, h3.bl_inv, q H' (s1.trans (s2.trans s3))⟩⟩⟩

theorem rI_of {C : Int → Int → Prop} {g : Int → Int → V} (hC : C i j) (hg : ∀ H, Is X.K H (g i j) d) :
    ∀ v1 v2 H Q, Is X.K H v1 (.int i) → Is X.K H v2 (.int j) → (∀ v H', Same H H' → Is X.K H' v d → Q v H') → rI C g v1 v2 H Q :=
  fun _ _ H _ h1 h2 q => ⟨i, j, h1.int_inv, h2.int_inv, hC, q _ H (Same.refl H) (hg H)⟩
theorem rI0_of {g : Int → Int → V} (hg : ∀ H, Is X.K H (g i j) d) :
    ∀ v1 v2 H Q, Is X.K H v1 (.int i) → Is X.K H v2 (.int j) → (∀ v H', Same H H' → Is X.K H' v d → Q v H') → rI0 g v1 v2 H Q :=
  fun _ _ H _ h1 h2 q => ⟨i, j, h1.int_inv, h2.int_inv, q _ H (Same.refl H) (hg H)⟩

theorem ev_add (ha : Ev X a ρ (.int i)) (hb : Ev X b ρ (.int j)) : Ev X (.BinOp a .Add b pos) ρ (.int (i + j)) := ev_op op_add ha hb (rI0_of fun _ => .int _)
theorem ev_sub (ha : Ev X a ρ (.int i)) (hb : Ev X b ρ (.int j)) : Ev X (.BinOp a .Sub b pos) ρ (.int (i - j)) := ev_op op_sub ha hb (rI0_of fun _ => .int _)
theorem op_mulB : OpR X (binaryOp .Mult) (rI IntMulOk fun i j => .int (i * j)) := opI fun _ _ _ _ _ _ _ hc q => mul_int q hc

/-! ### sizes: a number below 2 ^ m, the exponent found by instances -/
class Bd (i : Int) (m : outParam Nat) : Prop where
  lt : Builtin.Int.intBits i ≤ m
theorem mulOk {i j : Int} {m n : Nat} (hi : Bd i m) (hj : Bd j n) (h : m + n ≤ 134217728) : IntMulOk i j := IntMulOk.of_le hi.lt hj.lt h
theorem ev_mul {m n : Nat} (ha : Ev X a ρ (.int i)) (hb : Ev X b ρ (.int j)) (hi : Bd i m) (hj : Bd j n) (h : m + n ≤ 134217728 := by decide) : Ev X (.BinOp a .Mult b pos) ρ (.int (i * j)) :=
  ev_op op_mulB ha hb (rI_of (mulOk hi hj h) fun _ => .int _)
theorem ev_mod (ha : Ev X a ρ (.int i)) (hb : Ev X b ρ (.int j)) (h : 0 < j) : Ev X (.BinOp a .Mod b pos) ρ (.int (i % j)) := ev_op op_mod ha hb (rI_of h fun _ => .int _)
def CDivB (_ j : Int) : Prop := 0 < j ∧ Builtin.Int.intBits j ≤ 9000
theorem op_fdivB : OpR X (binaryOp .FloorDiv) (rI CDivB fun i j => .int (i / j)) := opI fun i j _ _ _ _ _ hc q => by
  have h1 : (0 : Int) < j := hc.1
  refine floordiv_int (by omega) (by rw [Int.fdiv_eq_ediv_of_nonneg i (by omega)]; exact q) (.inl (PyProof.noPylong_of_log2 ?_))
  have h2 := intBits_le_iff.mp hc.2
  exact (Nat.log2_lt (by omega)).mpr h2
theorem ev_div {m : Nat} (ha : Ev X a ρ (.int i)) (hb : Ev X b ρ (.int j)) (h : 0 < j) (hj : Bd j m) (hm : m ≤ 9000 := by decide) : Ev X (.BinOp a .FloorDiv b pos) ρ (.int (i / j)) :=
  ev_op op_fdivB ha hb (rI_of ⟨h, Nat.le_trans hj.lt hm⟩ fun _ => .int _)
theorem ev_neg (ha : Ev X a ρ (.int i)) : Ev X (.UnaryOp .USub a pos) ρ (.int (-i)) :=
  PE.imp (pe_un un_neg ha) fun σ H Q ⟨r, q⟩ => ⟨r, fun v1 H1 s1 h1 => ⟨i, h1.int_inv, q _ H1 s1 (.int _)⟩⟩

theorem ev_lt (ha : Ev X a ρ (.int i)) (hb : Ev X b ρ (.int j)) : Ev X (.Compare a [.Lt] [b] pos) ρ (.bl (decide (i < j))) := ev_cmp op_lt ha hb (nomark _) (rI0_of fun _ => .bl _)
theorem ev_gt (ha : Ev X a ρ (.int i)) (hb : Ev X b ρ (.int j)) : Ev X (.Compare a [.Gt] [b] pos) ρ (.bl (decide (j < i))) := ev_cmp op_gt ha hb (nomark _) (rI0_of fun _ => .bl _)
theorem ev_ge (ha : Ev X a ρ (.int i)) (hb : Ev X b ρ (.int j)) : Ev X (.Compare a [.GtE] [b] pos) ρ (.bl (decide (j ≤ i))) := ev_cmp op_ge ha hb (nomark _) (rI0_of fun _ => .bl _)
theorem et_lt (ha : Ev X a ρ (.int i)) (hb : Ev X b ρ (.int j)) : Et X (.Compare a [.Lt] [b] pos) ρ (decide (i < j)) := et_cmp op_lt ha hb (nomark _) (rI0_of fun _ => .bl _)
theorem et_le (ha : Ev X a ρ (.int i)) (hb : Ev X b ρ (.int j)) : Et X (.Compare a [.LtE] [b] pos) ρ (decide (i ≤ j)) := et_cmp op_le ha hb (nomark _) (rI0_of fun _ => .bl _)
theorem et_gt (ha : Ev X a ρ (.int i)) (hb : Ev X b ρ (.int j)) : Et X (.Compare a [.Gt] [b] pos) ρ (decide (j < i)) := et_cmp op_gt ha hb (nomark _) (rI0_of fun _ => .bl _)
theorem dec_V {i j : Int} : decide (V.int i = V.int j) = decide (i = j) := by
  by_cases h : i = j
  · subst h; simp
  · rw [decide_eq_false h, decide_eq_false (fun z => h (V.int.inj z))]
theorem rEq_of : ∀ v1 v2 H Q, Is X.K H v1 (.int i) → Is X.K H v2 (.int j) → (∀ v H', Same H H' → Is X.K H' v (.bl (decide (i = j))) → Q v H') → rEq v1 v2 H Q := fun v1 v2 H Q h1 h2 q => by
  cases h1.int_inv; cases h2.int_inv
  exact ⟨rfl, by rw [dec_V]; exact q _ H (Same.refl H) (.bl _)⟩
theorem rNe_of : ∀ v1 v2 H Q, Is X.K H v1 (.int i) → Is X.K H v2 (.int j) → (∀ v H', Same H H' → Is X.K H' v (.bl (!decide (i = j))) → Q v H') → rNe v1 v2 H Q := fun v1 v2 H Q h1 h2 q => by
  cases h1.int_inv; cases h2.int_inv
  exact ⟨rfl, by rw [dec_V]; exact q _ H (Same.refl H) (.bl _)⟩
theorem ev_eq (ha : Ev X a ρ (.int i)) (hb : Ev X b ρ (.int j)) : Ev X (.Compare a [.Eq] [b] pos) ρ (.bl (decide (i = j))) := ev_cmp op_eq ha hb (nomark _) rEq_of
theorem et_eq (ha : Ev X a ρ (.int i)) (hb : Ev X b ρ (.int j)) : Et X (.Compare a [.Eq] [b] pos) ρ (decide (i = j)) := et_cmp op_eq ha hb (nomark _) rEq_of
theorem et_ne (ha : Ev X a ρ (.int i)) (hb : Ev X b ρ (.int j)) : Et X (.Compare a [.NotEq] [b] pos) ρ (!decide (i = j)) := et_cmp op_ne ha hb (nomark _) rNe_of
/-- is, is not beside True and False -/
def rIsB (f : Bool → Bool → Bool) : R2 := fun x y H Q => ∃ p q, x = .bl p ∧ y = .bl q ∧ Q (.bl (f p q)) H
theorem op_isB : OpR X (compareOp .Is) (rIsB fun p q => p == q) := by
  intro pins s σ H x y v u Q I rx ry h
  obtain ⟨p, q, rfl, rfl, h⟩ := h
  cases rx; cases ry
  exact is_bool ⟨.bl _, H, I, rfl, h⟩
theorem op_isnotB : OpR X (compareOp .IsNot) (rIsB fun p q => p != q) := by
  intro pins s σ H x y v u Q I rx ry h
  obtain ⟨p, q, rfl, rfl, h⟩ := h
  cases rx; cases ry
  exact isnot_bool ⟨.bl _, H, I, rfl, h⟩
theorem rIsB_of {f : Bool → Bool → Bool} : ∀ v1 v2 H Q, Is X.K H v1 (.bl k) → Is X.K H v2 (.bl k') → (∀ v H', Same H H' → Is X.K H' v (.bl (f k k')) → Q v H') → rIsB f v1 v2 H Q :=
  fun _ _ H _ h1 h2 q => ⟨k, k', h1.bl_inv, h2.bl_inv, q _ H (Same.refl H) (.bl _)⟩
theorem et_isnot (ha : Ev X a ρ (.bl k)) (hb : Ev X b ρ (.bl k')) : Et X (.Compare a [.IsNot] [b] pos) ρ (k != k') := et_cmp op_isnotB ha hb (nomark _) rIsB_of

theorem ev_is (ha : Ev X a ρ (.bl k)) (hb : Ev X b ρ (.bl k')) : Ev X (.Compare a [.Is] [b] pos) ρ (.bl (k == k')) := ev_cmp op_isB ha hb (nomark _) rIsB_of
/-! ### truth -/
theorem et_val (h : Ev X e ρ (.bl k)) (he : ∀ whole, isTrue e X.env whole = (do let v ← whole; standAt e.pos; holding [v] (truthy v)) := by intro _; rfl) : Et X e ρ k :=
  PT.imp (pt_val h he) fun σ H Q ⟨r, q⟩ => ⟨r, fun v H' s h => ⟨k, h.bl_inv, q H' s⟩⟩
theorem et_not (h : Et X a ρ k) : Et X (.UnaryOp .Not a pos) ρ (!k) := PT.imp (pt_not h) fun σ H Q ⟨r, q⟩ => ⟨r, fun H' s => q H' s⟩
theorem et_notT (h : Et X a ρ true) : Et X (.UnaryOp .Not a pos) ρ false := et_not h
theorem et_notF (h : Et X a ρ false) : Et X (.UnaryOp .Not a pos) ρ true := et_not h
theorem ew_and1 (h : Et X a ρ k) : Ew X (.BoolOp .And [a] pos) ρ k := PW.imp (pw_and1 h) fun _ _ _ q => q
theorem ew_or1 (h : Et X a ρ k) : Ew X (.BoolOp .Or [a] pos) ρ k := PW.imp (pw_or1 h) fun _ _ _ q => q
theorem ew_andF {rest : List Expr} (h : Et X a ρ false) : Ew X (.BoolOp .And (a :: b :: rest) pos) ρ false :=
  PW.imp (pw_and (tB' := fun _ _ _ => False) h (fun _ _ _ _ _ _ _ z => z.elim)) fun σ H Q ⟨r, q⟩ => ⟨r, fun H' s => iteF (q H' s)⟩
theorem ew_andT {rest : List Expr} (h : Et X a ρ true) (h2 : Ew X (.BoolOp .And (b :: rest) pos) ρ k) : Ew X (.BoolOp .And (a :: b :: rest) pos) ρ k :=
  PW.imp (pw_and h h2) fun σ H Q ⟨r, q⟩ => ⟨r, fun H' s => iteT ⟨r.mono s, fun H'' s' => q H'' (s.trans s')⟩⟩
theorem ew_and {rest : List Expr} (h : Et X a ρ k) (h2 : k = true → Ew X (.BoolOp .And (b :: rest) pos) ρ k') : Ew X (.BoolOp .And (a :: b :: rest) pos) ρ (k && k') := by
  cases k with
  | false => exact ew_andF h
  | true => exact ew_andT h (h2 rfl)
theorem ew_orT {rest : List Expr} (h : Et X a ρ true) : Ew X (.BoolOp .Or (a :: b :: rest) pos) ρ true :=
  PW.imp (pw_or (tB' := fun _ _ _ => False) h (fun _ _ _ _ _ _ _ z => z.elim)) fun σ H Q ⟨r, q⟩ => ⟨r, fun H' s => iteT (q H' s)⟩
theorem ew_orF {rest : List Expr} (h : Et X a ρ false) (h2 : Ew X (.BoolOp .Or (b :: rest) pos) ρ k) : Ew X (.BoolOp .Or (a :: b :: rest) pos) ρ k :=
  PW.imp (pw_or h h2) fun σ H Q ⟨r, q⟩ => ⟨r, fun H' s => iteF ⟨r.mono s, fun H'' s' => q H'' (s.trans s')⟩⟩
theorem ew_or {rest : List Expr} (h : Et X a ρ k) (h2 : k = false → Ew X (.BoolOp .Or (b :: rest) pos) ρ k') : Ew X (.BoolOp .Or (a :: b :: rest) pos) ρ (k || k') := by
  cases k with
  | true => exact ew_orT h
  | false => exact ew_orF h (h2 rfl)
theorem Ew.to (h : Ew X e ρ k) (z : k = k') : Ew X e ρ k' := z ▸ h
theorem Et.to (h : Et X e ρ k) (z : k = k') : Et X e ρ k' := z ▸ h
theorem Ev.to {d' : D} (h : Ev X e ρ d) (z : d = d') : Ev X e ρ d' := z ▸ h
theorem et_w (h : Ew X e ρ k) : Et X e ρ k := PW.pt h
/-- and, or, not as values -/
theorem ev_one {op} (h : Ev X a ρ d) : Ev X (.BoolOp op [a] pos) ρ d := pe_one h
theorem ev_andT {rest : List Expr} (h : Ev X a ρ (.bl true)) (h2 : Ev X (.BoolOp .And (b :: rest) pos) ρ d) : Ev X (.BoolOp .And (a :: b :: rest) pos) ρ d :=
  PE.imp (pe_and h h2) fun σ H Q ⟨r, q⟩ => ⟨r, fun v H' s h => ⟨true, h.bl_inv, iteT ⟨r.mono s, fun v' H'' s' h' => q v' H'' (s.trans s') h'⟩⟩⟩
theorem ev_orT {rest : List Expr} (h : Ev X a ρ (.bl true)) : Ev X (.BoolOp .Or (a :: b :: rest) pos) ρ (.bl true) :=
  PE.imp (pe_or (tb := fun _ _ _ => False) h (fun _ _ _ _ _ _ z => z.elim)) fun σ H Q ⟨r, q⟩ => ⟨r, fun v H' s h => ⟨true, h.bl_inv, iteT (q _ H' s (.bl true))⟩⟩
theorem ev_orF {rest : List Expr} (h : Ev X a ρ (.bl false)) (h2 : Ev X (.BoolOp .Or (b :: rest) pos) ρ d) : Ev X (.BoolOp .Or (a :: b :: rest) pos) ρ d :=
  PE.imp (pe_or h h2) fun σ H Q ⟨r, q⟩ => ⟨r, fun v H' s h => ⟨false, h.bl_inv, iteF ⟨r.mono s, fun v' H'' s' h' => q v' H'' (s.trans s') h'⟩⟩⟩
theorem ev_or {rest : List Expr} (h : Ev X a ρ (.bl k)) (h2 : k = false → Ev X (.BoolOp .Or (b :: rest) pos) ρ (.bl k')) : Ev X (.BoolOp .Or (a :: b :: rest) pos) ρ (.bl (k || k')) := by
  cases k with
  | true => exact ev_orT h
  | false => exact ev_orF h (h2 rfl)
theorem ev_not (h : Ev X a ρ (.bl k)) : Ev X (.UnaryOp .Not a pos) ρ (.bl (!k)) :=
  PE.imp (pe_not h) fun σ H Q ⟨r, q⟩ => ⟨r, fun v H' s h => ⟨k, h.bl_inv, q _ H' s (.bl _)⟩⟩
theorem ev_notF (h : Ev X a ρ (.bl false)) : Ev X (.UnaryOp .Not a pos) ρ (.bl true) := ev_not h
/-! ### arguments, tuples, indexes -/
theorem ea_nil : EvA X [] ρ [] := PA.imp pa_nil fun _ H _ ⟨_, q⟩ => q [] H (Same.refl H) .nil
theorem ea_cons (ha : Ev X e ρ d) (hr : EvA X es ρ ds) (hs : starEach (e :: es) X.env = (false, eval e X.env) :: starEach es X.env := by rfl) : EvA X (e :: es) ρ (d :: ds) :=
  PA.imp (pa_cons ha hr hs) fun σ H Q ⟨r, q⟩ => ⟨r, fun v H1 s1 h1 => ⟨r.mono s1, fun vs H2 s2 h2 => q _ H2 (s1.trans s2) (.cons (h1.mono s2) h2)⟩⟩
theorem same_new {H : Hp} {p : Addr} {o : HO} (h : H p = none) : Same H (upd H p o) := fun b u e => by
  rw [upd_ne (ne_of_none e h)]; exact e
theorem ev_tup {m} (h : EvA X es ρ ds) (hl : ds.length ≤ 1000 := by exact Nat.le_of_ble_eq_true rfl) : Ev X (.Tuple es m pos) ρ (.tup ds) :=
  PE.imp (pe_tup h) fun σ H Q ⟨r, q⟩ => ⟨r, fun vs H1 s1 h1 => ⟨by rw [h1.length]; exact Nat.le_of_lt (small1000 hl), fun p hp => q _ _ (s1.trans (same_new hp)) (.tup (.of upd_same) (h1.mono (same_new hp)))⟩⟩
theorem atI_map {K : PySem.W.Frag} {H : Hp} {vs : List V} {ds : List D} (h : IsAll K H vs ds) {d : D} (e : atI ds i = some d) : ∃ v, atI vs i = some v ∧ Is K H v d := by
  unfold atI at e ⊢
  rw [h.length]
  cases q : ixN ds.length i with
  | none => rw [q] at e; cases e
  | some n =>
    rw [q] at e
    exact h.get (i := n) e
theorem ev_ix (ha : Ev X a ρ (.tup ds)) (hb : Ev X b ρ (.int i)) (hi : atI ds i = some d) (hs : PlainIx b := by exact fun _ _ => rfl) : Ev X (.Subscript a b pos) ρ d :=
  PE.imp (pe_ix ix_tup ha hb hs) fun σ H Q ⟨r, q⟩ => ⟨r, fun v1 H1 s1 h1 => ⟨r.mono s1, fun v2 H2 s2 h2 => by
    obtain ⟨p, xs, rfl, h3, h4⟩ := (h1.mono s2).tup_inv
    obtain ⟨v, e, h5⟩ := atI_map h4 hi
    exact ⟨p, xs, i, v, rfl, h2.int_inv, h3, e, q v H2 (s1.trans s2) h5⟩⟩⟩
theorem ev_ixl {d' : D} (ha : Ev X a ρ d') (hl : lsD d' = some ds) (hb : Ev X b ρ (.int i)) (hi : atI ds i = some d) (hs : PlainIx b := by exact fun _ _ => rfl) : Ev X (.Subscript a b pos) ρ d :=
  PE.imp (pe_ix ix_list ha hb hs) fun σ H Q ⟨r, q⟩ => ⟨r, fun v1 H1 s1 h1 => ⟨r.mono s1, fun v2 H2 s2 h2 => by
    obtain ⟨l, xs, rfl, h3, h4⟩ := (h1.mono s2).lsD_inv hl
    obtain ⟨v, e, h5⟩ := atI_map h4 hi
    exact ⟨l, xs, i, v, rfl, h2.int_inv, h3, e, q v H2 (s1.trans s2) h5⟩⟩⟩

/-! ### built-in functions -/
theorem ev_callB {x : Str} {id : String} {r : List V → Hp → VK → Prop} (hc : CallR X (.builtin id) r) (hm : X.mg x = none) (hv : bootBuiltins x = some (.builtin id)) (ha : EvA X (e :: es) ρ ds)
    (hr : ∀ vs H Q, IsAll X.K H vs ds → (∀ v H', Same H H' → Is X.K H' v d → Q v H') → r vs H Q)
    (hg : Gl X x := by rfl) (hn : x ≠ "__name__" := by decide) (hdb : (x == ("__debug__" : Str)) = false := by decide)
    (he : starEach (e :: es) X.env = (false, eval e X.env) :: starEach es X.env := by rfl) (hpl : (backTo pos (starEach es X.env)).any (·.1) = false := by rfl) {p : Pos} : Ev X (.Call (.Name x p) (e :: es) [] pos) ρ d :=
  PE.imp (pe_callB hc hg hm hv ha hn hdb he hpl) fun σ H Q ⟨r, q⟩ => ⟨r, fun vs H1 s1 h1 => hr vs H1 Q h1 fun v H' s' h => q v H' (s1.trans s') h⟩
theorem one_inv {K : PySem.W.Frag} {H : Hp} {vs : List V} {d : D} (h : IsAll K H vs [d]) : ∃ v, vs = [v] ∧ Is K H v d := by
  cases h with
  | cons h r => cases r; exact ⟨_, rfl, h⟩
theorem two_inv {K : PySem.W.Frag} {H : Hp} {vs : List V} {d d' : D} (h : IsAll K H vs [d, d']) : ∃ v v', vs = [v, v'] ∧ Is K H v d ∧ Is K H v' d' := by
  cases h with
  | cons h r =>
    obtain ⟨v', rfl, h'⟩ := one_inv r
    exact ⟨_, _, rfl, h, h'⟩
def lenD : D → Option Nat
  | .tup ds => some ds.length
  | .ls ds => some ds.length
  | .lst _ ds => some ds.length
  | .str x => if x.length ≤ 16777216 then some x.length else none
  | _ => none
theorem ev_len {p : Pos} {n : Nat} (hm : X.mg "len" = none) (ha : Ev X a ρ d) (hl : lenD d = some n) (hg : Gl X "len" := by rfl) (he : starEach [a] X.env = [(false, eval a X.env)] := by rfl) : Ev X (.Call (.Name "len" p) [a] [] pos) ρ (.int (n : Int)) :=
  ev_callB call_len hm (by decide +kernel) (ea_cons ha ea_nil he) (fun vs H Q h0 q => by
    obtain ⟨v, rfl, h⟩ := one_inv h0
    refine ⟨v, n, rfl, ?_, q _ H (Same.refl H) (.int _)⟩
    cases d with
    | tup ds =>
      obtain ⟨a, xs, rfl, h1, h2⟩ := h.tup_inv
      cases hl
      exact .inr ⟨xs, h1, h2.length.symm⟩
    | ls ds =>
      obtain ⟨a, xs, rfl, h1, h2⟩ := h.ls_inv
      cases hl
      exact .inl ⟨xs, h1, h2.length.symm⟩
    | lst a ds =>
      obtain ⟨rfl, xs, h1, h2⟩ := h.lst_inv
      cases hl
      exact .inl ⟨xs, .of h1, h2.length.symm⟩
    | str x =>
      cases h.str_inv
      have hl' : (if x.length ≤ 16777216 then some x.length else none) = some n := hl
      by_cases hx : x.length ≤ 16777216
      · rw [if_pos hx] at hl'
        cases hl'
        exact ⟨by rw [sizeLine_eq]; exact hx, rfl⟩
      · rw [if_neg hx] at hl'
        cases hl'
    | _ => cases hl) hg (by decide) (by decide) he rfl
end

/-! ### isinstance -/
def tyD : D → Option String
  | .non => some "NoneType"
  | .bl _ => some "bool"
  | .int _ => some "int"
  | .str _ => some "str"
  | .tup _ => some "tuple"
  | .ls _ => some "list"
  | .lst _ _ => some "list"
  | .ty _ => none
theorem call_isi {X : Cx} {d : D} {T U : String} {k : Bool} (ht : tyD d = some T) (hk : PySem.W.kitOne X.K (.type T) (.type U) = some k) :
    CallR X (.builtin "isinstance") (fun vs H Q => ∃ v, vs = [v, .ty U] ∧ Is X.K H v d ∧ Q (.bl k) H) := by
  intro pins s σ H xs us Q I r h
  obtain ⟨v, rfl, h, q⟩ := h
  obtain ⟨u, w', rfl, rx, ry⟩ := vals2 r
  cases ry
  have fin : ∀ tk, EP X pins σ Q (.bool k) { s with toks := tk } := fun tk => ⟨.bl k, H, I.tok tk, rfl, q⟩
  cases d with
  | non => cases h.non_inv; cases ht; exact isinst_ok I rx .non hk fin
  | bl b => cases h.bl_inv; cases ht; exact isinst_ok I rx (.bl b) hk fin
  | int i => cases h.int_inv; cases ht; exact isinst_ok I rx (.int i) hk fin
  | str x => cases h.str_inv; cases ht; exact isinst_ok I rx (.str x) hk fin
  | tup ds =>
    obtain ⟨a, xs, rfl, h1, _⟩ := h.tup_inv
    cases ht
    cases rx
    obtain ⟨its, _, ⟨o, e1, e2, _⟩, _⟩ := I.tuple h1
    exact PySem.W.kia_one PySem.W.kitx_tuple I.kIn ⟨o, e1, e2⟩ hk (fun z => nomatch z) fin
  | ls ds =>
    obtain ⟨a, xs, rfl, h1, _⟩ := h.ls_inv
    cases ht
    cases rx
    obtain ⟨its, _, p, _⟩ := I.list h1
    obtain ⟨o, e1, e2, _⟩ := p.isList
    exact PySem.W.kia_one PySem.W.kitx_list I.kIn ⟨o, e1, e2⟩ hk (fun z => nomatch z) fin
  | lst a ds =>
    obtain ⟨rfl, xs, h1, _⟩ := h.lst_inv
    cases ht
    cases rx
    obtain ⟨its, _, p, _⟩ := I.list (.of h1)
    obtain ⟨o, e1, e2, _⟩ := p.isList
    exact PySem.W.kia_one PySem.W.kitx_list I.kIn ⟨o, e1, e2⟩ hk (fun z => nomatch z) fin
  | ty n => cases ht
section
variable {X : Cx} {e a b c : Expr} {es : List Expr} {ρ : Ro} {d : D} {ds : List D} {pos : Pos} {i j : Int} {k k' : Bool}
theorem ev_isi {x : Str} {U T : String} {p p2 : Pos} (hm : X.mg "isinstance" = none) (ha : Ev X a ρ d) (hmT : X.mg x = none) (hv : bootBuiltins x = some (.type U)) (ht : tyD d = some T) (hk : PySem.W.kitOne X.K (.type T) (.type U) = some k)
    (hg : Gl X "isinstance" := by rfl) (hgT : Gl X x := by rfl) (hn : x ≠ "__name__" := by decide) (hd : (x == ("__debug__" : Str)) = false := by decide)
    (he : starEach [a, .Name x p2] X.env = [(false, eval a X.env), (false, eval (.Name x p2) X.env)] := by rfl) (hb : (backTo pos (starEach [.Name x p2] X.env)).any (·.1) = false := by rfl) :
    Ev X (.Call (.Name "isinstance" p) [a, .Name x p2] [] pos) ρ (.bl k) :=
  ev_callB (call_isi ht hk) hm (by decide +kernel) (ea_cons ha (ea_cons (ev_ty hmT hv hgT hn hd) ea_nil) he) (fun vs H Q h q => by
    obtain ⟨v, v', rfl, h1, h2⟩ := two_inv h
    cases h2.ty_inv
    exact ⟨v, rfl, h1, q _ H (Same.refl H) (.bl k)⟩) hg (by decide) (by decide) he hb
end
end FL

/-! FS: statements and defs over data -/
namespace FL
open PySem PySem.Spec PyProof.Rows L2

/-- what is wanted behind statements -/
structure Po where
  nx : Ro → Prop
  rt : D → Prop
  bk : Ro → Prop := fun _ => False
  ct : Ro → Prop := fun _ => False
def tPo (X : Cx) (ρ : Ro) (P : Po) : TS := fun D σ H => RelS X X.H₀ H σ ρ ∧ (∀ σ' H' ρ', Go ρ H ρ' H' → RelS X X.H₀ H' σ' ρ' → P.nx ρ' → D.nx σ' H') ∧ (∀ v H' d, Same X.H₀ H' → Is X.K H' v d → (∀ a es, d = .lst a es → X.H₀ a = none) → P.rt d → D.rt v H') ∧
  (∀ σ' H' ρ', Go ρ H ρ' H' → RelS X X.H₀ H' σ' ρ' → P.bk ρ' → D.bk σ' H') ∧ (∀ σ' H' ρ', Go ρ H ρ' H' → RelS X X.H₀ H' σ' ρ' → P.ct ρ' → D.ct σ' H')
def Do (X : Cx) (sts : List Stmt) (ρ : Ro) (P : Po) : Prop := PSs X sts (tPo X ρ P)

section
variable {X : Cx} {e a b c : Expr} {es : List Expr} {ρ : Ro} {d : D} {ds : List D} {pos : Pos} {i j : Int} {k k' : Bool} {rest A B : List Stmt} {P : Po} {st : Stmt}

theorem do_nil (h : P.nx ρ) : Do X [] ρ P := PSs.imp pss_nil fun D σ H ⟨r, q, _⟩ => q σ H ρ (Go.refl ρ H) r h
theorem Do.mono {Q : Po} (h : Do X A ρ P) (h1 : ∀ ρ, P.nx ρ → Q.nx ρ) (h2 : ∀ d, P.rt d → Q.rt d) (h3 : ∀ ρ, P.bk ρ → Q.bk ρ) (h4 : ∀ ρ, P.ct ρ → Q.ct ρ) : Do X A ρ Q :=
  PSs.imp h fun D σ H ⟨r, q1, q2, q3, q4⟩ => ⟨r, fun σ' H' ρ' g r' p => q1 σ' H' ρ' g r' (h1 _ p), fun v H' d s i o p => q2 v H' d s i o (h2 _ p), fun σ' H' ρ' g r' p => q3 σ' H' ρ' g r' (h3 _ p), fun σ' H' ρ' g r' p => q4 σ' H' ρ' g r' (h4 _ p)⟩
/-- a statement, then the rest: M holds between -/
theorem do_seq {M : Ro → Prop} (h1 : PS X st (tPo X ρ { P with nx := M })) (h2 : ∀ ρ', M ρ' → Do X rest ρ' P) : Do X (st :: rest) ρ P := by
  refine PSs.imp (pss_cons (u := fun D σ H => ∃ ρ', M ρ' ∧ tPo X ρ' P D σ H) h1 (fun pins s σ H D I ⟨ρ', m, q⟩ => h2 ρ' m pins s σ H D I q)) ?_
  rintro D σ H ⟨r, q1, q2, q3, q4⟩
  exact ⟨r, fun σ' H' ρ' g r' m => ⟨ρ', m, r', fun σ2 H2 ρ2 g2 => q1 σ2 H2 ρ2 (g.trans g2), q2, fun σ2 H2 ρ2 g2 => q3 σ2 H2 ρ2 (g.trans g2), fun σ2 H2 ρ2 g2 => q4 σ2 H2 ρ2 (g.trans g2)⟩, q2, q3, q4⟩
theorem do_ret (he : Ev X e ρ d) (h : P.rt d) (hn : ∀ a es, d = .lst a es → Mu ρ a := by intro _ _ z; cases z) : Do X (.Return (some e) pos :: rest) ρ P := by
  refine PSs.imp (pss_cons (u := tNever) (ps_ret he) pss_never) ?_
  rintro D σ H ⟨r, q1, q2, q3, q4⟩
  exact ⟨r.e, fun v H' s h' => q2 v H' d (r.same.trans s) h' (fun a es z => r.own a (hn a es z)) h⟩
theorem do_set (n : Nat) {x : Str} {pos' : Pos} (he : Ev X e ρ d) (hz : Fz d) (h : Do X rest (ρ.set n (some d)) P) (hN : X.N.Nodup) (hi : X.N[n]? = some x := by rfl) (hx : Loc X.env.scope x := by first | exact Or.inl rfl | exact Or.inr rfl)
    (hs : swapsWith e (some (.Name x pos')) pos.line X.env = pure false := by rfl) (hf : X.fn x = true ∨ X.env.scope.names.lookup x = some .local := by first | exact .inl rfl | exact .inr rfl) : Do X (.Assign [.Name x pos'] e pos :: rest) ρ P := by
  refine do_seq (M := fun ρ' => ρ' = ρ.set n (some d)) (PS.imp (ps_set hN hi hx he hs hf) ?_) (fun _ z => z ▸ h)
  rintro D σ H ⟨r, q1, q2, q3, q4⟩
  have no : ∀ a ds, d = .lst a ds → False := fun a ds z => by subst z; cases hz
  exact ⟨r.e, fun v H' s h' => q1 _ H' _ (Go.set s fun a ds z => (no a ds z).elim) ((r.mono s).set h' n (.inl hz) fun a ds z => (no a ds z).elim) rfl⟩
theorem do_expr (he : Ev X e ρ d) (h : Do X rest ρ P) (hs : swapsWith e none pos.line X.env = pure false := by rfl) : Do X (.Expr e pos :: rest) ρ P := by
  refine do_seq (M := fun ρ' => ρ' = ρ) (PS.imp (ps_expr he hs) ?_) (fun _ z => z ▸ h)
  rintro D σ H ⟨r, q1, q2, q3, q4⟩
  exact ⟨r.e, fun v H' s h' => q1 _ H' _ (Go.same s) (r.mono s) rfl⟩
/-- if: M holds between the two ways' ends and the rest -/
theorem do_if (M : Ro → Prop) (hc : Et X c ρ k) (hA : k = true → Do X A ρ { P with nx := M }) (hB : k = false → Do X B ρ { P with nx := M }) (h : ∀ ρ', M ρ' → Do X rest ρ' P) : Do X (.If c A B pos :: rest) ρ P := by
  refine do_seq (M := M) (PS.imp (ps_if hc (t := fun D σ H => k = true ∧ tPo X ρ { P with nx := M } D σ H) (u := fun D σ H => k = false ∧ tPo X ρ { P with nx := M } D σ H)
    (fun pins s σ H D I ⟨z, q⟩ => hA z pins s σ H D I q) (fun pins s σ H D I ⟨z, q⟩ => hB z pins s σ H D I q)) ?_) h
  rintro D σ H ⟨r, q1, q2, q3, q4⟩
  refine ⟨r.e, fun H' s => ?_⟩
  have q : tPo X ρ { P with nx := M } D σ H' := ⟨r.mono s, fun σ2 H2 ρ2 g2 => q1 σ2 H2 ρ2 ((Go.same s).trans g2), q2, fun σ2 H2 ρ2 g2 => q3 σ2 H2 ρ2 ((Go.same s).trans g2), fun σ2 H2 ρ2 g2 => q4 σ2 H2 ρ2 ((Go.same s).trans g2)⟩
  cases k with
  | true => exact iteT ⟨rfl, q⟩
  | false => exact iteF ⟨rfl, q⟩
/-- the test is false and there is no else -/
theorem do_ifF (hc : Et X c ρ false) (h : Do X rest ρ P) : Do X (.If c A [] pos :: rest) ρ P :=
  do_if (fun ρ' => ρ' = ρ) hc (fun z => by cases z) (fun _ => do_nil rfl) (fun _ z => z ▸ h)
/-- the way through the suite leaves -/
theorem do_ifR (hc : Et X c ρ k) (hA : k = true → Do X A ρ { P with nx := fun _ => False }) (h : k = false → Do X rest ρ P) : Do X (.If c A [] pos :: rest) ρ P :=
  do_if (fun ρ' => ρ' = ρ ∧ k = false) hc (fun z => (hA z).mono (fun _ f => f.elim) (fun _ p => p) (fun _ p => p) (fun _ p => p)) (fun z => do_nil ⟨rfl, z⟩) (fun _ z => z.1 ▸ h z.2)
/-- while -/
theorem do_while (Iv M : Ro → Prop) (μ : Ro → Nat) (hp : PassesOwn (model X.prog X.w) X.A X.env X.xe) (h0 : Iv ρ)
    (hs : ∀ ρ, Iv ρ → ∃ k, Et X c ρ k ∧ (k = true → Do X A ρ { nx := fun ρ' => Iv ρ' ∧ μ ρ' < μ ρ, rt := P.rt, bk := M, ct := fun ρ' => Iv ρ' ∧ μ ρ' < μ ρ }) ∧ (k = false → M ρ))
    (h : ∀ ρ', M ρ' → Do X rest ρ' P) : Do X (.While c A [] pos :: rest) ρ P := by
  refine do_seq (M := M) ?_ h
  have hc : PT X c (fun σ H Q => ∃ ρ k, Et X c ρ k ∧ tB X ρ k σ H Q) := fun pins s σ H Q I ⟨ρ, k, e, q⟩ => e pins s σ H Q I q
  have hb : PSs X A (fun D σ H => ∃ ρ, Do X A ρ { nx := fun ρ' => Iv ρ' ∧ μ ρ' < μ ρ, rt := P.rt, bk := M, ct := fun ρ' => Iv ρ' ∧ μ ρ' < μ ρ } ∧ tPo X ρ { nx := fun ρ' => Iv ρ' ∧ μ ρ' < μ ρ, rt := P.rt, bk := M, ct := fun ρ' => Iv ρ' ∧ μ ρ' < μ ρ } D σ H) :=
    fun pins s σ H D I ⟨ρ, e, q⟩ => e pins s σ H D I q
  refine PS.imp (ps_while hp hc hb) ?_
  rintro D σ H ⟨r, q1, q2, q3, q4⟩
  refine ⟨fun m σ' H' => ∃ ρ', m = μ ρ' ∧ Iv ρ' ∧ RelS X X.H₀ H' σ' ρ' ∧ Go ρ H ρ' H', ⟨_, ρ, rfl, h0, r, Go.refl ρ H⟩, ?_⟩
  rintro m σ1 H1 ⟨ρ1, rfl, iv, r1, g1⟩
  obtain ⟨k, et, ht, hf⟩ := hs ρ1 iv
  refine ⟨ρ1, k, et, r1.e, fun H2 s => ?_⟩
  have g2 : Go ρ H ρ1 H2 := g1.trans (Go.same s)
  cases k with
  | true =>
    refine iteT ⟨fun σ' H' => ∃ ρ', Iv ρ' ∧ μ ρ' < μ ρ1 ∧ RelS X X.H₀ H' σ' ρ' ∧ Go ρ H ρ' H', fun σ' H' ⟨ρ', a, b, c, g⟩ => ⟨_, b, ρ', rfl, a, c, g⟩, ρ1, ht rfl, r1.mono s, ?_, q2, ?_, ?_⟩
    · exact fun σ' H' ρ' g r' ⟨a, b⟩ => ⟨ρ', a, b, r', g2.trans g⟩
    · exact fun σ' H' ρ' g r' m => q1 σ' H' ρ' (g2.trans g) r' m
    · exact fun σ' H' ρ' g r' ⟨a, b⟩ => ⟨ρ', a, b, r', g2.trans g⟩
  | false => exact iteF (q1 σ1 H2 ρ1 g2 (r1.mono s) (hf rfl))

end

/-! ### defs -/
/-- a def's promise over data: at arguments ds it hands back d where Pf ds d -/
def SpD (K : PySem.W.Frag) (Pf : List D → D → Prop) : Sp := fun vs H Q _ => ∃ ds d, IsAll K H vs ds ∧ Pf ds d ∧ ∀ v H', Same H H' → Is K H' v d → Q v H'
/-- a def of the text that may be called by its name -/
def Fn (P : Program) (w : World) (K : PySem.W.Frag) (mg : Str → Option Value) (base : Heap) (k : Nat) (x : Str) (Pf : List D → D → Prop) : Prop :=
  ∃ f fd ps, FnOk P w K mg base CX0 k f fd ps (SpD K Pf) ∧ mg x = some (.ref f) ∧ PySem.W.keepIn K (.ref f) = true ∧ Binds K fd ps []
section
variable {X : Cx} {e a b c : Expr} {es : List Expr} {ρ : Ro} {d : D} {ds : List D} {pos : Pos}
theorem ev_call {k : Nat} {x : Str} {Pf : List D → D → Prop} {p : Pos} (C : Fn X.prog X.w X.K X.mg X.base k x Pf) (hr : Room k X.A) (ha : EvA X (e :: es) ρ ds) (hp : Pf ds d) (hg : Gl X x := by rfl) (hdb : (x == ("__debug__" : Str)) = false := by decide)
    (he : starEach (e :: es) X.env = (false, eval e X.env) :: starEach es X.env := by rfl) (hpl : (backTo pos (starEach es X.env)).any (·.1) = false := by rfl) : Ev X (.Call (.Name x p) (e :: es) [] pos) ρ d := by
  obtain ⟨f, fd, ps, F, hm, hk, hb⟩ := C
  refine PE.imp (pe_call F hr hg hm hk hb .nil pass0 ha hdb he hpl) ?_
  rintro σ H Q ⟨r, q⟩
  refine ⟨r, fun vs H1 s1 h1 => ⟨ds, d, ?_, hp, fun v H' s' h' => q v H' (s1.trans s') h'⟩⟩
  rw [List.append_nil]
  exact h1
end
section
variable {P : Program} {w : World} {K : PySem.W.Frag} {mg : Str → Option Value} {base : Heap}
theorem relS_start {X : Cx} {N : List Str} {vs : List V} {ds : List D} (h : IsAll X.K X.H₀ vs ds) (nl : ∀ a es, D.lst a es ∉ ds) : RelS X X.H₀ X.H₀ (L2.start N vs) (ds.map some ++ List.replicate (N.length - ds.length) none) := by
  refine ⟨Same.refl _, ?_, fun i d e => ?_, fun a ⟨i, es, e⟩ => ?_⟩
  · unfold L2.start
    simp [h.length]
  · have hi : ds[i]? = some d := by
      by_cases hl : i < ds.length
      · rw [List.getElem?_append_left (by simpa using hl), List.getElem?_map] at e
        cases q : ds[i]? with
        | none => rw [q] at e; cases e
        | some z => rw [q] at e; cases e; rfl
      · rw [List.getElem?_append_right (by simpa using hl), List.getElem?_replicate] at e
        split at e <;> cases e
    obtain ⟨v, e1, h1⟩ := h.get hi
    refine ⟨v, ?_, h1, .inr (.inl h1)⟩
    unfold L2.start
    have hl : i < vs.length := (List.getElem?_eq_some_iff.mp e1).1
    rw [List.getElem?_append_left (by simpa using hl), List.getElem?_map, e1]
    rfl
  · exfalso
    by_cases hl : i < ds.length
    · rw [List.getElem?_append_left (by simpa using hl), List.getElem?_map] at e
      cases q : ds[i]? with
      | none => rw [q] at e; cases e
      | some z => rw [q] at e; cases e; exact nl a es (List.mem_of_getElem? q)
    · rw [List.getElem?_append_right (by simpa using hl), List.getElem?_replicate] at e
      split at e <;> cases e
/-- the context of a def's body -/
abbrev cxD (P : Program) (w : World) (K : PySem.W.Frag) (mg : Str → Option Value) (base : Heap) (N : List Str) (qual : Str) (st : Stmt) (f : Addr) (cdv : Value) (A : Around) (outer : List Env) (s : Shared) (H : Hp) (E : XK) : Cx :=
  (cxOf CX0 P w K mg base N qual (defScope st) f cdv A outer s H E).nox
/-- the data at the entry -/
abbrev ini (N : List Str) (ds : List D) : Ro := ds.map some ++ List.replicate (N.length - ds.length) none
/-- THE RULE for a def over data -/
theorem fn_ok {x qual : Str} {st : Stmt} {f : Addr} {fd : FuncData} {N ps : List Str} {k : Nat} {Pf : List D → D → Prop} (F : Fun K x qual st f fd) (S : FnScope N ps (defScope st))
    (hl : ∀ ds d, Pf ds d → ds.length = ps.length ∧ ∀ a es, D.lst a es ∉ ds)
    (hbody : ∀ (cdv : Value) (A : Around) (outer : List Env) (s : Shared) (H : Hp) (E : XK), Room k (A.deeper (envOfC qual (defScope st) s.heap.objs.size f cdv)) → ∀ ds d, Pf ds d →
      Do (cxD P w K mg base N qual st f cdv A outer s H E) (defBody st) (ini N ds) { nx := fun _ => d = .non, rt := fun d' => d' = d }) : FnOk P w K mg base CX0 (k + 1) f fd ps (SpD K Pf) := by
  refine F.ok S (fun vs H Q E h => ?_) (fun cdv A outer s H vs Q E hr h => ?_)
  · obtain ⟨ds, d, h1, h2, _⟩ := h
    rw [h1.length]
    exact (hl ds d h2).1
  · obtain ⟨ds, d, h1, h2, q⟩ := h
    refine ⟨_, hbody cdv A outer s H E hr ds d h2, ?_⟩
    refine ⟨relS_start (X := cxD P w K mg base N qual st f cdv A outer s H E) h1 (hl ds d h2).2, fun σ' H' ρ' _ r' z => ?_, fun v H' d' sm hv _ z => ?_, fun _ _ _ _ _ z => z.elim, fun _ _ _ _ _ z => z.elim⟩
    · have z' : d = .non := z
      subst z'
      exact q _ H' r'.same .non
    · have z' : d' = d := z
      subst z'
      exact q v H' sm hv
theorem fn_mk {x qual : Str} {st : Stmt} {f : Addr} {fd : FuncData} {N ps : List Str} {k : Nat} {Pf : List D → D → Prop} (F : Fun K x qual st f fd) (S : FnScope N ps (defScope st)) (hm : mg x = some (.ref f)) (hb : Binds K fd ps [])
    (hl : ∀ ds d, Pf ds d → ds.length = ps.length ∧ ∀ a es, D.lst a es ∉ ds)
    (hbody : ∀ (cdv : Value) (A : Around) (outer : List Env) (s : Shared) (H : Hp) (E : XK), Room k (A.deeper (envOfC qual (defScope st) s.heap.objs.size f cdv)) → ∀ ds d, Pf ds d →
      Do (cxD P w K mg base N qual st f cdv A outer s H E) (defBody st) (ini N ds) { nx := fun _ => d = .non, rt := fun d' => d' = d }) : Fn P w K mg base (k + 1) x Pf :=
  ⟨f, fd, ps, fn_ok F S hl hbody, hm, F.kp, hb⟩
end
end FL

/-! FC: list comprehensions with one for and at most one if -/
namespace FL
open PySem PySem.Spec PyProof.Rows L2

/-- the block of a comprehension -/
def blk (X : Cx) (scope : Scope) (cl : List (Str × Addr)) (N : List Str) (C : Addr) (s₀ : Shared) (H₀ : Hp) (fp : List Addr) : Cx :=
  { X with N := N, s₀ := s₀, H₀ := H₀, env := compEnvC scope cl C X.env, outer := X.stack, ex := fp, fn := fun _ => false, pn := [], xe := fun _ _ => False }

section
variable {prog : Program} {w : World} {A : Around} {R : Result → Shared → Prop} {s : Shared}
theorem compLoop_any {elt target iter : Expr} {ifs : List Expr} {scope : Scope} {pos : Pos} {it acc : Value} {env : Env} (I : Nat → Shared → Prop)
    (turn : ∀ n s, I n s → wpAny (model prog w) A (pyNext it) (fun r s₁ => match r with
      | none => R (.ok .next) s₁
      | some v => wpAny (model prog w) A (letOwnedTupleGo target it v) (fun _ s₁' => wpAny (model prog w) A (assign target env v) (fun _ s₂ =>
          wpAny (model prog w) A (forIn ifs true fun c r => if r = true then do let ok ← isTrue c env (eval c env); pure (ForInStep.yield ok) else pure (ForInStep.yield r)) (fun ok s₃ =>
            if ok = true then wpAny (model prog w) A (eval elt env) (fun x s₄ =>
              wpAny (model prog w) A (call (.builtin "list.append") [acc, x]) (fun _ s₅ => ∃ m, m < n ∧ I m s₅) (fun _ _ => False) s₄) (fun _ _ => False) s₃
            else ∃ m, m < n ∧ I m s₃) (fun _ _ => False) s₂) (fun _ _ => False) s₁') (fun _ _ => False) s₁) (fun _ _ => False) s)
    (n : Nat) (h : I n s) : codeAny (model prog w) A (.compLoop (.ListComp elt [⟨target, iter, ifs, 0⟩] scope pos) 0 it acc env) R s := by
  refine codeAny_loop rfl I (fun n s hI => ?_) n h
  show wpAny _ A ((compTurn (.ListComp elt [⟨target, iter, ifs, 0⟩] scope pos) 0 it acc env).onRaise (fun x => do noteFrame x env; theTreesLotGoes x)) _ _ s
  refine wpAny_noted ?_
  rw [compTurn_list]
  refine wpAny_bind (wpAny_standAt (wpAny_bind (wpAny_mono (turn n s hI) (fun r s₁ h₁ => ?_) fun _ _ h' => h'.elim)))
  cases r with
  | none => exact wpAny_pure h₁
  | some v =>
    refine wpAny_bind (wpAny_mono h₁ (fun _ s₁' h₁' => ?_) fun _ _ h' => h'.elim)
    refine wpAny_bind (wpAny_mono h₁' (fun _ s₂ h₂ => wpAny_bind (wpAny_mono h₂ (fun ok s₃ h₃ => ?_) fun _ _ h' => h'.elim)) fun _ _ h' => h'.elim)
    cases ok with
    | false => exact wpAny_pure ⟨rfl, h₃⟩
    | true =>
      exact wpAny_bind (wpAny_bind (wpAny_mono h₃ (fun x s₄ h₄ => wpAny_bind (wpAny_mono h₄ (fun _ s₅ h₅ => wpAny_pure (wpAny_pure ⟨rfl, h₅⟩)) fun _ _ h' => h'.elim)) fun _ _ h' => h'.elim))
end

/-- the tests of a comprehension -/
def PTs (X : Cx) (ifs : List Expr) (t : TT) : Prop :=
  ∀ (pins : List (Addr × Obj)) (s : Shared) (σ : L2.St) (H : Hp) (Q : Bool → Hp → Prop), Inv X pins σ H s → t σ H Q →
    wpAny (model X.prog X.w) X.A (forIn ifs true fun c r => if r = true then do let ok ← isTrue c X.env (eval c X.env); pure (ForInStep.yield ok) else pure (ForInStep.yield r)) (TP X pins σ Q) X.xe s
theorem pts_nil {X : Cx} : PTs X [] (fun _ H Q => Q true H) := fun _ _ _ H _ I h => wpAny_tests_nil ⟨H, I, h⟩
/-- the values of the names that the block reads from around it -/
def frees (js : List Nat) (σ : L2.St) : L2.St := js.map fun j => (σ[j]?).join
def tComp (X : Cx) (js : List Nat) (wi : TI) (tt : Cx → TT) (te : Cx → TE) : TE := fun σ H Q => wi σ H fun J H2 => ∀ D, H2 D = none → ∀ Y : Cx, Y.H₀ = upd H2 D (.lst []) → Y.K = X.K →
  ∃ W : Nat → Nat → List V → Hp → Prop, (∃ m, W 0 m [] (upd H2 D (.lst []))) ∧ ∀ i m ys H3, H3 D = some (.lst ys) → W i m ys H3 →
    (J.stop i H3 ∧ Q (.ref D) H3) ∨ (J.go i H3 ∧ ∀ x H4, J.yld i H3 x H4 → tt Y (some x :: frees js σ) H4 fun ok H5 =>
      if ok = true then te Y (some x :: frees js σ) H5 fun y H6 => ∃ zs, H6 D = some (.lst zs) ∧ zs.length < sizeLine ∧ ∃ m', m' < m ∧ W (i + 1) m' (zs ++ [y]) (upd H6 D (.lst (zs ++ [y])))
      else ∃ zs m', H5 D = some (.lst zs) ∧ m' < m ∧ W (i + 1) m' zs H5)

theorem pe_comp {X : Cx} {elt iter : Expr} {x : Str} {px : Pos} {ifs : List Expr} {scope : Scope} {cl : List (Str × Addr)} {pos : Pos} {ys : List Str} {js : List Nat} {wi : TI} {tt : Cx → TT} {te : Cx → TE}
    (hc : X.calm = true) (hi : PI X (.Name x px) iter wi)
    (ht : ∀ C s₀ H₀ fp, PTs (blk X scope cl (x :: ys) C s₀ H₀ fp) ifs (tt (blk X scope cl (x :: ys) C s₀ H₀ fp)))
    (he : ∀ C s₀ H₀ fp, PE (blk X scope cl (x :: ys) C s₀ H₀ fp) elt (te (blk X scope cl (x :: ys) C s₀ H₀ fp)))
    (hclos : closureFor scope X.env = pure cl) (hcell : ∀ y ∈ scope.names, y.2 ≠ .cell) (hkind : scope.kind = .function)
    (hnames : ∀ y ∈ scope.names, y.2 = .local → scope.names.lookup y.1 = some .local) (hx : scope.names.lookup x = some .local) (hnd : (x :: ys).Nodup)
    (hcl : ∀ y c, cl.lookup y = some c → X.env.cells.lookup y = some c)
    (hhas : ∀ y, (relabel scope X.env).names.lookup y = some .cell ∨ (relabel scope X.env).names.lookup y = some .free → ∃ c, cl.lookup y = some c)
    (hjs : js.length = ys.length) (hjy : ∀ (i j : Nat) (y : Str), js[i]? = some j → ys[i]? = some y → X.N[j]? = some y ∧ Vis X.env.scope y ∧ (X.env.kindOf y = some .cell ∨ X.env.kindOf y = some .free) ∧ ((relabel scope X.env).names.lookup y = some .cell ∨ (relabel scope X.env).names.lookup y = some .free))
    (hs : ∀ x, foldedSetIterable iter X.env x = pure x := by intro _; rfl) :
    PE X (.ListComp elt [⟨.Name x px, iter, ifs, 0⟩] scope pos) (tComp X js wi tt te) := by
  intro pins s σ H Q I h
  rw [eval_ListComp]
  refine wpAny_comprehension_free (use := none) rfl hs hclos hkind hnames (thn (hi pins s σ H _ I h) fun v s1 h1 => thn h1 fun itv s2 h2 => ?_)
  obtain ⟨it, fp, tn, J, H2, e, I2, T, st2, f2, h2⟩ := h2
  subst e
  refine wpAny_newObj_type (wpAny_newFunctionEnv hcell (by intro y hy; simp at hy) (fun h₁ hns₁ hsb₁ => ?_) hkind)
  dsimp only at hns₁ hsb₁ ⊢
  -- the list
  have hD : H2 s2.heap.objs.size = none := I2.hok.fresh (Nat.le_refl _)
  generalize eD : s2.heap.objs.size = D at hD hns₁ hsb₁ ⊢
  generalize eH : s2.heap.push { cls := .type "list", dict := none, data := .seq ([] : List Value).toArray } = P3 at hns₁ hsb₁ ⊢
  have k23 : ∀ b o, s2.heap.get? b = some o → P3.get? b = some o := fun b o q => by rw [← eH]; exact Heap.get?_push_of_some _ q
  have hDo : P3.get? D = some { cls := .type "list", dict := none, data := .seq ([] : List Value).toArray } := by rw [← eH, ← eD]; exact Heap.get?_push_size _ rfl
  have I3 : Inv X pins σ (upd H2 D (.lst [])) { s2 with heap := P3, toks := s2.toks } := I2.laid (t' := s2.toks) k23 (Nat.le_of_eq eD) ⟨Nat.zero_le _, [], 0, .nil, hDo⟩
  have hCs : P3.objs.size = D + 1 := by rw [← eH, Heap.size_push, eD]
  generalize eC : P3.objs.size = C at hns₁ hsb₁ hCs ⊢
  have k34 : ∀ b o, P3.get? b = some o → h₁.get? b = some o := fun b o q => hsb₁.extBut b o (by rw [← eC]; exact Nat.ne_of_lt (Heap.lt_size q)) (Heap.get?_push_of_some _ q)
  have fpD : ∀ b ∈ fp, b < D := fun b hb => by
    obtain ⟨o, q, _⟩ := T.obj 0 _ st2 b hb
    rw [← eD]
    exact Heap.lt_size q
  have hC0 : upd H2 D (.lst []) C = none := I3.hok.fresh (by show P3.objs.size ≤ C; rw [eC]; exact Nat.le_refl _)
  -- the block's context
  have okY : (blk X scope cl (x :: ys) C { s2 with heap := P3, toks := s2.toks } (upd H2 D (.lst [])) fp).Ok := by
    refine ⟨I3.ok.mod, hkind, I3.ok.glob, I3.ok.blt, by show P3.objs.size ≤ C; rw [eC]; exact Nat.le_refl _, fun y z c h1 h2 => I3.ok.inj y z c (hcl y c h1) (hcl z c h2), fun y hy => hhas y hy, fun y c hf _ => (by cases hf),
      I3.ok.hd, I3.ok.frames, .inl rfl, fun b hb => ⟨(by show b ≠ C; rw [hCs]; exact Nat.ne_of_lt (Nat.lt_succ_of_lt (fpD b hb))), fun y c hy => (f2 b hb).2.2.2.2.1 y c (hcl y c hy)⟩, fun b o q => ?_, ?_, fun b o q hb => ?_, fun b hb z => ?_, I3.stack, I3.stkFree⟩
    · exact I3.bs b o q
    · exact Nat.le_trans I3.ok.bsz I3.sz
    · rcases (f2 b hb).2.2.2.1 with z | z
      · exact I3.ok.noex b o q z
      · exact absurd (Nat.lt_of_lt_of_le (Heap.lt_size (I3.ok.bs b o q).1) z) (Nat.lt_irrefl _)
    · rcases List.mem_cons.mp (I3.stkSub b z) with z | z
      · exact (f2 b hb).2.1 z
      · exact (f2 b hb).2.2.1 z
  generalize eY : blk X scope cl (x :: ys) C { s2 with heap := P3, toks := s2.toks } (upd H2 D (.lst [])) fp = Y at okY
  have IY : Inv Y [] (none :: frees js σ) (upd H2 D (.lst [])) { s2 with heap := h₁, toks := s2.toks + ([] : List (Str × Value)).length } := by
    subst eY
    refine ⟨okY, I3.os.trans I3.os.symm |>.trans rfl, I3.bare, Un.kept k34, ⟨_, hns₁, fun i y v h1 h2 h3 => ?_⟩, fun y c hy => ?_, hC0, fun y c hy => I3.freeC y c (hcl y c hy), fun p hp => absurd (show p ∈ ([] : List (Addr × Obj)) from hp) (by simp), I3.hok.kept k34, ?_⟩
    · cases i with
      | zero => cases h2
      | succ i =>
        have h1' : ys[i]? = some y := h1
        have h2' : (frees js σ)[i]? = some (some v) := h2
        unfold frees at h2'
        rw [List.getElem?_map] at h2'
        cases q : js[i]? with
        | none => rw [q] at h2'; cases h2'
        | some j =>
          rw [q] at h2'
          have h4 : (σ[j]?).join = some v := Option.some.inj h2'
          have h5 : σ[j]? = some (some v) := by
            cases z : σ[j]? with
            | none => rw [z] at h4; cases h4
            | some o => rw [z] at h4; have h4' : o = some v := h4; rw [h4']
          obtain ⟨n1, n2, n3, n4⟩ := hjy i j y q h1'
          obtain ⟨m, _, hl⟩ := I3.loc
          obtain ⟨u, ru, lk⟩ := hl j y v n1 h5 n2
          refine ⟨u, ru, .inr ⟨n4, ?_⟩⟩
          obtain ⟨c, hc'⟩ := hhas y n4
          rcases lk with ⟨z, _⟩ | ⟨_, c', e1, e2⟩
          · rcases n3 with n3 | n3 <;> (rw [n3] at z; cases z)
          · have : c' = c := Option.some.inj (e1.symm.trans (hcl y c hc'))
            subst this
            obtain ⟨o, ho, hod⟩ := e2
            exact ⟨c', hc', o, k34 _ _ ho, hod⟩
    · obtain ⟨v, o, ho, hod⟩ := I3.cell y c (hcl y c hy)
      exact ⟨v, o, k34 _ _ ho, hod⟩
    · show (frees js σ).length + 1 = (x :: ys).length
      unfold frees
      simp [hjs]
  have eYA : Y.A = X.A := by rw [← eY]; rfl
  have eYp : Y.prog = X.prog := by rw [← eY]; rfl
  have eYw : Y.w = X.w := by rw [← eY]; rfl
  have eYK : Y.K = X.K := by rw [← eY]; rfl
  have eYe : Y.env = compEnvC scope cl C X.env := by rw [← eY]; rfl
  have eYH : Y.H₀ = upd H2 D (.lst []) := by rw [← eY]; rfl
  have eYc : Y.calm = true := by rw [← eY]; exact hc
  have eYx : Y.xe = fun _ _ => False := by rw [← eY]; rfl
  have eYex : Y.ex = fp := by rw [← eY]; rfl
  have eYfs : Y.fs = frs X.stack := by rw [← eY]; rfl
  have eYs : Y.s₀ = { s2 with heap := P3, toks := s2.toks } := by rw [← eY]; rfl
  have eYl : Y.env.locals = C := by rw [eYe]; rfl
  have ht' : PTs Y ifs (tt Y) := by rw [← eY]; exact ht C _ _ fp
  have he' : PE Y elt (te Y) := by rw [← eY]; exact he C _ _ fp
  have hg' : PG Y (.Name x px) (gName 0) := by
    rw [← eY]
    exact pg_name hnd rfl (.inl (lookup_relabel_local hx)) (.inr (lookup_relabel_local hx))
  have T' : Turn Y.prog Y.w Y.K (.Name x px) J fp it tn := by rw [eYp, eYw, eYK]; exact T
  obtain ⟨W, ⟨m0, w0⟩, turn⟩ := h2 D hD Y eYH eYK
  have stat : ∀ {H' : Hp}, (∀ b ∈ fp, H' b = none) → ∀ b ∈ fp, FpOk Y [] H' b := fun {H'} hn b hb => by
    obtain ⟨_, g1, g2, g3, g4, g5⟩ := f2 b hb
    refine ⟨hn b hb, (by rw [eYl, hCs]; exact Nat.ne_of_lt (Nat.lt_succ_of_lt (fpD b hb))), fun z => ?_, .inl (by rw [eYex]; exact hb), fun y c hy => ?_, fun p hp => ?_⟩
    · rw [eYfs] at z
      rcases List.mem_cons.mp (I3.stkSub b z) with z | z
      · exact g1 z
      · exact g2 z
    · rw [eYe] at hy
      exact g4 y c (hcl y c hy)
    · have e0 : Y.pn = [] := by rw [← eY]; rfl
      rw [e0] at hp
      exact absurd (show p ∈ ([] : List (Addr × Obj)) from hp) (by simp)
  -- the loop
  have loop : ∀ s₃ : Shared, s₃ = { s2 with heap := h₁, toks := s2.toks + ([] : List (Str × Value)).length } →
      codeAny (model X.prog X.w) X.A (.compLoop (.ListComp elt [⟨.Name x px, iter, ifs, 0⟩] scope pos) 0 (.ref it) (.ref D) (compEnvC scope cl C X.env))
        (compPost (model X.prog X.w) X.A X.xe none (EP X pins σ Q) (.ref D) C) s₃ := by
    rintro s₃ rfl
    rw [← eYe, ← eYA, ← eYp, ← eYw]
    refine compLoop_any (fun n s' => ∃ i z H' zs, Inv Y [] (z :: frees js σ) H' s' ∧ tn i s'.heap ∧ (∀ b ∈ fp, H' b = none) ∧ H' D = some (.lst zs) ∧ W i n zs H') ?_ m0
      ⟨0, none, _, [], IY, T.keep 0 _ _ st2 (fun b _ o q => k34 b o (k23 b o q)), fun b hb => ?_, upd_same, w0⟩
    · rintro n s4 ⟨i, z, H4, zs, I4, st4, fr4, hz4, w4⟩
      rcases turn i n zs H4 hz4 w4 with ⟨stop, qn⟩ | ⟨go, step⟩
      · refine thn (T'.done Y rfl rfl rfl eYc i [] s4 _ H4 _ I4 (stat fr4) st4 stop) fun r s5 ⟨hr, I5⟩ => ?_
        subst hr
        obtain ⟨m, hm, _⟩ := id I5.loc
        rw [eYl] at hm
        refine ⟨m, hm, fun h6 sb => ?_⟩
        have hC5 : H4 C = none := by rw [← eYl]; exact I5.free
        have un5 := I5.base
        rw [eYfs, eYex, eYH, eYs] at un5
        have un6 : Un (frs X.stack) fp (upd H2 D (.lst [])) H4 P3 h6 := by
          have nC : ∀ b o, P3.get? b = some o → b ≠ C := fun b o q => by rw [← eC]; exact Nat.ne_of_lt (Heap.lt_size q)
          refine ⟨fun b o q n hb hx => (sb.2 b (nC b o q)).trans (un5.keep b o q n hb hx), fun b o q n hb hx => ?_, un5.free, fun b o q hx => ?_, un5.tups, un5.frzs, un5.tbls⟩
          · obtain ⟨sl, q2⟩ := un5.slot b o q n hb hx
            exact ⟨sl, (sb.2 b (nC b o q)).trans q2⟩
          · obtain ⟨o', q2⟩ := un5.there b o q hx
            exact ⟨o', (sb.2 b (nC b o q)).trans q2⟩
        have hok6 : HOk X.prog X.w H4 h6 := fun b ob q => by
          have q5 := I5.hok b ob q
          rw [eYp, eYw] at q5
          refine q5.stay (fun c w' hc' q' => (sb.2 c ?_).trans q') (fun _ q' => q') fun _ _ q' => q'
          rintro rfl
          rcases hc' with rfl | hc'
          · rw [hC5] at q; cases q
          · rw [hC5] at hc'; cases hc'
        refine ⟨.ref D, H4, ?_, rfl, qn⟩
        have os5 : s5.os = s2.os := by have := I5.os; rw [eYs] at this; exact this
        refine I3.call' (s' := { s5 with heap := h6 }) (ch := fp) os5 un6 hok6 I5.bare fun b hb => ?_
        obtain ⟨_, g1, g2, g3, g4, g5⟩ := f2 b hb
        exact ⟨g3, g1, g4, g5⟩
      · refine thn (T'.item Y rfl rfl rfl eYc i [] s4 _ H4 _ I4 (stat fr4) st4 go) fun r s5 ⟨u, hr, h5⟩ => ?_
        subst hr
        refine thn h5 fun _ s6 ⟨y, H6, I6, r6, y6, st6, fr6⟩ => ?_
        have I6' := I6.pinned (stat fr6) (T.obj _ _ st6)
        have q6 := step y H6 y6
        have back : ∀ {σ7 : L2.St} {H7 : Hp} {s7 : Shared}, Inv Y ([] ++ pinsAt fp s6.heap) σ7 H7 s7 → tn (i + 1) s7.heap ∧ ∀ b ∈ fp, H7 b = none := fun {σ7 H7 s7} I7 =>
          ⟨T.keep _ _ _ st6 fun b hb o e => (I7.pin (b, o) (List.mem_append_right _ (List.mem_append_right _ (mem_pinsAt hb e)))).1, fun b hb => by
            obtain ⟨o, e, _⟩ := T.obj _ _ st6 b hb
            exact (I7.pin (b, o) (List.mem_append_right _ (List.mem_append_right _ (mem_pinsAt hb e)))).2.1⟩
        refine wpAny_mono (hg' _ s6 _ H6 y u (fun σ' H' => σ' = some y :: frees js σ ∧ H' = H6) I6' r6 ⟨rfl, rfl⟩) (fun _ s7 ⟨σ7, H7, I7, e7, e7'⟩ => ?_) fun _ _ z => by rw [eYx] at z; exact z
        subst e7 e7'
        refine wpAny_mono (ht' _ s7 _ H7 _ I7 q6) (fun ok s8 ⟨H8, I8, q8⟩ => ?_) fun _ _ z => by rw [eYx] at z; exact z
        cases ok with
        | false =>
          rw [if_neg Bool.false_ne_true] at q8 ⊢
          obtain ⟨zs', m', hz', hm', w'⟩ := q8
          obtain ⟨b1, b2⟩ := back I8
          exact ⟨m', hm', i + 1, some y, H8, zs', I8.unpinned, b1, b2, hz', w'⟩
        | true =>
          rw [if_pos rfl] at q8 ⊢
          refine wpAny_mono (he' _ s8 _ H8 _ I8 q8) (fun u9 s9 ⟨v9, H9, I9, r9, zs9, hz9, hl9, m9, hm9, w9⟩ => ?_) fun _ _ z => by rw [eYx] at z; exact z
          refine wpAny_mono (mt_append (X := Y) _ s9 _ H9 (.ref D) [v9] (.ref D) [u9] (fun _ H' => H' = upd H9 D (.lst (zs9 ++ [v9]))) I9 rfl (.cons r9 .nil) ⟨D, zs9, v9, rfl, rfl, hz9, hl9, rfl⟩) (fun _ s10 ⟨_, H10, I10, _, e10⟩ => ?_) fun _ _ z => by rw [eYx] at z; exact z
          subst e10
          obtain ⟨b1, b2⟩ := back I10
          exact ⟨m9, hm9, i + 1, some y, _, zs9 ++ [v9], I10.unpinned, b1, b2, upd_same, w9⟩
    · rw [upd_ne (Nat.ne_of_lt (fpD b hb))]
      exact (f2 b hb).1
  exact codeAny_compStart_list (loop _ rfl) (T.self _ 0 _ _ _ (T.keep 0 _ _ st2 (fun b _ o q => k34 b o (k23 b o q))) (loop _ rfl))
end FL
namespace FL
open PySem PySem.Spec PyProof.Rows L2
/-! ### over data -/
/-- a new list of plain data -/
def tN (X : Cx) (ρ : Ro) (ds : List D) : TE := fun σ H Q => RelE X H σ ρ ∧ ∀ a vs H', H a = none → Same H H' → H' a = some (.lst vs) → IsAll X.K H' vs ds → Q (.ref a) H'
def EvN (X : Cx) (e : Expr) (ρ : Ro) (ds : List D) : Prop := PE X e (tN X ρ ds)
theorem EvN.ev {X : Cx} {e : Expr} {ρ : Ro} {ds : List D} (h : EvN X e ρ ds) : Ev X e ρ (.ls ds) :=
  PE.imp h fun _ _ _ ⟨r, q⟩ => ⟨r, fun a _ H' _ s e h => q (.ref a) H' s (.ls (.of e) h)⟩
/-- what is walked hands out ds, as long as nothing that was there is changed -/
def SrcOk (K : PySem.W.Frag) (J : It) (H : Hp) (ds : List D) : Prop :=
  ∀ H3, Same H H3 → (∀ i, ds.length ≤ i → J.stop i H3) ∧ ∀ i d, ds[i]? = some d → J.go i H3 ∧ ∀ x H4, J.yld i H3 x H4 → H4 = H3 ∧ Is K H3 x d
def tSrc (X : Cx) (ρ : Ro) (ds : List D) : TI := fun σ H R => RelE X H σ ρ ∧ ∀ J H', Same H H' → SrcOk X.K J H' ds → R J H'
def Src (X : Cx) (tg e : Expr) (ρ : Ro) (ds : List D) : Prop := PI X tg e (tSrc X ρ ds)
section
variable {X : Cx} {e a b tg : Expr} {ρ : Ro} {ds : List D} {d : D} {pos : Pos} {i j : Int}
theorem PI.imp {t t' : TI} (h : PI X tg e t) (f : ∀ σ H R, t' σ H R → t σ H R) : PI X tg e t' := fun pins s σ H R I q => h pins s σ H R I (f σ H R q)
theorem src_tup (h : Ev X e ρ (.tup ds)) : Src X tg e ρ ds := by
  refine PI.imp (pi_tup h) ?_
  rintro σ H R ⟨r, q⟩
  refine ⟨r, fun v H1 s1 h1 => ?_⟩
  obtain ⟨p, xs, rfl, hT, hA⟩ := h1.tup_inv
  refine ⟨p, rfl, ⟨xs, hT⟩, q _ H1 s1 fun H3 s3 => ⟨fun i hi => ⟨xs, sameT s3 hT, by rw [hA.length]; exact hi⟩, fun i d hd => ?_⟩⟩
  obtain ⟨v, hv, hI⟩ := (hA.mono s3).get hd
  exact ⟨⟨xs, v, sameT s3 hT, hv⟩, fun x H4 ⟨e4, y⟩ => ⟨e4, by have := y xs (sameT s3 hT); rw [hv] at this; cases this; exact hI⟩⟩
end
/-- the tests over data -/
def Ets (X : Cx) (ifs : List Expr) (ρ : Ro) (k : Bool) : Prop := PTs X ifs (tB X ρ k)
theorem ets_nil {X : Cx} {ρ : Ro} : Ets X [] ρ true := fun pins s σ H Q I ⟨_, q⟩ => pts_nil pins s σ H Q I (q H (Same.refl H))
def freesD (js : List Nat) (ρ : Ro) : Ro := js.map fun j => (ρ[j]?).join

theorem relE_blk {X Y : Cx} (hK : Y.K = X.K) {H : Hp} {σ : L2.St} {ρ : Ro} {js : List Nat} {x : V} {d : D} (r : RelE X H σ ρ) (hx : Is X.K H x d) : RelE Y H (some x :: frees js σ) (some d :: freesD js ρ) := by
  have vals : ∀ (i : Nat) (e : D), (some d :: freesD js ρ)[i]? = some (some e) → ∃ v, (some x :: frees js σ)[i]? = some (some v) ∧ Is X.K H v e := fun i e h => by
    cases i with
    | zero => cases h; exact ⟨x, rfl, hx⟩
    | succ i =>
      have h' : (freesD js ρ)[i]? = some (some e) := h
      unfold freesD at h'
      rw [List.getElem?_map] at h'
      cases q : js[i]? with
      | none => rw [q] at h'; cases h'
      | some j =>
        rw [q] at h'
        have h4 : (ρ[j]?).join = some e := Option.some.inj h'
        have h5 : ρ[j]? = some (some e) := by
          cases z : ρ[j]? with
          | none => rw [z] at h4; cases h4
          | some o => rw [z] at h4; have h4' : o = some e := h4; rw [h4']
        obtain ⟨v, e1, e2⟩ := r.val j e h5
        refine ⟨v, ?_, e2⟩
        show (frees js σ)[i]? = some (some v)
        unfold frees
        rw [List.getElem?_map, q]
        show some (σ[j]?).join = _
        rw [e1]
        rfl
  exact ⟨by simp [frees, freesD], fun i e h => by rw [hK]; exact vals i e h⟩

/-- the block reads no name of the def around it -/
theorem no_free {scope : Scope} {env : Env} {cl : List (Str × Addr)} (h : ∀ p ∈ scope.names, p.2 ≠ .cell ∧ p.2 ≠ .free) :
    ∀ y, (relabel scope env).names.lookup y = some .cell ∨ (relabel scope env).names.lookup y = some .free → ∃ c, cl.lookup y = some c := by
  have key : ∀ p ∈ (relabel scope env).names, p.2 ≠ .cell ∧ p.2 ≠ .free := by
    intro p hp
    obtain ⟨⟨n, k⟩, hm, e⟩ := List.mem_map.mp (show p ∈ scope.names.map _ from hp)
    have hk := h _ hm
    have hf : (k == NameKind.free) = false := by simpa using hk.2
    simp only [hf, Bool.false_and, Bool.false_eq_true, if_false] at e
    subst e
    exact hk
  intro y z
  rcases z with z | z
  · exact absurd rfl (key _ (PySem.mem_of_lookup z)).1
  · exact absurd rfl (key _ (PySem.mem_of_lookup z)).2

theorem evn_comp {X : Cx} {elt iter : Expr} {x : Str} {px : Pos} {ifs : List Expr} {scope : Scope} {cl : List (Str × Addr)} {pos : Pos} {ys : List Str} {js : List Nat} {ρ : Ro} {ds : List D} (p : D → Bool) (f : D → D)
    (hc : X.calm = true) (hi : Src X (.Name x px) iter ρ ds) (hz : ds.length ≤ 1000000) (hfz : ∀ d ∈ ds, p d = true → Fz (f d))
    (ht : ∀ C s₀ H₀ fp, ∀ d ∈ ds, Ets (blk X scope cl (x :: ys) C s₀ H₀ fp) ifs (some d :: freesD js ρ) (p d))
    (he : ∀ C s₀ H₀ fp, ∀ d ∈ ds, p d = true → Ev (blk X scope cl (x :: ys) C s₀ H₀ fp) elt (some d :: freesD js ρ) (f d))
    (hclos : closureFor scope X.env = pure cl) (hcell : ∀ y ∈ scope.names, y.2 ≠ .cell) (hkind : scope.kind = .function)
    (hnames : ∀ y ∈ scope.names, y.2 = .local → scope.names.lookup y.1 = some .local) (hx : scope.names.lookup x = some .local) (hnd : (x :: ys).Nodup)
    (hcl : ∀ y c, cl.lookup y = some c → X.env.cells.lookup y = some c)
    (hhas : ∀ y, (relabel scope X.env).names.lookup y = some .cell ∨ (relabel scope X.env).names.lookup y = some .free → ∃ c, cl.lookup y = some c)
    (hjs : js.length = ys.length) (hjy : ∀ (i j : Nat) (y : Str), js[i]? = some j → ys[i]? = some y → X.N[j]? = some y ∧ Vis X.env.scope y ∧ (X.env.kindOf y = some .cell ∨ X.env.kindOf y = some .free) ∧ ((relabel scope X.env).names.lookup y = some .cell ∨ (relabel scope X.env).names.lookup y = some .free))
    (hs : ∀ x, foldedSetIterable iter X.env x = pure x := by intro _; rfl) : EvN X (.ListComp elt [⟨.Name x px, iter, ifs, 0⟩] scope pos) ρ ((ds.filter p).map f) := by
  refine PE.imp (pe_comp (js := js) (tt := fun Y σ H Q => ∃ d, d ∈ ds ∧ tB Y (some d :: freesD js ρ) (p d) σ H Q) (te := fun Y σ H Q => ∃ d, d ∈ ds ∧ p d = true ∧ tD Y (some d :: freesD js ρ) (f d) σ H Q) hc hi
    (fun C s₀ H₀ fp pins s σ H Q I ⟨d, hd, q⟩ => ht C s₀ H₀ fp d hd pins s σ H Q I q) (fun C s₀ H₀ fp pins s σ H Q I ⟨d, hd, hp, q⟩ => he C s₀ H₀ fp d hd hp pins s σ H Q I q) hclos hcell hkind hnames hx hnd hcl hhas hjs hjy hs) ?_
  rintro σ H Q ⟨r, q⟩
  refine ⟨r, fun J H2 s2 ok D hD Y eH eK => ?_⟩
  -- the invariant: what was there stands, the list holds what came of the items so far
  have fzs : ∀ (i : Nat), ∀ d ∈ ((ds.take i).filter p).map f, Fz d := fun i d hd => by
    obtain ⟨d', h1, rfl⟩ := List.mem_map.mp hd
    obtain ⟨h2, h3⟩ := List.mem_filter.mp h1
    exact hfz d' (List.mem_of_mem_take h2) h3
  refine ⟨fun i m zs H3 => m = ds.length - i ∧ i ≤ ds.length ∧ (∀ b o, H2 b = some o → H3 b = some o) ∧ IsAll X.K H3 zs (((ds.take i).filter p).map f), ⟨ds.length, by simp, Nat.zero_le _, same_new hD, ?_⟩, ?_⟩
  · simpa using IsAll.nil
  · rintro i m zs H3 hzs ⟨rfl, hil, k3, hA⟩
    obtain ⟨stop, go⟩ := ok H3 k3
    by_cases hlt : i < ds.length
    · obtain ⟨g, y⟩ := go i ds[i] (by simp [hlt])
      refine .inr ⟨g, fun v H4 hy => ?_⟩
      obtain ⟨rfl, hv⟩ := y v H4 hy
      have hmem : ds[i] ∈ ds := List.getElem_mem hlt
      have r3 : RelE X H4 σ ρ := r.mono (s2.trans k3)
      refine ⟨ds[i], hmem, relE_blk eK r3 hv, fun H5 s5 => ?_⟩
      have etake : ds.take (i + 1) = ds.take i ++ [ds[i]] := by rw [List.take_succ_eq_append_getElem hlt]
      cases hp : p ds[i] with
      | false =>
        refine iteF ⟨zs, ds.length - (i + 1), s5 _ _ hzs, by omega, rfl, hlt, fun b o h => s5 _ _ (k3 b o h), ?_⟩
        rw [etake, List.filter_append]
        simpa [hp] using hA.mono s5
      | true =>
        refine iteT ⟨ds[i], hmem, hp, (relE_blk eK r3 hv).mono s5, fun y H6 s6 hy6 => ⟨zs, s6 _ _ (s5 _ _ hzs), ?_, ds.length - (i + 1), by omega, rfl, hlt, fun b o h => ?_, ?_⟩⟩
        · have e1 := hA.length
          rw [List.length_map] at e1
          have e2 := List.length_filter_le p (ds.take i)
          rw [List.length_take] at e2
          rw [sizeLine_eq]
          omega
        · rw [upd_ne (ne_of_none h hD)]
          exact s6 _ _ (s5 _ _ (k3 b o h))
        · have hD6 : H6 D = some (.lst zs) := s6 _ _ (s5 _ _ hzs)
          have kt : KT H6 (upd H6 D (.lst (zs ++ [y]))) :=
            ⟨fun b xs h => by rw [upd_ne (ne_of h hD6 (by intro z; cases z))]; exact h, fun b o u h => by rw [upd_ne (ne_of h hD6 (by intro z; cases z))]; exact h⟩
          rw [etake, List.filter_append, List.map_append]
          refine IsAll.append ((hA.mono (s5.trans s6)).keep kt (fzs i)) ?_
          rw [eK] at hy6
          simpa [hp] using IsAll.cons (hy6.keep kt (hfz _ hmem hp)) .nil
    · refine .inl ⟨stop i (by omega), q D zs H3 (s2.free hD) (s2.trans k3) hzs ?_⟩
      have : ds.take i = ds := List.take_of_length_le (by omega)
      rw [this] at hA
      exact hA
end FL

/-! FA: built-ins over data; the law's head with the sizes of the script's numbers -/
namespace FL
open PySem PySem.Spec PyProof.Rows L2
theorem bools_of : ∀ {bs : List Bool} {us : List Value}, Vals (bs.map V.bl) us → LSm.BoolsAre us bs
  | [], _, .nil => .nil
  | b :: _, _, .cons r t => by
    cases r
    exact .cons b (bools_of t)
theorem call_all {X : Cx} (hc : X.calm = true) : CallR X (.builtin "all") (fun vs H Q => ∃ (a : Addr) (bs : List Bool), vs = [.ref a] ∧ SqL X.K H a (bs.map V.bl) ∧ Q (.bl (bs.all id)) H) := by
  intro pins s σ H vs us Q I r h
  obtain ⟨l, bs, rfl, hq, q⟩ := h
  obtain ⟨u, rfl, ru⟩ := vals1 r
  cases ru
  obtain ⟨its, rv, p, hz⟩ := I.list hq
  have hb : LSm.BoolsAre its bs := bools_of rv
  have hl := p.isList
  have hlt : l < s.heap.objs.size := by obtain ⟨_, e, _⟩ := hl; exact Heap.lt_size e
  refine call_all_walk (wpAny_pyIter_list hl ?_)
  refine ⟨s.heap.objs.size, [s.heap.objs.size, l], [s.heap.objs.size], its.toArray.size, _, _, fun i => (bs[i]?).getD true, rfl, Walks.list (A := X.A.in1) (I.ok.hd hc) _ l (Nat.ne_of_lt hlt) its.toArray,
    ⟨⟨_, Heap.get?_push_size _ rfl, rfl, rfl⟩, hl.push _⟩, fun i v s' Q' E' hP hQ => ?_, fun h' tk hk => ?_⟩
  · obtain ⟨b, e, rfl⟩ := hb.get i v (by simpa using hP)
    simp only [e, Option.getD_some] at hQ
    exact wpAny_truthy_bool hQ
  · have e : ((List.range its.toArray.size).all fun i => (bs[i]?).getD true) = bs.all id := by
      rw [List.size_toArray, hb.length]; exact LSm.range_all bs
    rw [e]
    exact ⟨.bl _, H, I.kept (LSm.kept_iter hk), rfl, q⟩
theorem IsAll.bools {K : PySem.W.Frag} {H : Hp} : ∀ {vs : List V} {bs : List Bool}, IsAll K H vs (bs.map D.bl) → vs = bs.map V.bl
  | _, [], .nil => rfl
  | _, b :: bs, .cons h r => by
    cases h.bl_inv
    rw [IsAll.bools r]
    rfl
section
variable {X : Cx} {e a b c : Expr} {es : List Expr} {ρ : Ro} {d : D} {ds : List D} {pos : Pos} {i j : Int} {k k' : Bool}
theorem ev_all {p : Pos} {bs : List Bool} (hc : X.calm = true) (hm : X.mg "all" = none) (ha : Ev X a ρ (.ls (bs.map D.bl))) (hg : Gl X "all" := by rfl) (he : starEach [a] X.env = [(false, eval a X.env)] := by rfl) : Ev X (.Call (.Name "all" p) [a] [] pos) ρ (.bl (bs.all id)) :=
  ev_callB (call_all hc) hm boot_all (ea_cons ha ea_nil he) (fun vs H Q h0 q => by
    obtain ⟨v, rfl, h⟩ := one_inv h0
    obtain ⟨l, xs, rfl, h1, h2⟩ := h.ls_inv
    cases h2.bools
    exact ⟨l, bs, rfl, h1, q _ H (Same.refl H) (.bl _)⟩) hg (by decide) (by decide) he rfl
end
theorem kit_b {K : PySem.W.Frag} {T U : String} {k : Bool} (hne : (Value.type T == Value.type U) = false) (hm : PySem.W.kitMeta U = true) (hs : (fastBuiltinMro T).map (·.contains (.type U)) = some k) : PySem.W.kitOne K (.type T) (.type U) = some k := by
  unfold PySem.W.kitOne
  rw [hne, if_neg Bool.false_ne_true]
  unfold PySem.W.kitCls
  dsimp only
  rw [if_pos hm]
  exact hs
theorem kit_s {K : PySem.W.Frag} {T : String} : PySem.W.kitOne K (.type T) (.type T) = some true := by
  unfold PySem.W.kitOne
  rw [if_pos (by simp)]
theorem kit_int_bool {K : PySem.W.Frag} : PySem.W.kitOne K (.type "int") (.type "bool") = some false := kit_b (by decide +kernel) (by decide +kernel) (by decide +kernel)
theorem bo_int : bootBuiltins "int" = some (.type "int") := by decide +kernel
theorem bo_bool : bootBuiltins "bool" = some (.type "bool") := by decide +kernel
theorem bo_tuple : bootBuiltins "tuple" = some (.type "tuple") := by decide +kernel
/-! ### the law's head -/
theorem bits_of_lay {ns : List Int} (h : PySem.W.WData.layableAll [PySem.W.WData.list (ns.map PySem.W.WData.int)] = true) : ∀ z ∈ ns, Builtin.Int.intBits z ≤ 1048576 := fun z hz => by
  have h1 := PySem.W.layableW_arg h _ List.mem_cons_self
  have h2 := PySem.W.layableW_item h1 (.int z) (List.mem_map.mpr ⟨z, hz, rfl⟩)
  have h3 := PySem.W.layable0_of_all (PySem.W.lay0_int h2)
  exact PyData.bits_of_layable h3
theorem walk_ofB {l : PySem.W.OpenLaw} {n k : Nat} {q : Program} {loose : List Str} {XP : (Str → Option Value) → Heap → Prop} {YP : World → Heap → Prop} {d : DefRec} {K : Params → PySem.W.Frag} {x : Str} {Pf : List D → D → Prop}
    (hn : l.most = some n) (hn2 : n ≤ sizeLine) (hdf : d.params.defaults = []) (hr : Room k callerA)
    (hY : ∀ (w : World) (h : Heap), YP w h → (K w.params).In h)
    (F : ∀ (w : World) (mg : Str → Option Value) (fa : Addr) (h : Heap), (K w.params).In h → h.Ns mainGlobals mg → mg d.name = some (.ref fa) →
      ∃ fd : FuncData, (∀ (s : Shared) (u : Value), BindsTo s fd ⟨[u], []⟩ [(x, u)]) ∧
        ∀ base : Heap, (K w.params).In base → base.Ns mainGlobals mg → FnOk l.prog w (K w.params) mg base CX0 k fa fd [x] (SpD (K w.params) Pf))
    (hsp : ∀ (ns : List Int), ns.length ≤ n → (∀ z ∈ ns, Builtin.Int.intBits z ≤ 1048576) → Pf [.ls (ns.map D.int)] (.bl true)) :
    PySem.W.WalkO q loose XP YP l.row.toRowW d [] (fun f vs => PySem.call f vs) := by
  intro w s₀ s₁ mg mb G Y fa o pm cd doc dV kV ho hd hcd hD hmg hg args vals as hpre hlay hrd hwl hlo
  obtain rfl : dV = .none := PySem.W.Dflts.none hD hdf
  obtain rfl : kV = .none := PySem.W.Dflts.noKw hD
  obtain ⟨a, vs, ns, rfl, rfl, hobj, hints, hlen⟩ := Att.script_of hn hpre hwl
  have hbits := bits_of_lay hlay
  have KX := hY w _ Y
  obtain ⟨fd, hb, hF⟩ := F w mg fa _ KX G.T.g hmg
  have hc : codeAny (model l.prog w) callerA (.call (.ref fa) ⟨[.ref a], []⟩) (fun r s' => r = .ok (.ret (.bool true)) ∧ OldK s₁.heap s'.heap ∧ s'.os = s₁.os ∧ AllBare s'.gens) s₁ :=
    law_call KX G.T.g G.T.b G.T.builtins G.T.nolimit hg hobj hints (Nat.le_trans hlen hn2) hr hF hb
      (fun H hO hS => ⟨[.ls (ns.map D.int)], .bl true, .cons (.ls hS (IsAll.ints ns)) .nil, hsp ns hlen hbits, fun v H' _ h => h.bl_inv⟩) (fun H e s' z => z)
  refine PySem.W.enter_call (codeAny_mono hc fun r s' hq => ?_)
  obtain ⟨rfl, h2, h3, h4⟩ := hq
  exact ⟨.inl ⟨.bool true, .bool true, [], rfl, fun _ => rfl, .bool true, Att.post_true l _, fun _ => ⟨List.Pairwise.nil, fun _ hm => (nomatch hm)⟩⟩, h2, h3, h4⟩
end FL

/-! sizes by instances -/
namespace FL
open PySem
open Builtin.Int (intBits)
theorem Bd.up {i : Int} {m : Nat} (h : Bd i m) (n : Nat) (hn : m ≤ n) : Bd i n := ⟨Nat.le_trans h.lt hn⟩
theorem Bd.of_lt {i : Int} {m : Nat} (h : i.natAbs < 2 ^ m) : Bd i m := ⟨intBits_le_iff.mpr h⟩
theorem Bd.lit {i : Int} {m : Nat} (h : i.natAbs < 2 ^ m := by decide) : Bd i m := .of_lt h
theorem Bd.sub {i j : Int} {m n : Nat} (hi : Bd i m) (hj : Bd j n) (k : Nat) (h : max m n + 1 ≤ k) : Bd (i - j) k := ⟨Nat.le_trans (intBits_sub_le hi.lt hj.lt) h⟩
theorem Bd.mul {i j : Int} {m n : Nat} (hi : Bd i m) (hj : Bd j n) (k : Nat) (h : m + n ≤ k) : Bd (i * j) k := ⟨Nat.le_trans (intBits_mul_le hi.lt hj.lt) h⟩
instance bd_add {i j : Int} {m n : Nat} [hi : Bd i m] [hj : Bd j n] : Bd (i + j) (max m n + 1) := ⟨intBits_add_le hi.lt hj.lt⟩
instance bd_mul {i j : Int} {m n : Nat} [hi : Bd i m] [hj : Bd j n] : Bd (i * j) (m + n) := ⟨intBits_mul_le hi.lt hj.lt⟩
instance bd_0 : Bd 0 0 := .lit
instance bd_2 : Bd 2 2 := .lit
instance bd_4 : Bd 4 3 := .lit
theorem Bd.div {i j : Int} {m : Nat} (hi : Bd i m) (h : 0 < j) : Bd (i / j) m := by
  have e := intBits_fdiv_le (y := j) hi.lt
  rw [Int.fdiv_eq_ediv_of_nonneg i (by omega)] at e
  exact ⟨e⟩
theorem Bd.le {i j : Int} {m : Nat} (hj : Bd j m) (h : i.natAbs ≤ j.natAbs) : Bd i m := ⟨intBits_le_of_natAbs h hj.lt⟩
theorem Bd.sqrt {y N : Int} {k : Nat} (h : y * y ≤ N) (hN : Bd N (k + k)) : Bd y k := by
  refine .of_lt ?_
  have h1 := intBits_le_iff.mp hN.lt
  have h2 : y.natAbs * y.natAbs ≤ N.natAbs := by
    have : (y.natAbs * y.natAbs : Nat) = (y * y).natAbs := by rw [Int.natAbs_mul]
    rw [this]
    have h0 : 0 ≤ y * y := by
      rw [← Int.natAbs_mul_self]
      exact Int.natCast_nonneg _
    omega
  refine Nat.lt_of_not_le fun q => ?_
  have h3 := Nat.mul_le_mul q q
  rw [← Nat.pow_add] at h3
  omega
theorem Bd.factor {a p : Int} {k : Nat} (ha : 0 < a) (h : Bd (2 * a * p) k) : Bd p k := by
  refine h.le ?_
  rw [Int.natAbs_mul]
  have : 1 ≤ (2 * a).natAbs := by omega
  have := Nat.mul_le_mul_right p.natAbs this
  omega
end FL

/-! FG: loops over any source, lists of a def's own making -/
namespace FL
open PySem PySem.Spec PyProof.Rows L2

/-- what is walked hands out ds as long as the body keeps to Ok -/
def SrcS (X : Cx) (Ok : Ro → Prop) (J : It) (ρ : Ro) (H : Hp) (ds : List D) : Prop :=
  ∀ ρ' H3 σ3, Go ρ H ρ' H3 → RelS X X.H₀ H3 σ3 ρ' → Ok ρ' → (∀ i, ds.length ≤ i → J.stop i H3) ∧ ∀ i d, ds[i]? = some d → J.go i H3 ∧ ∀ x H4, J.yld i H3 x H4 → H4 = H3 ∧ Is X.K H3 x d
def tSrcS (X : Cx) (Ok : Ro → Prop) (ρ : Ro) (ds : List D) : TI := fun σ H R => RelS X X.H₀ H σ ρ ∧ ∀ J H', Same H H' → SrcS X Ok J ρ H' ds → R J H'
def Wk (X : Cx) (Ok : Ro → Prop) (tg e : Expr) (ρ : Ro) (ds : List D) : Prop := PI X tg e (tSrcS X Ok ρ ds)

theorem srcS_T {X : Cx} {Ok : Ro → Prop} {ρ : Ro} {H : Hp} {σ : L2.St} {a : Addr} {xs : List V} {ds : List D} (r : RelS X X.H₀ H σ ρ) (hT : SqT X.K H a xs) (hA : IsAll X.K H xs ds) (hz : ∀ d ∈ ds, Fz d) : SrcS X Ok (Itt X.K a) ρ H ds := by
  intro ρ' H3 σ3 g r3 _
  have kt := g.kt r
  have hT3 := kt.seqT hT
  refine ⟨fun i hi => ⟨xs, hT3, by rw [hA.length]; exact hi⟩, fun i d hd => ?_⟩
  obtain ⟨v, hv, hI⟩ := (hA.keep kt hz).get hd
  exact ⟨⟨xs, v, hT3, hv⟩, fun x H4 ⟨e4, y⟩ => ⟨e4, by have := y xs hT3; rw [hv] at this; cases this; exact hI⟩⟩
section
variable {X : Cx} {e a b c tg : Expr} {es : List Expr} {ρ : Ro} {d : D} {ds : List D} {pos : Pos} {i j : Int} {rest A B : List Stmt} {P : Po}
theorem wk_tup (h : Ev X e ρ (.tup ds)) (hz : ∀ d ∈ ds, Fz d) : Wk X (fun _ => True) tg e ρ ds := by
  refine PI.imp (pi_tup h) ?_
  rintro σ H R ⟨r, q⟩
  refine ⟨r.e, fun v H1 s1 h1 => ?_⟩
  obtain ⟨p, xs, rfl, hT, hA⟩ := h1.tup_inv
  exact ⟨p, rfl, ⟨xs, hT⟩, q _ H1 s1 (srcS_T (r.mono s1) hT hA hz)⟩
/-- for x in e: the items are plain data; Iv by the number of turns -/
theorem do_for (n : Nat) {x : Str} {p' : Pos} {Ok : Ro → Prop} (Iv : Nat → Ro → Prop) (M : Ro → Prop) (hp : PassesOwn (model X.prog X.w) X.A X.env X.xe) (hc : X.calm = true) (he : Wk X Ok (.Name x p') e ρ ds) (hz : ∀ d ∈ ds, Fz d) (hok : ∀ i ρ, Iv i ρ → Ok ρ) (h0 : Iv 0 ρ)
    (hs : ∀ (i : Nat) (d : D) (ρ : Ro), ds[i]? = some d → Iv i ρ → Do X A (ρ.set n (some d)) { nx := Iv (i + 1), rt := P.rt, bk := M, ct := Iv (i + 1) }) (hd : ∀ ρ, Iv ds.length ρ → M ρ)
    (h : ∀ ρ', M ρ' → Do X rest ρ' P) (hN : X.N.Nodup) (hi : X.N[n]? = some x := by rfl) (hx : Loc X.env.scope x := by first | exact Or.inl rfl | exact Or.inr rfl)
    (hf : X.fn x = true ∨ X.env.scope.names.lookup x = some .local := by first | exact .inl rfl | exact .inr rfl) (hset : ∀ x, foldedSetIterable e X.env x = pure x := by intro _; rfl) : Do X (.For (.Name x p') e A [] pos :: rest) ρ P := by
  refine do_seq (M := M) ?_ h
  have hb : PSs X A (fun D σ H => ∃ i d ρ, ds[i]? = some d ∧ Iv i ρ ∧ tPo X (ρ.set n (some d)) { nx := Iv (i + 1), rt := P.rt, bk := M, ct := Iv (i + 1) } D σ H) :=
    fun pins s σ H D I ⟨i, d, ρ, e1, e2, q⟩ => hs i d ρ e1 e2 pins s σ H D I q
  refine PS.imp (ps_for hp hc he (pg_name hN hi hx hf) hb hset) ?_
  rintro D σ H ⟨r, q1, q2, q3, q4⟩
  refine ⟨r, fun J H1 s1 src => ?_⟩
  have g1 : Go ρ H ρ H1 := Go.same s1
  refine ⟨fun i m σ' H' => m = ds.length - i ∧ i ≤ ds.length ∧ ∃ ρ', Iv i ρ' ∧ RelS X X.H₀ H' σ' ρ' ∧ Go ρ H1 ρ' H', ⟨ds.length, by simp, Nat.zero_le _, ρ, h0, r.mono s1, Go.refl ρ H1⟩, ?_⟩
  rintro i m σ' H' ⟨rfl, hil, ρ', iv, r', g⟩
  obtain ⟨stop, go⟩ := src ρ' H' σ' g r' (hok i ρ' iv)
  by_cases hlt : i < ds.length
  · obtain ⟨g0, y⟩ := go i ds[i] (by simp [hlt])
    refine .inr ⟨g0, fun σ2 H2 => ∃ ρ2, Iv (i + 1) ρ2 ∧ RelS X X.H₀ H2 σ2 ρ2 ∧ Go ρ H1 ρ2 H2, fun σ2 H2 p2 => ⟨ds.length - (i + 1), by omega, rfl, hlt, p2⟩, fun v H4 hy => ?_⟩
    obtain ⟨rfl, hv⟩ := y v H4 hy
    have fz : Fz ds[i] := hz _ (List.getElem_mem hlt)
    have no : ∀ a es, ds[i] = .lst a es → False := fun a es z => by rw [z] at fz; cases fz
    have g2 : Go ρ H1 (ρ'.set n (some ds[i])) H4 := g.trans (Go.set (Same.refl H4) fun a es z => (no a es z).elim)
    refine ⟨i, ds[i], ρ', by simp [hlt], iv, r'.set hv n (.inl fz) (fun a es z => (no a es z).elim), ?_, q2, ?_, ?_⟩
    · exact fun σ2 H2 ρ2 g' r2 iv2 => ⟨ρ2, iv2, r2, g2.trans g'⟩
    · exact fun σ2 H2 ρ2 g' r2 m => q1 σ2 H2 ρ2 (g1.trans (g2.trans g')) r2 m
    · exact fun σ2 H2 ρ2 g' r2 iv2 => ⟨ρ2, iv2, r2, g2.trans g'⟩
  · have e : i = ds.length := by omega
    subst e
    exact .inl ⟨stop _ (Nat.le_refl _), q1 σ' H' ρ' (g1.trans g) r' (hd ρ' iv)⟩

/-- a new list is stored -/
theorem do_setN (n : Nat) {x : Str} {pos' : Pos} (he : EvN X e ρ ds) (hz : ∀ d ∈ ds, Fz d) (h : ∀ l, ¬ Mu ρ l → Do X rest (ρ.set n (some (.lst l ds))) P) (hN : X.N.Nodup) (hi : X.N[n]? = some x := by rfl) (hx : Loc X.env.scope x := by first | exact Or.inl rfl | exact Or.inr rfl)
    (hs : swapsWith e (some (.Name x pos')) pos.line X.env = pure false := by rfl) (hf : X.fn x = true ∨ X.env.scope.names.lookup x = some .local := by first | exact .inl rfl | exact .inr rfl) : Do X (.Assign [.Name x pos'] e pos :: rest) ρ P := by
  refine do_seq (M := fun ρ' => ∃ l, ¬ Mu ρ l ∧ ρ' = ρ.set n (some (.lst l ds))) (PS.imp (ps_set hN hi hx he hs hf) ?_) (fun _ ⟨l, hl, z⟩ => z ▸ h l hl)
  rintro D σ H ⟨r, q1, q2, q3, q4⟩
  refine ⟨r.e, fun l vs H' hl s e1 h' => q1 _ H' _ (Go.set s fun a es z => ?_) ((r.mono s).set (.lst e1 h') n (.inr (.inr ⟨l, ds, rfl, hz⟩)) fun a es z => ?_) ⟨l, fun m => ?_, rfl⟩⟩
  · cases z
    exact .inr hl
  · cases z
    exact r.same.free hl
  · obtain ⟨ys, z⟩ := r.mu m
    rw [hl] at z
    cases z
/-- xs.append(e) -/
theorem do_append (n : Nat) {x : Str} {l : Addr} {p1 p2 p3 : Pos} (hρ : ρ[n]? = some (some (.lst l ds))) (he : Ev X e ρ d) (hz : Fz d) (hl : ds.length < 1000000) (hothers : ∀ (j : Nat) (es : List D), j ≠ n → ρ[j]? ≠ some (some (.lst l es)))
    (h : Do X rest (ρ.set n (some (.lst l (ds ++ [d])))) P) (hN : X.N[n]? = some x := by rfl) (hv : Vis X.env.scope x := by first | exact Or.inl rfl | exact Or.inr (Or.inl rfl) | exact Or.inr (Or.inr rfl))
    (hd : (x == ("__debug__" : Str)) = false := by decide) (hcd : (x == ("__classdict__" : Str)) = false := by decide)
    (hbase : attributeBase (.Name x p1) "append" X.env (eval (.Name x p1) X.env) = eval (.Name x p1) X.env := by rfl)
    (hfew : ((backTo p3 (starEach [e] X.env)).all (fun x => !x.1) && (backToKw p3 (keywordEach [] X.env)).all (fun x => x.1.isSome) && decide ([e].length + ([] : List Keyword).length + (if ([] : List Keyword).isEmpty then 0 else 1) < 30)) = true := by rfl)
    (hline : (p2.endLine == p3.line) = true := by rfl) (hstar : starEach [e] X.env = [(false, eval e X.env)] := by rfl) (hs : swapsWith (.Call (.Attribute (.Name x p1) "append" p2) [e] [] p3) none pos.line X.env = pure false := by rfl) :
    Do X (.Expr (.Call (.Attribute (.Name x p1) "append" p2) [e] [] p3) pos :: rest) ρ P := by
  refine do_seq (M := fun ρ' => ρ' = ρ.set n (some (.lst l (ds ++ [d])))) (PS.imp (ps_expr (pe_bm PySem.F.plainAttrs_list PySem.F.slot_list_append PySem.F.type_list_append mt_append (pe_var hN hv hd hcd) (ea_cons he ea_nil hstar) hbase hfew hline hstar rfl) hs) ?_) (fun _ z => z ▸ h)
  rintro D σ H ⟨r, q1, q2, q3, q4⟩
  obtain ⟨v, e1, h1, h2⟩ := r.val n _ hρ
  obtain ⟨rfl, xs, hT, hA⟩ := h1.lst_inv
  have fds : ∀ e ∈ ds, Fz e := by
    rcases h2 with z | z | ⟨a, es, z, f⟩
    · cases z
    · obtain ⟨_, ys, z, _⟩ := z.lst_inv
      rw [r.own l ⟨n, ds, hρ⟩] at z
      cases z
    · cases z; exact f
  refine ⟨_, e1, .inl ⟨rfl, xs, .of hT⟩, r.e, fun vs H2 s2 h3' => ?_⟩
  obtain ⟨v2, rfl, h3⟩ := one_inv h3'
  have hT2 := s2 _ _ hT
  have lx : xs.length = ds.length := hA.length
  refine ⟨l, xs, v2, rfl, rfl, hT2, by rw [sizeLine_eq]; omega, ?_⟩
  have kt : KT H2 (upd H2 l (.lst (xs ++ [v2]))) :=
    ⟨fun b xs h => by rw [upd_ne (ne_of h hT2 (by intro z; cases z))]; exact h, fun b o u h => by rw [upd_ne (ne_of h hT2 (by intro z; cases z))]; exact h⟩
  have r2 := r.mono s2
  have h0 : X.H₀ l = none := r.own l ⟨n, ds, hρ⟩
  have same : Same X.H₀ (upd H2 l (.lst (xs ++ [v2]))) := fun b o h => by
    rw [upd_ne (ne_of_none h h0)]
    exact r2.same b o h
  have hnl : n < ρ.length := (List.getElem?_eq_some_iff.mp hρ).1
  have go : Go ρ H (ρ.set n (some (.lst l (ds ++ [d])))) (upd H2 l (.lst (xs ++ [v2]))) := by
    refine ⟨fun b o h nm => ?_, ?_⟩
    · have : b ≠ l := fun z => nm (z ▸ ⟨n, ds, hρ⟩)
      rw [upd_ne this]
      exact s2 _ _ h
    · rintro a ⟨j, es, hj⟩
      rcases set_get hj with ⟨rfl, z, _⟩ | ⟨_, hj⟩
      · cases z
        exact .inl ⟨_, ds, hρ⟩
      · exact .inl ⟨j, es, hj⟩
  have own : ∀ a, Mu (ρ.set n (some (.lst l (ds ++ [d])))) a → X.H₀ a = none := by
    rintro a ⟨j, es, hj⟩
    rcases set_get hj with ⟨rfl, z, _⟩ | ⟨_, hj⟩
    · cases z
      exact h0
    · exact r.own a ⟨j, es, hj⟩
  refine q1 _ _ _ go ⟨same, by simp [r.len], fun j e' hj => ?_, own⟩ rfl
  rcases set_get hj with ⟨rfl, rfl, _⟩ | ⟨hne, hj⟩
  · refine ⟨.ref l, e1, .lst upd_same ?_, .inr (.inr ⟨l, _, rfl, fun e' he' => ?_⟩)⟩
    · exact ((hA.mono s2).keep kt fds).append (.cons (h3.keep kt hz) .nil)
    · rcases List.mem_append.mp he' with z | z
      · exact fds _ z
      · rw [List.mem_singleton.mp z]; exact hz
  · obtain ⟨u, f1, f2, f3⟩ := r2.val j e' hj
    refine ⟨u, f1, ?_, f3⟩
    rcases f3 with z | z | ⟨a, es, rfl, z⟩
    · exact f2.keep kt z
    · exact z.mono same
    · obtain ⟨rfl, ys, g1, g2⟩ := f2.lst_inv
      have : a ≠ l := fun z => hothers j es hne (z ▸ hj)
      exact .lst (by rw [upd_ne this]; exact g1) (g2.keep kt z)
end
end FL

/-! FE: == of plain data, in and not in, slices, lists handed back -/
namespace FL
open PySem PySem.Spec PyProof.Rows L2
/-! what == tells apart as data does; n: how deep the tuples lie -/
mutual
inductive Cm : Nat → D → D → Prop
  | non {n : Nat} : Cm n .non .non
  | bl {n : Nat} (a b : Bool) : Cm n (.bl a) (.bl b)
  | int {n : Nat} (i j : Int) : Cm n (.int i) (.int j)
  | str {n : Nat} (x y : Str) : Cm n (.str x) (.str y)
  | tup {n : Nat} {ds es : List D} (h : Cms n ds es) : Cm (n + 1) (.tup ds) (.tup es)
inductive Cms : Nat → List D → List D → Prop
  | nil {n : Nat} : Cms n [] []
  | short {n : Nat} (e : D) (es : List D) : Cms n [] (e :: es)
  | long {n : Nat} (d : D) (ds : List D) : Cms n (d :: ds) []
  | cons {n : Nat} {d e : D} {ds es : List D} (h : Cm n d e) (r : Cms n ds es) : Cms n (d :: ds) (e :: es)
end
theorem Cms.ints {n : Nat} : ∀ (ns ms : List Int), Cms n (ns.map D.int) (ms.map D.int)
  | [], [] => .nil
  | [], m :: ms => .short _ _
  | n :: ns, [] => .long _ _
  | n :: ns, m :: ms => .cons (.int n m) (Cms.ints ns ms)
theorem Cms.get {n : Nat} : ∀ {ds es : List D}, Cms n ds es → ∀ (j : Nat) (d e : D), ds[j]? = some d → es[j]? = some e → Cm n d e
  | _, _, .nil, j, d, e, h, _ => by simp at h
  | _, _, .short _ _, j, d, e, h, _ => by simp at h
  | _, _, .long _ _, j, d, e, _, h => by simp at h
  | _, _, .cons h r, 0, d, e, h1, h2 => by simp at h1 h2; subst h1 h2; exact h
  | _, _, .cons h r, j + 1, d, e, h1, h2 => Cms.get r j d e (by simpa using h1) (by simpa using h2)
open Classical in
/-- the answer of == -/
noncomputable def eqb (d e : D) : Bool := decide (d = e)
open Classical in
theorem eqb_iff {d e : D} : eqb d e = true ↔ d = e := by unfold eqb; exact decide_eq_true_iff
theorem eqb_of {d e : D} {k : Bool} (h : k = true ↔ d = e) : eqb d e = k := by
  cases k with
  | true => exact eqb_iff.mpr (h.mp rfl)
  | false =>
    cases q : eqb d e with
    | false => rfl
    | true => exact absurd (h.mpr (eqb_iff.mp q)) Bool.false_ne_true

section
variable {X : Cx} {pins : List (Addr × Obj)} {σ : L2.St} {H : Hp} {s : Shared}
mutual
theorem Is.inj (I : L2.Inv X pins σ H s) : ∀ {n : Nat} {d e : D} {v : V}, Cm n d e → Is X.K H v d → Is X.K H v e → d = e
  | _, _, _, _, .non, _, _ => rfl
  | _, _, _, _, .bl a b, h1, h2 => by cases h1.bl_inv; cases h2.bl_inv; rfl
  | _, _, _, _, .int a b, h1, h2 => by cases h1.int_inv; cases h2.int_inv; rfl
  | _, _, _, _, .str a b, h1, h2 => by cases h1.str_inv; cases h2.str_inv; rfl
  | _, _, _, _, .tup c, h1, h2 => by
    obtain ⟨a, xs, rfl, t1, r1⟩ := h1.tup_inv
    obtain ⟨a', ys, z, t2, r2⟩ := h2.tup_inv
    cases z
    cases I.tuple_inj t1 t2
    rw [IsAll.inj I c r1 r2]
theorem IsAll.inj (I : L2.Inv X pins σ H s) : ∀ {n : Nat} {ds es : List D} {vs : List V}, Cms n ds es → IsAll X.K H vs ds → IsAll X.K H vs es → ds = es
  | _, _, _, _, .nil, _, _ => rfl
  | _, _, _, _, .short _ _, h1, h2 => by have a := h1.length; have b := h2.length; rw [a] at b; simp at b
  | _, _, _, _, .long _ _, h1, h2 => by have a := h1.length; have b := h2.length; rw [a] at b; simp at b
  | _, _, _, _, .cons c r, .cons h1 r1, .cons h2 r2 => by rw [Is.inj I c h1 h2, IsAll.inj I r r1 r2]
end
theorem tup_eq_iff {ds es : List D} : D.tup ds = D.tup es ↔ ds.length = es.length ∧ ∀ (j : Nat) (d e : D), ds[j]? = some d → es[j]? = some e → d = e := by
  constructor
  · intro h
    cases h
    exact ⟨rfl, fun j d e h1 h2 => by rw [h1] at h2; exact Option.some.inj h2⟩
  · rintro ⟨h1, h2⟩
    congr 1
    refine List.ext_getElem? fun j => ?_
    by_cases hj : j < ds.length
    · have hj' : j < es.length := by omega
      rw [List.getElem?_eq_getElem hj, List.getElem?_eq_getElem hj', h2 j _ _ (List.getElem?_eq_getElem hj) (List.getElem?_eq_getElem hj')]
    · rw [List.getElem?_eq_none (by omega), List.getElem?_eq_none (by omega)]
/-- item by item -/
noncomputable def fEq (ds es : List D) (j : Nat) : Bool := match ds[j]?, es[j]? with
  | some d, some e => eqb d e
  | _, _ => true
theorem fEq_at {ds es : List D} {j : Nat} {d e : D} (h1 : ds[j]? = some d) (h2 : es[j]? = some e) : fEq ds es j = eqb d e := by
  unfold fEq
  rw [h1, h2]
theorem fEq_all {ds es : List D} {n m : Nat} (l1 : n = ds.length) (l2 : m = es.length) : eqb (.tup ds) (.tup es) = ((List.range (min n m)).all (fEq ds es) && n == m) := by
  subst l1 l2
  refine eqb_of ?_
  rw [tup_eq_iff, Bool.and_eq_true, List.all_eq_true, beq_iff_eq]
  simp only [List.mem_range]
  constructor
  · rintro ⟨g1, g2⟩
    refine ⟨g2, fun j d e hd he => ?_⟩
    have hj : j < ds.length := (List.getElem?_eq_some_iff.mp hd).1
    have := g1 j (by omega)
    rw [fEq_at hd he] at this
    exact eqb_iff.mp this
  · rintro ⟨g2, g1⟩
    refine ⟨fun j hj => ?_, g2⟩
    have d1 : ds[j]? = some ds[j] := List.getElem?_eq_getElem (by omega)
    have d2 : es[j]? = some es[j] := List.getElem?_eq_getElem (by omega)
    rw [fEq_at d1 d2]
    exact eqb_iff.mpr (g1 j _ _ d1 d2)
theorem fEq_items {A : Around} {xs ys : List V} {us ws : List Value} {ds es : List D} (q1 : IsAll X.K H xs ds) (q2 : IsAll X.K H ys es) (w1 : Vals xs us) (w2 : Vals ys ws)
    (hit : ∀ (j : Nat) (d e : D) (v1 v2 : V) (u1 u2 : Value), ds[j]? = some d → es[j]? = some e → Is X.K H v1 d → Is X.K H v2 e → RelV v1 u1 → RelV v2 u2 → SeqAt.EqAt A s u1 u2 (eqb d e)) :
    ∀ (j : Nat) (h1 : j < us.toArray.size) (h2 : j < ws.toArray.size), SeqAt.EqAt A s us.toArray[j] ws.toArray[j] (fEq ds es j) := by
  intro j h1 h2
  have l1 : us.length = ds.length := by rw [← w1.length, q1.length]
  have l2 : ws.length = es.length := by rw [← w2.length, q2.length]
  have j1 : j < us.length := by simpa using h1
  have j2 : j < ws.length := by simpa using h2
  have d1 : ds[j]? = some ds[j] := List.getElem?_eq_getElem (by omega)
  have d2 : es[j]? = some es[j] := List.getElem?_eq_getElem (by omega)
  obtain ⟨v1, g1, i1⟩ := q1.get d1
  obtain ⟨v2, g2, i2⟩ := q2.get d2
  obtain ⟨u1, g3, k1⟩ := w1.get g1
  obtain ⟨u2, g4, k2⟩ := w2.get g2
  have e1 : us.toArray[j] = u1 := by
    have : us[j]? = some us[j] := List.getElem?_eq_getElem j1
    rw [g3] at this
    simpa using (Option.some.inj this).symm
  have e2 : ws.toArray[j] = u2 := by
    have : ws[j]? = some ws[j] := List.getElem?_eq_getElem j2
    rw [g4] at this
    simpa using (Option.some.inj this).symm
  rw [e1, e2, fEq_at d1 d2]
  exact hit j _ _ v1 v2 u1 u2 d1 d2 i1 i2 k1 k2
theorem eqAt_D (I : L2.Inv X pins σ H s) : ∀ {n : Nat} {d e : D} {v u : V} {v' u' : Value} (A : Around), Cm n d e → A.units + n < cLine → Is X.K H v d → Is X.K H u e → RelV v v' → RelV u u' → SeqAt.EqAt A s v' u' (eqb d e)
  | n, _, _, v, u, v', u', A, .non, _, h1, h2, r1, r2 => by
    cases h1.non_inv; cases h2.non_inv; cases r1; cases r2
    rw [eqb_of (k := true) (by simp)]
    exact SeqAt.EqAt.same _
  | n, _, _, v, u, v', u', A, .bl a b, _, h1, h2, r1, r2 => by
    cases h1.bl_inv; cases h2.bl_inv
    rw [eqb_of (k := eqV (.bl a) (.bl b)) (by show (a == b) = true ↔ _; simp)]
    exact eqAt_V r1 r2 rfl rfl
  | n, _, _, v, u, v', u', A, .int a b, _, h1, h2, r1, r2 => by
    cases h1.int_inv; cases h2.int_inv
    rw [eqb_of (k := eqV (.int a) (.int b)) (by show (a == b) = true ↔ _; simp)]
    exact eqAt_V r1 r2 rfl rfl
  | n, _, _, v, u, v', u', A, .str a b, _, h1, h2, r1, r2 => by
    cases h1.str_inv; cases h2.str_inv
    rw [eqb_of (k := eqV (.str a) (.str b)) (by show (a == b) = true ↔ _; simp)]
    exact eqAt_V r1 r2 rfl rfl
  | n + 1, .tup ds, .tup es, v, u, v', u', A, .tup c, hu, h1, h2, r1, r2 => by
    obtain ⟨a, xs, rfl, t1, q1⟩ := h1.tup_inv
    obtain ⟨b, ys, rfl, t2, q2⟩ := h2.tup_inv
    cases r1
    cases r2
    by_cases hab : a = b
    · subst hab
      cases I.tuple_inj t1 t2
      rw [IsAll.inj I c q1 q2, eqb_of (k := true) (by simp)]
      exact SeqAt.EqAt.same _
    · obtain ⟨us, w1, p1, _⟩ := I.tuple t1
      obtain ⟨ws, w2, p2, _⟩ := I.tuple t2
      rw [fEq_all (n := us.toArray.size) (m := ws.toArray.size) (by rw [List.size_toArray, ← w1.length, q1.length]) (by rw [List.size_toArray, ← w2.length, q2.length])]
      exact SeqAt.EqAt.of_refs hab (SeqAt.RcAt.tuples p1 p2 (by omega) (fEq_items q1 q2 w1 w2 fun j d e v1 v2 u1 u2 d1 d2 i1 i2 k1 k2 => eqAt_D I A.in1 (c.get j _ _ d1 d2) (by show A.units + 1 + n < cLine; omega) i1 i2 k1 k2))
end
section
variable {X : Cx}
variable {e a b c : Expr} {es : List Expr} {ρ : Ro} {d : D} {ds fs : List D} {pos : Pos} {i j : Int} {k k' : Bool}
/-! ### slices of lists, lists written out -/
theorem evn_list (h : EvA X es ρ ds) (hl : ds.length ≤ 1000 := by exact Nat.le_of_ble_eq_true rfl) : EvN X (.List es pos) ρ ds := by
  refine PE.imp (pe_lst h) ?_
  rintro σ H Q ⟨r, q⟩
  exact ⟨r, fun vs H1 s1 h1 => ⟨by rw [h1.length]; exact Nat.le_of_lt (small1000 hl), fun p hp => q p vs _ (s1.free hp) (s1.trans (same_new hp)) upd_same (h1.mono (same_new hp))⟩⟩
end
/-! ### defs that hand back a new list -/
def SpL (K : PySem.W.Frag) (Pf : List D → List D → Prop) : Sp := fun vs H Q _ => ∃ ds es, IsAll K H vs ds ∧ Pf ds es ∧ ∀ a us H', H a = none → Same H H' → H' a = some (.lst us) → IsAll K H' us es → Q (.ref a) H'
def FnL (P : Program) (w : World) (K : PySem.W.Frag) (mg : Str → Option Value) (base : Heap) (k : Nat) (x : Str) (Pf : List D → List D → Prop) : Prop :=
  ∃ f fd ps, FnOk P w K mg base CX0 k f fd ps (SpL K Pf) ∧ mg x = some (.ref f) ∧ PySem.W.keepIn K (.ref f) = true ∧ Binds K fd ps []
section
variable {X : Cx} {e a b c : Expr} {es : List Expr} {ρ : Ro} {d : D} {ds : List D} {pos : Pos} {rest : List Stmt} {Q : Po}
theorem evn_call {k : Nat} {x : Str} {Pf : List D → List D → Prop} {fs : List D} {p : Pos} (C : FnL X.prog X.w X.K X.mg X.base k x Pf) (hr : Room k X.A) (ha : EvA X (e :: es) ρ ds) (hp : Pf ds fs) (hg : Gl X x := by rfl) (hdb : (x == ("__debug__" : Str)) = false := by decide)
    (he : starEach (e :: es) X.env = (false, eval e X.env) :: starEach es X.env := by rfl) (hpl : (backTo pos (starEach es X.env)).any (·.1) = false := by rfl) : EvN X (.Call (.Name x p) (e :: es) [] pos) ρ fs := by
  obtain ⟨f, fd, ps, F, hm, hk, hb⟩ := C
  refine PE.imp (pe_call F hr hg hm hk hb .nil pass0 ha hdb he hpl) ?_
  rintro σ H Q ⟨r, q⟩
  refine ⟨r, fun vs H1 s1 h1 => ⟨ds, fs, ?_, hp, fun v us H' hv s' e' h' => q v us H' (s1.free hv) (s1.trans s') e' h'⟩⟩
  rw [List.append_nil]
  exact h1
end
section
variable {P : Program} {w : World} {K : PySem.W.Frag} {mg : Str → Option Value} {base : Heap}
theorem fnl_mk {x qual : Str} {st : Stmt} {f : Addr} {fd : FuncData} {N ps : List Str} {k : Nat} {Pf : List D → List D → Prop} (F : Fun K x qual st f fd) (S : FnScope N ps (defScope st)) (hm : mg x = some (.ref f)) (hb : Binds K fd ps [])
    (hl : ∀ ds es, Pf ds es → ds.length = ps.length ∧ ∀ a fs, D.lst a fs ∉ ds)
    (hbody : ∀ (cdv : Value) (A : Around) (outer : List Env) (s : Shared) (H : Hp) (E : XK), Room k (A.deeper (envOfC qual (defScope st) s.heap.objs.size f cdv)) → ∀ ds es, Pf ds es →
      Do (cxD P w K mg base N qual st f cdv A outer s H E) (defBody st) (ini N ds) { nx := fun _ => False, rt := fun d' => ∃ l, d' = .lst l es }) : FnL P w K mg base (k + 1) x Pf := by
  refine ⟨f, fd, ps, F.ok S (fun vs H Q E h => ?_) (fun cdv A outer s H vs Q E hr h => ?_), hm, F.kp, hb⟩
  · obtain ⟨ds, es, h1, h2, _⟩ := h
    rw [h1.length]
    exact (hl ds es h2).1
  · obtain ⟨ds, es, h1, h2, q⟩ := h
    refine ⟨_, hbody cdv A outer s H E hr ds es h2, ?_⟩
    refine ⟨relS_start (X := cxD P w K mg base N qual st f cdv A outer s H E) h1 (hl ds es h2).2, fun _ _ _ _ _ z => z.elim, fun v H' d' sm hv fr z => ?_, fun _ _ _ _ _ z => z.elim, fun _ _ _ _ _ z => z.elim⟩
    obtain ⟨l, z⟩ : ∃ l, d' = .lst l es := z
    subst z
    obtain ⟨rfl, us, e1, e2⟩ := hv.lst_inv
    exact q l us H' (fr l es rfl) sm e1 e2
end
end FL

/-! FR: promises that tell what is true of the answer -/
namespace FL
open PySem PySem.Spec PyProof.Rows L2
def tR (X : Cx) (ρ : Ro) (R : D → Prop) : TE := fun σ H Q => RelE X H σ ρ ∧ ∀ d v H', R d → Same H H' → Is X.K H' v d → Q v H'
def tRs (X : Cx) (ρ : Ro) (R : List D → Prop) : TA := fun σ H Q => RelE X H σ ρ ∧ ∀ ds vs H', R ds → Same H H' → IsAll X.K H' vs ds → Q vs H'
/-- e's answer is plain data with R -/
def EvR (X : Cx) (e : Expr) (ρ : Ro) (R : D → Prop) : Prop := PE X e (tR X ρ R)
def EvAR (X : Cx) (es : List Expr) (ρ : Ro) (R : List D → Prop) : Prop := PA X es (tRs X ρ R)
section
variable {X : Cx} {e a b c : Expr} {es : List Expr} {ρ : Ro} {d : D} {ds : List D} {pos : Pos} {i j : Int} {rest : List Stmt} {P : Po} {R S : D → Prop} {Rs : List D → Prop}
theorem EvR.imp (h : EvR X e ρ R) (f : ∀ d, R d → S d) : EvR X e ρ S := PE.imp h fun _ _ _ ⟨r, q⟩ => ⟨r, fun d v H' x s h => q d v H' (f d x) s h⟩
theorem EvA.r (h : EvA X es ρ ds) : EvAR X es ρ (fun x => x = ds) := PA.imp h fun _ _ _ ⟨r, q⟩ => ⟨r, fun v H' s h => q ds v H' rfl s h⟩
theorem do_setR (n : Nat) {x : Str} {pos' : Pos} (he : EvR X e ρ R) (hz : ∀ d, R d → Fz d) (h : ∀ d, R d → Do X rest (ρ.set n (some d)) P) (hN : X.N.Nodup) (hi : X.N[n]? = some x := by rfl) (hx : Loc X.env.scope x := by first | exact Or.inl rfl | exact Or.inr rfl)
    (hs : swapsWith e (some (.Name x pos')) pos.line X.env = pure false := by rfl) (hf : X.fn x = true ∨ X.env.scope.names.lookup x = some .local := by first | exact .inl rfl | exact .inr rfl) : Do X (.Assign [.Name x pos'] e pos :: rest) ρ P := by
  refine do_seq (M := fun ρ' => ∃ d, R d ∧ ρ' = ρ.set n (some d)) (PS.imp (ps_set hN hi hx he hs hf) ?_) (fun _ ⟨d, x, z⟩ => z ▸ h d x)
  rintro D σ H ⟨r, q1, q2, q3, q4⟩
  refine ⟨r.e, fun d v H' x s h' => ?_⟩
  have no : ∀ a ds, d = .lst a ds → False := fun a ds z => by have := hz d x; subst z; cases this
  exact q1 _ H' _ (Go.set s fun a ds z => (no a ds z).elim) ((r.mono s).set h' n (.inl (hz d x)) fun a ds z => (no a ds z).elim) ⟨d, x, rfl⟩
end
/-- a def's promise: where Pre holds of the arguments, Post of the answer -/
def SpR (K : PySem.W.Frag) (Pre : List D → Prop) (Post : List D → D → Prop) : Sp := fun vs H Q _ => ∃ ds, IsAll K H vs ds ∧ Pre ds ∧ ∀ d v H', Post ds d → Same H H' → Is K H' v d → Q v H'
def FnR (P : Program) (w : World) (K : PySem.W.Frag) (mg : Str → Option Value) (base : Heap) (k : Nat) (x : Str) (Pre : List D → Prop) (Post : List D → D → Prop) : Prop :=
  ∃ f fd ps, FnOk P w K mg base CX0 k f fd ps (SpR K Pre Post) ∧ mg x = some (.ref f) ∧ PySem.W.keepIn K (.ref f) = true ∧ Binds K fd ps []
section
variable {X : Cx} {e : Expr} {es : List Expr} {ρ : Ro} {ds : List D} {pos : Pos} {Rs : List D → Prop}
theorem evr_callR {k : Nat} {x : Str} {Pre : List D → Prop} {Post : List D → D → Prop} {p : Pos} (C : FnR X.prog X.w X.K X.mg X.base k x Pre Post) (hr : Room k X.A) (ha : EvAR X (e :: es) ρ Rs) (hp : ∀ ds, Rs ds → Pre ds) (hg : Gl X x := by rfl) (hdb : (x == ("__debug__" : Str)) = false := by decide)
    (he : starEach (e :: es) X.env = (false, eval e X.env) :: starEach es X.env := by rfl) (hpl : (backTo pos (starEach es X.env)).any (·.1) = false := by rfl) : EvR X (.Call (.Name x p) (e :: es) [] pos) ρ (fun d => ∃ ds, Rs ds ∧ Post ds d) := by
  obtain ⟨f, fd, ps, F, hm, hk, hb⟩ := C
  refine PE.imp (pe_call F hr hg hm hk hb .nil pass0 ha hdb he hpl) ?_
  rintro σ H Q ⟨r, q⟩
  refine ⟨r, fun ds vs H1 x1 s1 h1 => ⟨ds, ?_, hp ds x1, fun d v H' x2 s' h' => q d v H' ⟨ds, x1, x2⟩ (s1.trans s') h'⟩⟩
  rw [List.append_nil]
  exact h1
theorem evr_call {k : Nat} {x : Str} {Pre : List D → Prop} {Post : List D → D → Prop} {p : Pos} (C : FnR X.prog X.w X.K X.mg X.base k x Pre Post) (hr : Room k X.A) (ha : EvA X (e :: es) ρ ds) (hp : Pre ds) (hg : Gl X x := by rfl) (hdb : (x == ("__debug__" : Str)) = false := by decide)
    (he : starEach (e :: es) X.env = (false, eval e X.env) :: starEach es X.env := by rfl) (hpl : (backTo pos (starEach es X.env)).any (·.1) = false := by rfl) : EvR X (.Call (.Name x p) (e :: es) [] pos) ρ (Post ds) :=
  (evr_callR C hr ha.r (fun _ z => z ▸ hp) hg hdb he hpl).imp fun d ⟨_, z, h⟩ => z ▸ h
end
section
variable {P : Program} {w : World} {K : PySem.W.Frag} {mg : Str → Option Value} {base : Heap}
theorem fnr_mk {x qual : Str} {st : Stmt} {f : Addr} {fd : FuncData} {N ps : List Str} {k : Nat} {Pre : List D → Prop} {Post : List D → D → Prop} (F : Fun K x qual st f fd) (S : FnScope N ps (defScope st)) (hm : mg x = some (.ref f)) (hb : Binds K fd ps [])
    (hl : ∀ ds, Pre ds → ds.length = ps.length ∧ ∀ a es, D.lst a es ∉ ds)
    (hbody : ∀ (cdv : Value) (A : Around) (outer : List Env) (s : Shared) (H : Hp) (E : XK), Room k (A.deeper (envOfC qual (defScope st) s.heap.objs.size f cdv)) → ∀ ds, Pre ds →
      Do (cxD P w K mg base N qual st f cdv A outer s H E) (defBody st) (ini N ds) { nx := fun _ => Post ds .non, rt := Post ds }) : FnR P w K mg base (k + 1) x Pre Post := by
  refine ⟨f, fd, ps, F.ok S (fun vs H Q E h => ?_) (fun cdv A outer s H vs Q E hr h => ?_), hm, F.kp, hb⟩
  · obtain ⟨ds, h1, h2, _⟩ := h
    rw [h1.length]
    exact (hl ds h2).1
  · obtain ⟨ds, h1, h2, q⟩ := h
    refine ⟨_, hbody cdv A outer s H E hr ds h2, ?_⟩
    exact ⟨relS_start (X := cxD P w K mg base N qual st f cdv A outer s H E) h1 (hl ds h2).2, fun σ' H' ρ' _ r' z => q _ _ H' z r'.same .non, fun v H' d' sm hv _ z => q d' v H' z sm hv, fun _ _ _ _ _ z => z.elim, fun _ _ _ _ _ z => z.elim⟩
end
end FL

/-! FI: in, not in; == of lists; items by an open place -/
namespace FL
open PySem PySem.Spec PyProof.Rows L2
section
variable {X : Cx} {pins : List (Addr × Obj)} {σ : L2.St} {H : Hp} {s : Shared}
theorem Cm.cast {n : Nat} {d e f : D} (h : Cm n d f) (z : e = f) : Cm n d e := z ▸ h
open Classical in
/-- the answers of the items of a list, by their values -/
noncomputable def ansU (K : PySem.W.Frag) (H : Hp) (ds : List D) (x : D) (u : Value) : Bool := decide (∃ v d, RelV v u ∧ Is K H v d ∧ d ∈ ds ∧ d = x)
open Classical in
theorem ansU_at (I : L2.Inv X pins σ H s) {n : Nat} {ds : List D} {x d : D} {v : V} {u : Value} (hc : ∀ d ∈ ds, Cm n d x) (hd : d ∈ ds) (h : Is X.K H v d) (r : RelV v u) : ansU X.K H ds x u = eqb d x := by
  rw [Bool.eq_iff_iff, eqb_iff]
  unfold ansU
  rw [decide_eq_true_iff]
  constructor
  · rintro ⟨v', d', r', h', hd', e⟩
    cases r.inj r'
    have c : Cm n d d' := (hc d hd).cast e
    rw [Is.inj I c h h', e]
  · intro e
    exact ⟨v, d, r, h, hd, e⟩
theorem ansU_any (I : L2.Inv X pins σ H s) {n : Nat} {x : D} {ds0 : List D} (hc : ∀ d ∈ ds0, Cm n d x) : ∀ {vs : List V} {us : List Value} {ds : List D}, (∀ d ∈ ds, d ∈ ds0) → IsAll X.K H vs ds → Vals vs us → us.any (ansU X.K H ds0 x) = ds.any (fun d => eqb d x)
  | _, _, _, _, .nil, .nil => rfl
  | _, _, _, hs, .cons h q, .cons r t => by
    rw [List.any_cons, List.any_cons, ansU_at I hc (hs _ List.mem_cons_self) h r, ansU_any I hc (fun d hd => hs d (List.mem_cons_of_mem _ hd)) q t]
theorem ansU_items (I : L2.Inv X pins σ H s) {A : Around} {n : Nat} {x : D} {vx : V} {ux : Value} {ds0 : List D} (hc : ∀ d ∈ ds0, Cm n d x) (hu : A.units + n < cLine) (hx : Is X.K H vx x) (rx : RelV vx ux) :
    ∀ {vs : List V} {us : List Value} {ds : List D}, (∀ d ∈ ds, d ∈ ds0) → IsAll X.K H vs ds → Vals vs us → ∀ y ∈ us, SeqAt.EqAt A s y ux (ansU X.K H ds0 x y)
  | _, _, _, _, .nil, .nil => fun y hy => by cases hy
  | _, _, _, hs, .cons h q, .cons r t => fun y hy => by
    rcases List.mem_cons.mp hy with rfl | hy
    · rw [ansU_at I hc (hs _ List.mem_cons_self) h r]
      exact eqAt_D I A (hc _ (hs _ List.mem_cons_self)) hu h hx r rx
    · exact ansU_items I hc hu hx rx (fun d hd => hs d (List.mem_cons_of_mem _ hd)) q t y hy
end
section
variable {X : Cx}
noncomputable def inD (x : D) (ds : List D) : Bool := ds.any fun d => eqb d x
theorem inD_iff {x : D} {ds : List D} : inD x ds = true ↔ x ∈ ds := by
  unfold inD
  rw [List.any_eq_true]
  constructor
  · rintro ⟨d, h1, h2⟩
    rw [eqb_iff] at h2
    exact h2 ▸ h1
  · intro h
    exact ⟨x, h, eqb_iff.mpr rfl⟩
def rInD (X : Cx) (neg : Bool) : R2 := fun x y H Q => ∃ n d e ds, Is X.K H x d ∧ Is X.K H y e ∧ (lsD e = some ds ∨ e = .tup ds) ∧ (∀ z ∈ ds, Cm n z d) ∧ X.A.units + n + 1 < cLine ∧ Q (.bl (if neg then !inD d ds else inD d ds)) H
theorem op_inD : OpR X (compareOp .In) (rInD X false) := by
  intro pins s σ H x y v u Q I rx ry h
  obtain ⟨n, d, e, ds, h1, h2, h3, hc, hu, q⟩ := h
  rcases h3 with h3 | rfl
  · obtain ⟨a, xs, rfl, t, r⟩ := h2.lsD_inv h3
    cases ry
    obtain ⟨us, w1, p1, _⟩ := I.list t
    refine SeqAt.in_listAt (ansU X.K H ds d) p1.isList (fun z hz => ansU_items I hc (by show X.A.units + 1 + n < cLine; omega) h1 rx (fun _ h => h) r w1 z (by simpa using hz)) ?_
    have e' : us.toArray.any (ansU X.K H ds d) = inD d ds := by rw [List.any_toArray]; exact ansU_any I hc (fun _ h => h) r w1
    rw [e']
    exact ⟨.bl _, H, I, rfl, q⟩
  · obtain ⟨a, xs, rfl, t, r⟩ := h2.tup_inv
    cases ry
    obtain ⟨us, w1, p1, _⟩ := I.tuple t
    refine SeqAt.in_tupleAt (ansU X.K H ds d) p1 (fun z hz => ansU_items I hc (by show X.A.units + 1 + n < cLine; omega) h1 rx (fun _ h => h) r w1 z (by simpa using hz)) ?_
    have e' : us.toArray.any (ansU X.K H ds d) = inD d ds := by rw [List.any_toArray]; exact ansU_any I hc (fun _ h => h) r w1
    rw [e']
    exact ⟨.bl _, H, I, rfl, q⟩
variable {e a b c : Expr} {es : List Expr} {ρ : Ro} {d f : D} {ds fs : List D} {pos : Pos} {i j : Int} {k k' : Bool}
theorem rInD_of {n m : Nat} {neg : Bool} {x : D} (hr : Room m X.A) (hf : lsD f = some ds ∨ f = .tup ds) (hc : ∀ z ∈ ds, Cm n z x) (hn : n ≤ 60) (hk : d = .bl (if neg then !inD x ds else inD x ds)) :
    ∀ v1 v2 H Q, Is X.K H v1 x → Is X.K H v2 f → (∀ v H', Same H H' → Is X.K H' v d → Q v H') → rInD X neg v1 v2 H Q :=
  fun _ _ H _ h1 h2 q => ⟨n, x, f, ds, h1, h2, hf, hc, (by have := hr.units; omega), q _ H (Same.refl H) (hk ▸ .bl _)⟩
theorem ev_in {n m : Nat} (hr : Room m X.A) (ha : Ev X a ρ d) (hb : Ev X b ρ f) (hf : lsD f = some ds ∨ f = .tup ds) (hc : ∀ z ∈ ds, Cm n z d) (hn : n ≤ 60 := by decide) (hm : behindInMarks .In b = false := by rfl) : Ev X (.Compare a [.In] [b] pos) ρ (.bl (inD d ds)) :=
  ev_cmp op_inD ha hb hm (rInD_of hr hf hc hn rfl)
/-! == of two lists of plain data -/
def rEqL (X : Cx) (neg : Bool) : R2 := fun x y H Q => ∃ n d e ds es, Is X.K H x d ∧ Is X.K H y e ∧ lsD d = some ds ∧ lsD e = some es ∧ Cms n ds es ∧ X.A.units + n + 1 < cLine ∧ Q (.bl (if neg then !eqb (.tup ds) (.tup es) else eqb (.tup ds) (.tup es))) H
theorem op_neL : OpR X (compareOp .NotEq) (rEqL X true) := by
  intro pins s σ H x y v u Q I rx ry h
  obtain ⟨n, d, e, ds, es, h1, h2, l1, l2, c, hu, q⟩ := h
  obtain ⟨a, xs, rfl, t1, q1⟩ := h1.lsD_inv l1
  obtain ⟨b, ys, rfl, t2, q2⟩ := h2.lsD_inv l2
  cases rx
  cases ry
  obtain ⟨us, w1, p1, _⟩ := I.list t1
  obtain ⟨ws, w2, p2, _⟩ := I.list t2
  have e1 : us.length = ds.length := by rw [← w1.length, q1.length]
  have e2 : ws.length = es.length := by rw [← w2.length, q2.length]
  by_cases hz : ds.length = es.length
  · refine SeqAt.RcNeAt.lists p1.isList p2.isList (by simp; omega) (by omega) (fEq_items q1 q2 w1 w2 fun j d e v1 v2 u1 u2 d1 d2 i1 i2 k1 k2 => eqAt_D I X.A.in1 (c.get j _ _ d1 d2) (by show X.A.units + 1 + n < cLine; omega) i1 i2 k1 k2) _ _ _ _ ?_
    have ek : (List.range us.toArray.size).all (fEq ds es) = eqb (.tup ds) (.tup es) := by
      rw [fEq_all (n := us.length) (m := ws.length) e1 e2, List.size_toArray, show min us.length ws.length = us.length by omega, show (us.length == ws.length) = true by simp; omega, Bool.and_true]
    rw [ek]
    exact ⟨.bl _, H, I, rfl, q⟩
  · refine SeqAt.RcNeAt.lists_lengths p1.isList p2.isList (by simp; omega) (by omega) _ _ _ _ ?_
    have ek : eqb (.tup ds) (.tup es) = false := eqb_of (by
      constructor
      · intro z; cases z
      · intro z; cases z; exact absurd rfl hz)
    rw [ek] at q
    exact ⟨.bl _, H, I, rfl, q⟩
theorem rEqL_of {n m : Nat} {neg : Bool} {g : D} (hr : Room m X.A) (l1 : lsD f = some ds) (l2 : lsD g = some fs) (c : Cms n ds fs) (hn : n ≤ 60) (hk : d = .bl (if neg then !eqb (.tup ds) (.tup fs) else eqb (.tup ds) (.tup fs))) :
    ∀ v1 v2 H Q, Is X.K H v1 f → Is X.K H v2 g → (∀ v H', Same H H' → Is X.K H' v d → Q v H') → rEqL X neg v1 v2 H Q :=
  fun _ _ H _ h1 h2 q => ⟨n, f, g, ds, fs, h1, h2, l1, l2, c, (by have := hr.units; omega), q _ H (Same.refl H) (hk ▸ .bl _)⟩
theorem et_neL {n m : Nat} {g : D} (hr : Room m X.A) (ha : Ev X a ρ f) (hb : Ev X b ρ g) (l1 : lsD f = some ds) (l2 : lsD g = some fs) (c : Cms n ds fs) (hn : n ≤ 60 := by decide) : Et X (.Compare a [.NotEq] [b] pos) ρ (!eqb (.tup ds) (.tup fs)) :=
  et_cmp op_neL ha hb (nomark _) (rEqL_of hr l1 l2 c hn rfl)
end
end FL

/-! FT: what sorted() gives for fewer than 64 items, for any order that whole numbers tell -/
namespace FT
open PySem PySem.W PyProof.Rows
section
variable {r : Nat → Int} {n : Nat} {p p' : Array Nat}
end
end FT
/-! FT, further: the call of sorted() over a heap -/
namespace FT
open PySem PySem.W PySem.Calls PyProof.Rows
section
variable {prog : Program} {w : World} {A : Around} {E : Value → Shared → Prop} {s : Shared} {vs : List Value} {r : Nat → Int} {κ : SortKind}
end
end FT
/-! FT, the end: sorted() of tuples of whole numbers, fewer than 64 -/
namespace FT
open PySem PySem.W PySem.Spec PySem.Calls PyProof.Rows L2 FL
section
variable {prog : Program} {w : World} {A : Around} {s : Shared}
end
end FT
namespace FT
open PySem PySem.W PySem.Spec PySem.Calls PyProof.Rows L2 FL
section
variable {X : Cx} {pins : List (Addr × Obj)} {σ : L2.St} {H : Hp} {s : Shared}
variable {e : Expr} {ρ : Ro} {d : D} {pos p : Pos} {ts : List (List Int)} {k : Nat}
end
end FT

/-! FU: the order of tuples of whole numbers, asked by >= -/
namespace FU
open PySem PyProof.Rows HT
section
open PySem.SeqAt
open PySem.AutoSeq1 (wpAny_loadPart')
open PySem.MeetsSeq PySem.MeetsSeq2 PySem.MeetsSeq3
end
section
variable {prog : Program} {w : World} {A : Around} {E : Value → Shared → Prop} {s : Shared}
end
end FU
namespace FU
open PySem PySem.Spec PyProof.Rows L2 FL
section
variable {X : Cx} {a b : Expr} {ρ : Ro} {pos : Pos} {ns ms : List Int} {m : Nat}
end
end FU

/-! FV: names of the text that hold plain data; chains of comparisons; a list that is extended -/
namespace FL
open PySem PySem.Spec PyProof.Rows L2
/-- a name of the text that holds plain data -/
def Con (K : PySem.W.Frag) (mg : Str → Option Value) (x : Str) (d : D) : Prop := ∃ v u, mg x = some u ∧ RelV v u ∧ ∀ H, Is K H v d
theorem con_int {K : PySem.W.Frag} {mg : Str → Option Value} {x : Str} {i : Int} {t : Tok} (h : mg x = some (.int i t)) : Con K mg x (.int i) := ⟨.int i, _, h, ⟨t, rfl⟩, fun _ => .int i⟩
inductive IntsOf : List Value → List Int → Prop
  | nil : IntsOf [] []
  | cons {i : Int} {t : Tok} {us : List Value} {ns : List Int} (h : IntsOf us ns) : IntsOf (.int i t :: us) (i :: ns)
theorem IntsOf.vals : ∀ {us : List Value} {ns : List Int}, IntsOf us ns → Vals (ns.map V.int) us
  | _, _, .nil => .nil
  | _, _, .cons h => .cons ⟨_, rfl⟩ h.vals
theorem con_tup {K : PySem.W.Frag} {mg : Str → Option Value} {x : Str} {a : Addr} {od : Option Addr} {its : Array Value} {n : Nat} {sl : Array (Option Value)} {ns : List Int} (h : mg x = some (.ref a)) (hl : K.lookup a = some ⟨.type "tuple", od, .seq its n, sl⟩) (hi : IntsOf its.toList ns) (hn : its.size ≤ 1000 := by decide) : Con K mg x (.tup (ns.map D.int)) :=
  ⟨.ref a, _, h, rfl, fun _ => .tup (.inr ⟨_, its, n, hl, rfl, rfl, Nat.le_of_lt (small1000 hn), hi.vals⟩) (IsAll.ints ns)⟩
section
variable {X : Cx} {e a b c f : Expr} {es : List Expr} {ρ : Ro} {d : D} {ds gs : List D} {pos : Pos} {i j k l : Int} {rest : List Stmt} {P : Po}
theorem ev_con {x : Str} (C : Con X.K X.mg x d) (hg : Gl X x := by rfl) (hd : (x == ("__debug__" : Str)) = false := by decide) : Ev X (.Name x pos) ρ d := by
  obtain ⟨v, u, hm, r, h⟩ := C
  exact PE.imp (pe_glob hg hm r hd) fun _ H _ ⟨_, q⟩ => q _ H (Same.refl H) (h H)
end
end FL

/-! FW: floor division by any number but nought; tuple(list); comprehensions, with what they take from around them -/
namespace FL
open PySem PySem.Spec PyProof.Rows L2
section
variable {X : Cx} {e a b c f : Expr} {es : List Expr} {ρ : Ro} {d d' : D} {ds gs : List D} {pos : Pos} {i j k l : Int} {rest : List Stmt} {P : Po}
end
end FL
namespace FL
open PySem PySem.Spec PyProof.Rows L2
section
variable {P : Program} {w : World} {K : PySem.W.Frag} {mg : Str → Option Value} {base : Heap} {k : Nat} {x : Str}
end
end FL

/-! FX: a comprehension that is stored under a name -/
namespace FL
open PySem PySem.Spec PyProof.Rows L2
section
variable {X : Cx} {ρ : Ro} {ds : List D} {pos spos py : Pos} {rest : List Stmt} {P : Po}
end
end FL

/-! FY: x += e; range with a step; | 1 -/
namespace FL
open PySem PySem.Spec PyProof.Rows L2
section
variable {X : Cx} {e a b c tg : Expr} {es : List Expr} {ρ : Ro} {d : D} {ds : List D} {pos : Pos} {i j k : Int} {rest A B : List Stmt} {P : Po}
theorem do_aug (n : Nat) {x : Str} {pos' : Pos} (hρ : ρ[n]? = some (some (.int i))) (he : Ev X e ρ (.int j)) (h : Do X rest (ρ.set n (some (.int (i + j)))) P) (hN : X.N.Nodup) (hi : X.N[n]? = some x := by rfl) (hx : Loc X.env.scope x := by first | exact Or.inl rfl | exact Or.inr rfl)
    (hf : X.fn x = true ∨ X.env.scope.names.lookup x = some .local := by first | exact .inl rfl | exact .inr rfl) : Do X (.AugAssign (.Name x pos') .Add e pos :: rest) ρ P := by
  refine do_seq (M := fun ρ' => ρ' = ρ.set n (some (.int (i + j)))) (PS.imp (ps_aug hN hi hx he ip_add hf) ?_) (fun _ z => z ▸ h)
  rintro D σ H ⟨r, q1, q2, q3, q4⟩
  obtain ⟨v, e1, h1, _⟩ := r.val n _ hρ
  cases h1.int_inv
  refine ⟨.int i, e1, r.e, fun v H' s h' => ?_⟩
  cases h'.int_inv
  exact ⟨i, j, rfl, rfl, q1 _ H' _ (Go.set s fun a ds z => by cases z) ((r.mono s).set (.int _) n (.inl (.int _)) fun a ds z => by cases z) rfl⟩
end
/-- lo, lo + st, .. (n of them) -/
def ItrS (lo st : Int) (n : Nat) : It := ⟨fun i _ => i < n, fun i H x H' => H' = H ∧ x = .int (lo + i * st), fun i _ => n ≤ i⟩
theorem turn_rangeS {P : Program} {w : World} {K : PySem.W.Frag} {tg : Expr} (it : Addr) (lo st : Int) (n : Nat) : Turn P w K tg (ItrS lo st n) [it] it (fun i h => IsRangeIter h it (lo + (i : Nat) * st) ((n : Int) - (i : Nat)) st) where
  mem := by simp
  obj := fun i h st b hb => by
    have e : b = it := by simpa using hb
    subst e
    exact ⟨_, st, fun v z => by
      have z' : Data.fields _ = Data.cell v := z
      cases z'⟩
  keep := fun i h h' st k => k it (by simp) _ st
  item := by
    intro X hP hw hK hc i pins s σ H E I hf st' hg
    subst hP hw hK
    obtain ⟨f0, f1, f2, f3, f4, f5⟩ := hf it (by simp)
    have W := Walks.range (prog := X.prog) (w := X.w) (I.ok.hd hc) it lo st n
    refine W.item i s _ _ hg st' fun v h' tk hv st'' kk => ?_
    obtain ⟨t, rfl⟩ := hv
    have I1 : Inv X pins σ H { s with heap := h', toks := tk } := I.turned (fun b o hb e => kk b o (by simpa using hb) e) f0 f1 f3 f4 f5
    exact ⟨_, rfl, go_of (s := { s with heap := h', toks := tk }) (n := "range_iterator") st'' rfl rfl (by decide) ⟨.int (lo + i * st), H, I1, ⟨t, rfl⟩, ⟨rfl, rfl⟩, st'', fun b hb => (hf b hb).1⟩⟩
  done := by
    intro X hP hw hK hc i pins s σ H E I hf st' hg
    subst hP hw hK
    obtain ⟨f0, f1, f2, f3, f4, f5⟩ := hf it (by simp)
    exact wpAny_pyNext_range_end (I.ok.hd hc) st' (by have : n ≤ i := hg; omega) fun h' eb => ⟨rfl, I.turned (t' := s.toks) (fun b o hb e => eb b o hb e) f0 f1 f3 f4 f5⟩
  self := fun _ _ _ _ _ st h => wpAny_pyIter_rangeiter st h
section
variable {X : Cx} {e a b c tg : Expr} {es : List Expr} {ρ : Ro} {d : D} {ds : List D} {pos : Pos} {i j k : Int} {rest A B : List Stmt} {P : Po}
/-- how many -/
def manyS (lo hi st : Int) : Nat := ((hi - lo + st - 1) / st).toNat
theorem rangeIt3 {pins : List (Addr × Obj)} {σ : L2.St} {H : Hp} {s : Shared} {R : It → Hp → Prop} {E : Value → Shared → Prop} {lo hi st : Int} {t u v : Tok} {tk : Nat} (I : Inv X pins σ H s) (hs0 : 0 < st) (hs1 : st < 1000) (h1 : -(2 ^ 60) ≤ lo) (h2 : lo < 2 ^ 60) (h3 : -(2 ^ 60) ≤ hi) (h4 : hi < 2 ^ 60)
    (q : R (ItrS lo st (manyS lo hi st)) H) : wpAny (model X.prog X.w) X.A (pyIter (.ref s.heap.objs.size)) (PIE X pins σ tg R) E { s with heap := s.heap.push { cls := .type "range", data := .fields #[.int lo t, .int hi u, .int st v] }, toks := tk } := by
  have size : ((manyS lo hi st : Nat) : Int) = Builtin.Range.rangeSize lo hi st := by
    unfold Builtin.Range.rangeSize manyS
    rw [if_pos hs0]
    split
    · have e : hi - lo + st - 1 = (hi - lo - 1) + st * 1 := by omega
      rw [e, Int.add_mul_ediv_left _ _ (by omega)]
      have : 0 ≤ (hi - lo - 1) / st := Int.ediv_nonneg (by omega) (by omega)
      omega
    · have : (hi - lo + st - 1) / st ≤ 0 := by
        have h := Int.ediv_lt_of_lt_mul (a := hi - lo + st - 1) (b := 1) (c := st) hs0 (by omega)
        omega
      omega
  have hb : Builtin.Range.rangeSize lo hi st < 2 ^ 62 ∧ 0 ≤ Builtin.Range.rangeSize lo hi st := by
    unfold Builtin.Range.rangeSize
    rw [if_pos hs0]
    split
    · have h5 : 0 ≤ (hi - lo - 1) / st := Int.ediv_nonneg (by omega) (by omega)
      have h6 : (hi - lo - 1) / st ≤ hi - lo - 1 := Int.ediv_le_self _ (by omega)
      omega
    · omega
  have small : Builtin.Range.small lo hi st = true := by
    unfold Builtin.Range.small
    have c1 : Builtin.Range.rangeFitsLong lo = true := by simp only [Builtin.Range.rangeFitsLong, Bool.and_eq_true, decide_eq_true_eq]; omega
    have c2 : Builtin.Range.rangeFitsLong hi = true := by simp only [Builtin.Range.rangeFitsLong, Bool.and_eq_true, decide_eq_true_eq]; omega
    have c3 : Builtin.Range.rangeFitsLong st = true := by simp only [Builtin.Range.rangeFitsLong, Bool.and_eq_true, decide_eq_true_eq]; omega
    have c4 : Builtin.Range.rangeFitsLong (Builtin.Range.rangeSize lo hi st) = true := by simp only [Builtin.Range.rangeFitsLong, Bool.and_eq_true, decide_eq_true_eq]; omega
    have c5 : Builtin.Range.rangeFitsLong (hi + (st - 1)) = true := by simp only [Builtin.Range.rangeFitsLong, Bool.and_eq_true, decide_eq_true_eq]; omega
    rw [c1, c2, c3, c4, if_pos hs0, c5]
    simp
  refine wpAny_pyIter_range (IsRange.new ..) small ?_
  have I1 : Inv X pins σ H { s with heap := s.heap.push { cls := .type "range", data := .fields #[.int lo t, .int hi u, .int st v] }, toks := tk } := I.kept fun b o e => Heap.get?_push_of_some _ e
  refine ⟨(s.heap.push { cls := .type "range", data := .fields #[.int lo t, .int hi u, .int st v] }).objs.size, [(s.heap.push { cls := .type "range", data := .fields #[.int lo t, .int hi u, .int st v] }).objs.size], _, _, H, rfl,
    I1.kept (t' := tk) fun b o e => Heap.get?_push_of_some _ e, turn_rangeS _ lo st (manyS lo hi st), ?_, fun b hb => ?_, q⟩
  · have e1 : lo + ((0 : Nat) : Int) * st = lo := by simp
    have e2 : ((manyS lo hi st : Nat) : Int) - ((0 : Nat) : Int) = Builtin.Range.rangeSize lo hi st := by omega
    show IsRangeIter _ _ (lo + ((0 : Nat) : Int) * st) (((manyS lo hi st : Nat) : Int) - ((0 : Nat) : Int)) st
    rw [e1, e2]
    exact Heap.get?_push_size _ rfl
  · have e : b = (s.heap.push { cls := .type "range", data := .fields #[.int lo t, .int hi u, .int st v] }).objs.size := by simpa using hb
    subst e
    exact I1.fpOk (Nat.le_refl _) (I1.hok.fresh (Nat.le_refl _))
theorem srcOk_rangeS {K : PySem.W.Frag} {lo st : Int} {n : Nat} {H : Hp} : SrcOk K (ItrS lo st n) H ((List.range n).map fun (t : Nat) => D.int (lo + t * st)) := by
  intro H3 s3
  refine ⟨fun i hi => (by show n ≤ i; simpa using hi), fun i d hd => ?_⟩
  rw [List.getElem?_map] at hd
  by_cases hn : i < n
  · rw [List.getElem?_range hn] at hd
    cases hd
    refine ⟨hn, fun x H4 ⟨e1, e2⟩ => ⟨e1, by rw [e2]; exact .int _⟩⟩
  · rw [List.getElem?_eq_none (by simpa using hn)] at hd
    cases hd
theorem srcS_RS {Ok : Ro → Prop} {H : Hp} {lo st : Int} {n : Nat} : SrcS X Ok (ItrS lo st n) ρ H ((List.range n).map fun (t : Nat) => D.int (lo + t * st)) := by
  intro ρ' H3 σ3 g r3 _
  exact srcOk_rangeS (K := X.K) (H := H3) H3 (Same.refl H3)
theorem three_inv {K : PySem.W.Frag} {H : Hp} {vs : List V} {d d' d'' : D} (h : IsAll K H vs [d, d', d'']) : ∃ v v' v'', vs = [v, v', v''] ∧ Is K H v d ∧ Is K H v' d' ∧ Is K H v'' d'' := by
  cases h with
  | cons h r =>
    obtain ⟨v', v'', rfl, h', h''⟩ := two_inv r
    exact ⟨_, _, _, rfl, h, h', h''⟩
/-- for x in range(a, b, c) -/
theorem wk_range3 {p : Pos} {st : Int} (hm : X.mg "range" = none) (ha : Ev X a ρ (.int i)) (hb : Ev X b ρ (.int j)) (hc : Ev X c ρ (.int st)) (hs0 : 0 < st) (hs1 : st < 1000) (h0 : -(2 ^ 60) ≤ i) (h0' : i < 2 ^ 60) (h1 : -(2 ^ 60) ≤ j) (h2 : j < 2 ^ 60) (hg : Gl X "range" := by rfl)
    (hs : starEach [a, b, c] X.env = [(false, eval a X.env), (false, eval b X.env), (false, eval c X.env)] := by rfl) (hs2 : starEach [b, c] X.env = [(false, eval b X.env), (false, eval c X.env)] := by rfl) (hs3 : starEach [c] X.env = [(false, eval c X.env)] := by rfl) :
    Wk X (fun _ => True) tg (.Call (.Name "range" p) [a, b, c] [] pos) ρ ((List.range (manyS i j st)).map fun (t : Nat) => D.int (i + t * st)) := by
  intro pins s σ H R I h
  obtain ⟨r, q⟩ := h
  refine Call_ (ld_blt I hg hm boot_range (PyProof.Rows.callWith_type1 (thn (ea_cons ha (ea_cons hb (ea_cons hc ea_nil hs3) (hs2.trans (by rw [hs3]))) (hs.trans (by rw [hs2])) pos pins s σ H _ I ⟨r.e, fun vs H1 s1 h3 => (show ∃ v v' v'', vs = [v, v', v''] ∧ Is X.K H1 v (.int i) ∧ Is X.K H1 v' (.int j) ∧ Is X.K H1 v'' (.int st) ∧ Same H H1 from by
      obtain ⟨v, v', v'', e, k1, k2, k3⟩ := three_inv h3
      exact ⟨v, v', v'', e, k1, k2, k3, s1⟩)⟩) fun us s1 ⟨vs, H1, I1, r1, q1⟩ => ?_) (by rw [hs, hs2]) (by rw [hs2]; rfl)))
  obtain ⟨v, v', v'', rfl, k1, k2, k3, sm⟩ := q1
  cases k1.int_inv
  cases k2.int_inv
  cases k3.int_inv
  cases r1 with
  | cons r0 rr =>
    cases rr with
    | cons r' rr =>
      cases rr with
      | cons r'' rr =>
        cases rr
        obtain ⟨t, rfl⟩ := r0
        obtain ⟨t', rfl⟩ := r'
        obtain ⟨t'', rfl⟩ := r''
        exact call_range_3 (by omega) (rangeIt3 I1 hs0 hs1 h0 h0' h1 h2 (q _ H1 sm srcS_RS)) (.inl (PyProof.noPylong_small (by omega)))
end
end FL

/-! the mathematics of k03 -/
namespace M
end M

/-! MT: forms, turnings, least forms: the mathematics -/
namespace MT
def Wo (a b c x y : Int) : Int := a * x * x + b * x * y + c * y * y
/-- a least form -/
structure Least (a b c : Int) : Prop where
  lo : -a < b
  hi : b ≤ a
  ac : a ≤ c
  eq : a = c → 0 ≤ b
theorem sq_pos {x : Int} (h : x ≠ 0) : 1 ≤ x * x := by
  rcases Int.lt_or_gt_of_ne h with h | h
  · have := Int.mul_pos (show 0 < -x by omega) (show 0 < -x by omega)
    grind
  · have := Int.mul_pos h h
    omega
theorem sq_nonneg (x : Int) : 0 ≤ x * x := by
  by_cases h : x = 0
  · subst h; decide
  · have := sq_pos h; omega
theorem mul_nn {x y : Int} (hx : 0 ≤ x) (hy : 0 ≤ y) : 0 ≤ x * y := Int.mul_nonneg hx hy
end MT
namespace MT
/-- least, as an answer -/
def leastB (a b c : Int) : Bool := decide (-a < b) && decide (b ≤ a) && decide (a ≤ c) && (decide (a ≠ c) || decide (0 ≤ b))
theorem leastB_iff {a b c : Int} : leastB a b c = true ↔ Least a b c := by
  unfold leastB
  simp only [Bool.and_eq_true, Bool.or_eq_true, decide_eq_true_eq]
  constructor
  · rintro ⟨⟨⟨h1, h2⟩, h3⟩, h4⟩
    exact ⟨h1, h2, h3, fun z => by rcases h4 with h | h <;> omega⟩
  · rintro ⟨h1, h2, h3, h4⟩
    refine ⟨⟨⟨h1, h2⟩, h3⟩, ?_⟩
    by_cases z : a = c
    · exact .inr (h4 z)
    · exact .inl z
/-- the numbers of a turning, by the form that it leads from and what comes -/
theorem turn_small {a b c x y v : Int} (ha : 0 < a) (hd : b * b - 4 * a * c < 0) (e : v = Wo a b c x y) : y * y ≤ 4 * (a * v) ∧ (2 * a * x + b * y) * (2 * a * x + b * y) ≤ 4 * (a * v) := by
  have e1 : 4 * (a * v) = (2 * a * x + b * y) * (2 * a * x + b * y) + (4 * a * c - b * b) * (y * y) := by rw [e]; unfold Wo; grind
  have s1 := sq_nonneg (2 * a * x + b * y)
  have s2 := mul_nn (show 0 ≤ 4 * a * c - b * b - 1 by omega) (sq_nonneg y)
  have s3 : (4 * a * c - b * b) * (y * y) = (4 * a * c - b * b - 1) * (y * y) + y * y := by grind
  have s4 := sq_nonneg y
  omega
end MT
namespace MT
theorem z_small {x y z : Int} (hx : 0 < x) (h1 : -x ≤ y) (h2 : y ≤ x) (hd : y * y - 4 * x * z < 0) : 0 < z ∧ 4 * z ≤ x - (y * y - 4 * x * z) := by
  have t1 := mul_nn (show 0 ≤ x - y by omega) (show 0 ≤ x + y by omega)
  have t2 := mul_nn (show 0 ≤ x - 1 by omega) (show 0 ≤ -(y * y - 4 * x * z) by omega)
  constructor
  · by_cases hz : 0 < z
    · exact hz
    · have := mul_nn (Int.le_of_lt hx) (show 0 ≤ -z by omega)
      have := sq_nonneg y
      grind
  · refine Int.le_of_mul_le_mul_left (a := x) ?_ hx
    grind
end MT

/-! MO: a least form's own turnings -/
namespace MT
end MT

/-! CM: what the laws of this program have in common, without a row: promises of defs, what the script draws -/
namespace CM
open PySem PySem.Spec L2 FL
/-! ### formturn.whole -/
def p_is_whole (ds : List D) (d : D) : Prop := ∃ i : Int, ds = [.int i] ∧ d = .bl true
def p_is_whole_tuple (ds : List D) (d : D) : Prop := ∃ ns : List Int, ds = [.tup (ns.map D.int), .int (ns.length : Int)] ∧ ns.length ≤ 1000 ∧ d = .bl true
/-! ### formturn.forms -/
def p_bar_of_numbers (ds : List D) (d : D) : Prop := ∃ a b c : Int, ds = [.int a, .int b, .int c] ∧ Bd a 8000 ∧ Bd b 8000 ∧ Bd c 8000 ∧ d = .int (b * b - 4 * a * c)
/-- the numbers of a form, of moderate size -/
structure FormN (a b c : Int) : Prop where
  pos : 0 < a
  bar : b * b - 4 * a * c < 0
  sa : Bd a 8000
  sb : Bd b 8000
  sc : Bd c 8000
abbrev formD (a b c : Int) : D := .tup [.int a, .int b, .int c]
def p_is_form (ds : List D) (d : D) : Prop := ∃ a b c : Int, ds = [formD a b c] ∧ FormN a b c ∧ d = .bl true
def p_require_form (ds : List D) (d : D) : Prop := ∃ a b c : Int, ds = [formD a b c] ∧ FormN a b c ∧ d = .non
/-! ### the law's own defs -/
def p_law_ints (ds : List D) (d : D) : Prop := ∃ ns : List Int, ds = [.tup (ns.map D.int), .int (ns.length : Int)] ∧ d = .bl true
/-- a cell of the script -/
abbrev cell (ns : List Int) (k : Nat) : Int := ns.getD k 0
abbrev scrD (ns : List Int) : D := .ls (ns.map D.int)
def p_law_cell_at (ds : List D) (d : D) : Prop := ∃ (ns : List Int) (k : Nat), ds = [scrD ns, .int (k : Int)] ∧ d = .int (cell ns k)
def p_law_worth (ds : List D) (d : D) : Prop := ∃ a b c x y : Int, ds = [formD a b c, .tup [.int x, .int y]] ∧ Bd a 8000 ∧ Bd b 8000 ∧ Bd c 8000 ∧ Bd x 8000 ∧ Bd y 8000 ∧ d = .int (a * x * x + b * x * y + c * y * y)
def Sizes (ns : List Int) : Prop := ∀ k : Nat, Bd (cell ns k) 1048576
theorem fz_ints (ns : List Int) : Fz (.tup (ns.map D.int)) := .tup fun d hd => by
  obtain ⟨z, _, rfl⟩ := List.mem_map.mp hd
  exact .int z
theorem fz3 (a b c : Int) : Fz (formD a b c) := fz_ints [a, b, c]
theorem fz2 (a b : Int) : Fz (.tup [.int a, .int b]) := fz_ints [a, b]
def p_law (ds : List D) (d : D) : Prop := ∃ ns : List Int, ds = [scrD ns] ∧ ns.length ≤ 63 ∧ Sizes ns ∧ d = .bl true
theorem law_sp (ns : List Int) (hl : ns.length ≤ 63) (hb : ∀ z ∈ ns, Builtin.Int.intBits z ≤ 1048576) : p_law [.ls (ns.map D.int)] (.bl true) := by
  refine ⟨ns, rfl, hl, fun k => ⟨?_⟩, rfl⟩
  by_cases h : k < ns.length
  · have e : cell ns k = ns[k] := by simp [cell, List.getD, List.getElem?_eq_getElem h]
    rw [e]
    exact hb _ (List.getElem_mem h)
  · have e : cell ns k = 0 := by simp [cell, List.getD, List.getElem?_eq_none (Nat.le_of_not_lt h)]
    rw [e]
    exact Nat.le_trans (bd_0).lt (by decide)
/-- what the built-in names mean -/
structure Tx (mg : Str → Option Value) : Prop where
  abs : mg "abs" = none
  all : mg "all" = none
  any : mg "any" = none
  bool : mg "bool" = none
  dict : mg "dict" = none
  enumerate : mg "enumerate" = none
  int : mg "int" = none
  isi : mg "isinstance" = none
  len : mg "len" = none
  list : mg "list" = none
  max : mg "max" = none
  min : mg "min" = none
  range : mg "range" = none
  reversed : mg "reversed" = none
  sorted : mg "sorted" = none
  str : mg "str" = none
  sum : mg "sum" = none
  tuple : mg "tuple" = none
  zip : mg "zip" = none

/-! ### turnings -/
abbrev turD (p q r s : Int) : D := .tup [.int p, .int q, .int r, .int s]
abbrev plD (x y : Int) : D := .tup [.int x, .int y]
def p_law_sent (ds : List D) (d : D) : Prop := ∃ p q r s x y : Int, ds = [turD p q r s, plD x y] ∧ Bd p 8000 ∧ Bd q 8000 ∧ Bd r 8000 ∧ Bd s 8000 ∧ Bd x 8000 ∧ Bd y 8000 ∧ d = plD (p * x + q * y) (r * x + s * y)
/-- a form led by a turning -/
abbrev wo (a b c x y : Int) : Int := a * x * x + b * x * y + c * y * y
/-! ### a part of the script -/
/-! ### formturn.turning -/
structure TurnN (p q r s : Int) : Prop where
  det : p * s - q * r = 1
  sp : Bd p 7000
  sq : Bd q 7000
  sr : Bd r 7000
  ss : Bd s 7000
def p_is_turning (ds : List D) (d : D) : Prop := ∃ p q r s : Int, ds = [turD p q r s] ∧ TurnN p q r s ∧ d = .bl true
def p_require_turning (ds : List D) (d : D) : Prop := ∃ p q r s : Int, ds = [turD p q r s] ∧ TurnN p q r s ∧ d = .non
def p_way_back (ds : List D) (d : D) : Prop := ∃ p q r s : Int, ds = [turD p q r s] ∧ TurnN p q r s ∧ d = turD s (-q) (-r) p
/-! ### least forms -/
/-- a form whose bar is of moderate size too -/
structure FormS (a b c : Int) : Prop where
  pos : 0 < a
  bar : b * b - 4 * a * c < 0
  sa : Bd a 3000
  sb : Bd b 3000
  sc : Bd c 3000
  sd : Bd (b * b - 4 * a * c) 1200
theorem FormS.n {a b c : Int} (h : FormS a b c) : FormN a b c := ⟨h.pos, h.bar, h.sa.up _ (by decide), h.sb.up _ (by decide), h.sc.up _ (by decide)⟩
/-- the turning leads from the first form to the second -/
structure Leads (a b c p q r s a' b' c' : Int) : Prop where
  det : p * s - q * r = 1
  e1 : a' = MT.Wo a b c p r
  e2 : b' = 2 * a * p * q + b * (p * s + q * r) + 2 * c * r * s
  e3 : c' = MT.Wo a b c q s
theorem Leads.bar {a b c p q r s a' b' c' : Int} (h : Leads a b c p q r s a' b' c') : b' * b' - 4 * a' * c' = b * b - 4 * a * c := by
  rw [h.e1, h.e2, h.e3]
  have := h.det
  unfold MT.Wo
  grind
theorem Leads.back {a b c p q r s a' b' c' : Int} (h : Leads a b c p q r s a' b' c') : Leads a' b' c' s (-q) (-r) p a b c := by
  have d := h.det
  refine ⟨by grind, ?_, ?_, ?_⟩
  · rw [h.e1, h.e2, h.e3]; unfold MT.Wo; grind
  · rw [h.e1, h.e2, h.e3]; unfold MT.Wo; grind
  · rw [h.e1, h.e2, h.e3]; unfold MT.Wo; grind
/-- the column of a turning, by the size of what it makes -/
theorem col_bd {a b c x y v : Int} {n k : Nat} (ha : 0 < a) (hd : b * b - 4 * a * c < 0) (sa : Bd a 3000) (sb : Bd b 3000) (sv : Bd v n) (e : v = MT.Wo a b c x y) (hk : 3003 + n ≤ k + k) : Bd y k ∧ Bd x (3002 + k) := by
  obtain ⟨h1, h2⟩ := MT.turn_small ha hd e
  have s4 : Bd (4 * (a * v)) (k + k) := Bd.mul bd_4 (Bd.mul sa sv (3000 + n) (Nat.le_refl _)) _ (by omega)
  have by' : Bd y k := Bd.sqrt h1 s4
  have bz : Bd (2 * a * x + b * y) k := Bd.sqrt h2 s4
  refine ⟨by', Bd.factor ha ?_⟩
  have e2 : 2 * a * x = (2 * a * x + b * y) - b * y := by omega
  rw [e2]
  exact Bd.sub bz (Bd.mul sb by' (3000 + k) (Nat.le_refl _)) _ (by omega)
def pre_form (ds : List D) : Prop := ∃ a b c : Int, ds = [formD a b c] ∧ FormS a b c
def post_least_of (ds : List D) (d : D) : Prop := ∀ a b c : Int, ds = [formD a b c] → ∃ a' b' c' p q r s : Int, d = .tup [formD a' b' c', turD p q r s] ∧ MT.Least a' b' c' ∧ FormS a' b' c' ∧ TurnN p q r s ∧ Leads a b c p q r s a' b' c'
def p_law_good (ds : List D) (d : D) : Prop := ∃ a b c : Int, ds = [formD a b c] ∧ 0 < a ∧ d = .bl (MT.leastB a b c)
theorem fz_pair {d e : D} (h1 : Fz d) (h2 : Fz e) : Fz (.tup [d, e]) := .tup fun x hx => by
  simp only [List.mem_cons, List.not_mem_nil, or_false] at hx
  rcases hx with rfl | rfl
  · exact h1
  · exact h2
theorem fz_post {ds : List D} {d : D} {a b c : Int} (hd : ds = [formD a b c]) (h : post_least_of ds d) : Fz d := by
  obtain ⟨a', b', c', p, q, r, s, rfl, _⟩ := h a b c hd
  exact fz_pair (fz3 _ _ _) (fz_ints [_, _, _, _])
theorem Leads.turn {a b c p q r s x y z : Int} (h : Leads a b c p q r s x y z) (f : FormS a b c) (g : FormS x y z) : TurnN p q r s := by
  obtain ⟨h1, h2⟩ := col_bd (k := 3002) f.pos f.bar f.sa f.sb g.sa h.e1 (by decide)
  obtain ⟨h3, h4⟩ := col_bd (k := 3002) f.pos f.bar f.sa f.sb g.sc h.e3 (by decide)
  exact ⟨h.det, h2.up _ (by decide), h4.up _ (by decide), h1.up _ (by decide), h3.up _ (by decide)⟩
theorem bd_quarter {z w : Int} {k : Nat} (hz : 0 < z) (h : 4 * z ≤ w) (hw : Bd w (k + 1)) : Bd z k := by
  refine .of_lt ?_
  have h1 := intBits_le_iff.mp hw.lt
  rw [Nat.pow_succ] at h1
  generalize 2 ^ k = m at *
  omega
/-- a shift of the middle number into its bounds -/
theorem shift_ok {x y z : Int} (f : FormS x y z) : ∃ y' z' : Int, y' = y + 2 * x * ((x - y) / (2 * x)) ∧ -x < y' ∧ y' ≤ x ∧ Leads x y z 1 ((x - y) / (2 * x)) 0 1 x y' z' ∧ FormS x y' z' := by
  have hx := f.pos
  generalize hk : (x - y) / (2 * x) = k
  have h1 : (x - y) = 2 * x * k + (x - y) % (2 * x) := by rw [← hk]; exact (Int.mul_ediv_add_emod (x - y) (2 * x)).symm
  have h2 := Int.emod_nonneg (x - y) (show 2 * x ≠ 0 by omega)
  have h3 := Int.emod_lt_of_pos (x - y) (show 0 < 2 * x by omega)
  have lo : -x < y + 2 * x * k := by omega
  have hi : y + 2 * x * k ≤ x := by omega
  have L : Leads x y z 1 k 0 1 x (y + 2 * x * k) (x * k * k + y * k + z) := by
    refine ⟨by omega, ?_, ?_, ?_⟩ <;> (try unfold MT.Wo) <;> grind
  have bar := L.bar
  refine ⟨_, _, rfl, lo, hi, L, hx, by rw [bar]; exact f.bar, f.sa, f.sa.le (by omega), ?_, by rw [bar]; exact f.sd⟩
  obtain ⟨z0, z1⟩ := MT.z_small hx (by omega) hi (by rw [bar]; exact f.bar)
  rw [bar] at z1
  exact bd_quarter z0 z1 (Bd.sub f.sa (f.sd.up 3000 (by decide)) _ (by decide))
/-- the ends change places -/
theorem swap_ok {x y z : Int} (f : FormS x y z) (hz : 0 < z) : Leads x y z 0 (-1) 1 0 z (-y) x ∧ FormS z (-y) x := by
  have L : Leads x y z 0 (-1) 1 0 z (-y) x := by
    refine ⟨by omega, ?_, ?_, ?_⟩ <;> (try unfold MT.Wo) <;> grind
  have bar := L.bar
  exact ⟨L, hz, by rw [bar]; exact f.bar, f.sc, ⟨intBits_neg_le f.sb.lt⟩, f.sa, by rw [bar]; exact f.sd⟩
theorem FormS.zpos {x y z : Int} (f : FormS x y z) : 0 < z := by
  have h1 := f.pos
  have h2 := f.bar
  by_cases hz : 0 < z
  · exact hz
  · have := MT.mul_nn (Int.le_of_lt h1) (show 0 ≤ -z by omega)
    have := MT.sq_nonneg y
    grind
/-! ### a drawn least form -/
/-! ### two forms alike -/
theorem fz_three {d e f : D} (h1 : Fz d) (h2 : Fz e) (h3 : Fz f) : Fz (.tup [d, e, f]) := .tup fun x hx => by
  simp only [List.mem_cons, List.not_mem_nil, or_false] at hx
  rcases hx with rfl | rfl | rfl
  · exact h1
  · exact h2
  · exact h3
end CM

/-! C7: a form's own turnings, its smallest worth -/
namespace CM
open PySem PySem.Spec L2 FL FT
end CM
namespace CM
open PySem PySem.Spec L2 FL FT
end CM
namespace CM
open PySem PySem.Spec L2 FL FT
def isL : Option D → Bool
  | some (.lst _ _) => true
  | _ => false
theorem others_of {ρ : Ro} {n : Nat} (h : (ρ.set n none).any isL = false) {l : Addr} : ∀ (j : Nat) (es : List D), j ≠ n → ρ[j]? ≠ some (some (.lst l es)) := fun j es hj e => by
  have : (ρ.set n none)[j]? = some (some (.lst l es)) := by rw [List.getElem?_set_ne (fun z => hj z.symm)]; exact e
  have m := List.mem_of_getElem? this
  rw [List.any_eq_false] at h
  exact absurd rfl (h _ m)
end CM
namespace CM
open PySem PySem.Spec L2 FL FT
end CM
namespace CM
open PySem PySem.Spec L2 FL FT
end CM

/-! C8: the steps towards a least form -/
namespace CM
open PySem PySem.Spec L2 FL FT
def p_stepped (ds : List D) (d : D) : Prop := ∃ a b c k : Int, ds = [formD a b c, .int k] ∧ Bd a 8000 ∧ Bd b 8000 ∧ Bd k 8000 ∧ d = formD a (b + 2 * a * k) (c + k * (b + a * k))
def p_behind_step (ds : List D) (d : D) : Prop := ∃ p q r s k : Int, ds = [turD p q r s, .int k] ∧ Bd p 8000 ∧ Bd r 8000 ∧ Bd k 8000 ∧ d = turD p (q + p * k) r (s + r * k)
def p_swapped (ds : List D) (d : D) : Prop := ∃ a b c : Int, ds = [formD a b c] ∧ d = formD c (-b) a
def p_behind_swap (ds : List D) (d : D) : Prop := ∃ p q r s : Int, ds = [turD p q r s] ∧ d = turD q (-p) s (-r)
def p_step_to_middle (ds : List D) (d : D) : Prop := ∃ a b c : Int, ds = [formD a b c] ∧ 0 < a ∧ Bd a 8000 ∧ d = .int ((a - b) / (2 * a))
theorem Leads.stepK {a b c p q r s x y z : Int} (h : Leads a b c p q r s x y z) (k : Int) : Leads a b c p (q + p * k) r (s + r * k) x (y + 2 * x * k) (z + k * (y + x * k)) := by
  have d := h.det
  refine ⟨by grind, h.e1, ?_, ?_⟩
  · rw [h.e2, h.e1]; unfold MT.Wo; grind
  · rw [h.e3, h.e2, h.e1]; unfold MT.Wo; grind
theorem Leads.swapK {a b c p q r s x y z : Int} (h : Leads a b c p q r s x y z) : Leads a b c q (-p) s (-r) z (-y) x := by
  have d := h.det
  refine ⟨by grind, h.e3, ?_, ?_⟩
  · rw [h.e2]; grind
  · rw [h.e1]; unfold MT.Wo; grind
theorem shift_S {x y z : Int} (f : FormS x y z) : -x < y + 2 * x * ((x - y) / (2 * x)) ∧ y + 2 * x * ((x - y) / (2 * x)) ≤ x ∧ FormS x (y + 2 * x * ((x - y) / (2 * x))) (z + ((x - y) / (2 * x)) * (y + x * ((x - y) / (2 * x)))) ∧ Bd ((x - y) / (2 * x)) 7000 := by
  obtain ⟨y', z', ey, lo, hi, L, g⟩ := shift_ok f
  have t := L.turn f g
  generalize (x - y) / (2 * x) = k at *
  have ez : z' = z + k * (y + x * k) := by rw [L.e3]; unfold MT.Wo; grind
  subst ey ez
  exact ⟨lo, hi, g, t.sq⟩
def meas2At (x y : Int) : Nat := (2 * x + if y < 0 then 1 else 0).toNat
def meas2 (ρ : Ro) (i : Nat) : Nat := match ρ[i]? with
  | some (some (.tup [.int x, .int y, .int _])) => meas2At x y
  | _ => 0
theorem meas2_lt {x y z : Int} (hz : 0 < z) (hlo : -x < y) (hk : z < x ∨ x = z ∧ y < 0) : meas2At z (-y + 2 * z * ((z - -y) / (2 * z))) < meas2At x y := by
  unfold meas2At
  rcases hk with h | ⟨rfl, h⟩
  · generalize -y + 2 * z * ((z - -y) / (2 * z)) = w
    have h1 : (if w < 0 then (1 : Int) else 0) ≤ 1 := by split <;> omega
    have h2 : (0 : Int) ≤ if y < 0 then (1 : Int) else 0 := by split <;> omega
    omega
  · have e : (x - -y) / (2 * x) = 0 := Int.ediv_eq_zero_of_lt (by omega) (by omega)
    rw [e, if_pos h, if_neg (by omega)]
    omega
theorem TurnN.back {p q r s : Int} (h : TurnN p q r s) : TurnN s (-q) (-r) p :=
  ⟨by have := h.det; grind, h.ss, ⟨intBits_neg_le h.sq.lt⟩, ⟨intBits_neg_le h.sr.lt⟩, h.sp⟩
end CM
namespace CM
open PySem PySem.Spec L2 FL FT
end CM
namespace CM
open PySem PySem.Spec L2 FL FT
end CM

/-! ME: common divisors with shares -/
namespace ME
theorem bezN (n m : Nat) : ∃ x y : Int, x * n + y * m = (Nat.gcd n m : Nat) := by
  induction n, m using Nat.gcd.induction with
  | H0 n => exact ⟨0, 1, by simp⟩
  | H1 m n hm ih =>
    obtain ⟨x, y, h⟩ := ih
    refine ⟨y - x * (n / m : Nat), x, ?_⟩
    rw [Nat.gcd_rec, ← h]
    have e := Nat.div_add_mod n m
    have e' : (n : Int) = (m : Int) * (n / m : Nat) + (n % m : Nat) := by exact_mod_cast e.symm
    generalize ((n / m : Nat) : Int) = q at *
    generalize ((n % m : Nat) : Int) = r at *
    rw [e']
    grind
theorem bez (a b : Int) : ∃ x y : Int, x * a + y * b = (Int.gcd a b : Nat) := by
  obtain ⟨x, y, h⟩ := bezN a.natAbs b.natAbs
  have e : (Int.gcd a b : Nat) = Nat.gcd a.natAbs b.natAbs := rfl
  rw [e, ← h]
  rcases Int.natAbs_eq a with ha | ha <;> rcases Int.natAbs_eq b with hb | hb
  · exact ⟨x, y, by rw [← ha, ← hb]⟩
  · refine ⟨x, -y, ?_⟩
    have : ((b.natAbs : Nat) : Int) = -b := by omega
    rw [this, ← ha]
    grind
  · refine ⟨-x, y, ?_⟩
    have : ((a.natAbs : Nat) : Int) = -a := by omega
    rw [this, ← hb]
    grind
  · refine ⟨-x, -y, ?_⟩
    have h1 : ((a.natAbs : Nat) : Int) = -a := by omega
    have h2 : ((b.natAbs : Nat) : Int) = -b := by omega
    rw [h1, h2]
    grind
end ME

/-! MJ: the joining of two forms -/
namespace MJ
/-! ### one joint only -/
end MJ

/-! MK: joints of classes -/
namespace MJ
end MJ

/-! CJ: the promises of the joining -/
namespace CM
open PySem PySem.Spec L2 FL FT
/-! ### divisor_with_shares -/
/-! ### the joint -/
end CM
namespace CM
open PySem PySem.Spec L2 FL FT
end CM
namespace CM
open PySem PySem.Spec L2 FL FT
/-! ### the asker's forms that agree in the middle number -/
end CM
namespace CM
open PySem PySem.Spec L2 FL FT
end CM
namespace CM
open PySem PySem.Spec L2 FL FT
def p_is_bar (ds : List D) (d : D) : Prop := ∃ i : Int, ds = [.int i] ∧ i < 0 ∧ (i % 4 = 0 ∨ i % 4 = 1) ∧ d = .bl true
def p_require_bar (ds : List D) (d : D) : Prop := ∃ i : Int, ds = [.int i] ∧ i < 0 ∧ (i % 4 = 0 ∨ i % 4 = 1) ∧ d = .non
theorem bar_mod (a b c : Int) : (b * b - 4 * a * c) % 4 = 0 ∨ (b * b - 4 * a * c) % 4 = 1 := by
  rcases Int.emod_two_eq b with h | h
  · have e : b = 2 * (b / 2) := by omega
    generalize b / 2 = x at *
    subst e
    have : 2 * x * (2 * x) - 4 * a * c = 4 * (x * x - a * c) := by grind
    omega
  · have e : b = 2 * (b / 2) + 1 := by omega
    generalize b / 2 = x at *
    subst e
    have : (2 * x + 1) * (2 * x + 1) - 4 * a * c = 4 * (x * x + x - a * c) + 1 := by grind
    omega
end CM
namespace CM
open PySem PySem.Spec L2 FL FT
section
variable {X : Cx} {e1 e2 : Expr} {ρ : Ro} {p0 p1 p2 p3 : Pos} {m : Nat}
end
end CM

/-! MP: primes, and forms worth a number without a common divisor with another -/
namespace MP
theorem icd {p : Nat} {z : Int} : (p : Int) ∣ z ↔ p ∣ z.natAbs := by
  rw [← Int.natCast_dvd_natCast, Int.dvd_natAbs]
def Pr (p : Nat) : Prop := 2 ≤ p ∧ ∀ d, d ∣ p → d = 1 ∨ d = p
theorem pr_ex : ∀ n : Nat, 2 ≤ n → ∃ p, Pr p ∧ p ∣ n := by
  intro n
  induction n using Nat.strongRecOn with
  | ind n ih =>
    intro hn
    by_cases h : Pr n
    · exact ⟨n, h, Nat.dvd_refl n⟩
    · have : ∃ d, d ∣ n ∧ d ≠ 1 ∧ d ≠ n := by
        refine Classical.byContradiction fun hc => h ⟨hn, fun d hd => ?_⟩
        refine Classical.byContradiction fun hd' => hc ⟨d, hd, fun e => hd' (.inl e), fun e => hd' (.inr e)⟩
      obtain ⟨d, hd, h1, h2⟩ := this
      have hle := Nat.le_of_dvd (by omega) hd
      have h0 : d ≠ 0 := fun z => by
        subst z
        have := Nat.eq_zero_of_zero_dvd hd
        omega
      obtain ⟨p, hp, hpd⟩ := ih d (by omega) (by omega)
      exact ⟨p, hp, Nat.dvd_trans hpd hd⟩
theorem Pr.cop {p a : Nat} (hp : Pr p) (h : ¬ p ∣ a) : Nat.gcd p a = 1 := by
  rcases hp.2 _ (Nat.gcd_dvd_left p a) with e | e
  · exact e
  · exact absurd (e ▸ Nat.gcd_dvd_right p a) h
theorem Pr.mul {p a b : Nat} (hp : Pr p) (h : p ∣ a * b) : p ∣ a ∨ p ∣ b := by
  by_cases ha : p ∣ a
  · exact .inl ha
  · exact .inr (Nat.Coprime.dvd_of_dvd_mul_left (hp.cop ha) h)
theorem Pr.imul {p : Nat} {a b : Int} (hp : Pr p) (h : (p : Int) ∣ a * b) : (p : Int) ∣ a ∨ (p : Int) ∣ b := by
  rw [icd, Int.natAbs_mul] at h
  rw [icd, icd]
  exact hp.mul h
theorem Pr.one {p : Nat} (hp : Pr p) (h : (p : Int) ∣ 1) : False := by
  have := icd.mp h
  have := Nat.le_of_dvd (by decide) this
  have := hp.1
  simp at *
  omega
theorem gcd_one_of {m N : Int} (hN : N ≠ 0) (h : ∀ p : Nat, Pr p → (p : Int) ∣ N → ¬ (p : Int) ∣ m) : Int.gcd m N = 1 := by
  refine Classical.byContradiction fun hg => ?_
  have h0 : Int.gcd m N ≠ 0 := fun z => hN (Int.gcd_eq_zero_iff.mp z).2
  obtain ⟨p, hp, hd⟩ := pr_ex (Int.gcd m N) (by omega)
  have hd' : (p : Int) ∣ ((Int.gcd m N : Nat) : Int) := Int.natCast_dvd_natCast.mpr hd
  exact h p hp (Int.dvd_trans hd' (Int.gcd_dvd_right m N)) (Int.dvd_trans hd' (Int.gcd_dvd_left m N))
end MP

/-! MG: the classes of a bar make a group -/
namespace MG
open MJ
theorem cop_dvd {a d m : Int} (h : Int.gcd a d = 1) (ha : a ∣ m) (hd : d ∣ m) : a * d ∣ m := by
  obtain ⟨p, q, e⟩ := ME.bez a d
  rw [h] at e
  have e' : p * a + q * d = 1 := e
  obtain ⟨x, hx⟩ := ha
  obtain ⟨y, hy⟩ := hd
  refine ⟨p * y + q * x, ?_⟩
  have : m = (p * a + q * d) * m := by rw [e']; omega
  rw [this]
  have k1 : p * a * m = a * d * (p * y) := by rw [hy]; grind
  have k2 : q * d * m = a * d * (q * x) := by rw [hx]; grind
  grind
end MG

/-! MH: the group of the classes of a bar -/
namespace MG
open MJ
/-! ### groups -/
class AbG (G : Type) where
  mul : G → G → G
  one : G
  inv : G → G
  comm : ∀ x y, mul x y = mul y x
  assoc : ∀ x y z, mul (mul x y) z = mul x (mul y z)
  mul_one : ∀ x, mul x one = x
  mul_inv : ∀ x, mul x (inv x) = one
section
variable {G : Type} [AbG G]
open AbG
end
/-! ### the classes -/
end MG

/-! CG: forms and classes -/
namespace CM
open PySem PySem.Spec L2 FL FT MG
section
variable {X : Cx} {e1 e2 : Expr} {ρ : Ro} {p0 p1 p2 p3 : Pos} {m : Nat} {i : Int}
end
/-! ### repeated -/
def p_require_whole (ds : List D) (d : D) : Prop := ∃ n : Int, ds = [.int n] ∧ d = .non
def p_require_number (ds : List D) (d : D) : Prop := ∃ n l h : Int, ds = [.int n, .int l, .int h] ∧ l ≤ n ∧ n ≤ h ∧ d = .non
end CM
namespace CM
open PySem PySem.Spec L2 FL FT MG
end CM

/-! MF: powers by a prime -/
namespace MP
/-- leaves the same by p -/
def Sm (p a b : Int) : Prop := p ∣ a - b
theorem Sm.refl (p a : Int) : Sm p a a := by unfold Sm; rw [Int.sub_self]; exact Int.dvd_zero _
theorem Sm.symm {p a b : Int} (h : Sm p a b) : Sm p b a := by
  unfold Sm at *
  have := Int.dvd_neg.mpr h
  rwa [Int.neg_sub] at this
theorem Sm.trans {p a b c : Int} (h : Sm p a b) (g : Sm p b c) : Sm p a c := by
  unfold Sm at *
  have := Int.dvd_add h g
  have e : a - b + (b - c) = a - c := by omega
  rwa [e] at this
theorem Sm.mul {p a b c d : Int} (h : Sm p a b) (g : Sm p c d) : Sm p (a * c) (b * d) := by
  unfold Sm at *
  have := Int.dvd_add (Int.dvd_mul_of_dvd_left (c := c) h) (Int.dvd_mul_of_dvd_right (b := b) g)
  have e : (a - b) * c + b * (c - d) = a * c - b * d := by grind
  rwa [e] at this
theorem Sm.pow {p a b : Int} (h : Sm p a b) (n : Nat) : Sm p (a ^ n) (b ^ n) := by
  induction n with
  | zero => rw [Int.pow_zero, Int.pow_zero]; exact .refl _ _
  | succ n ih => rw [Int.pow_succ, Int.pow_succ]; exact ih.mul h
theorem Sm.mod (p a : Int) : Sm p (a % p) a := by
  refine Sm.symm ⟨a / p, ?_⟩
  have := Int.mul_ediv_add_emod a p
  omega
theorem Sm.of_mod {p a b : Int} (h : a % p = b % p) : Sm p a b := ((Sm.mod p a).symm.trans (by rw [h]; exact .refl _ _)).trans (Sm.mod p b)
theorem Sm.emod {p a b : Int} (h : Sm p a b) : a % p = b % p := Int.emod_eq_emod_iff_emod_sub_eq_zero.mpr (Int.emod_eq_zero_of_dvd h)
theorem Pr.cancel {p : Nat} (hp : Pr p) {a b c : Int} (hc : ¬ (p : Int) ∣ c) (h : Sm p (a * c) (b * c)) : Sm p a b := by
  unfold Sm at *
  have e : a * c - b * c = (a - b) * c := by grind
  rw [e] at h
  rcases hp.imul h with h | h
  · exact h
  · exact absurd h hc
/-! ### Fermat -/
def prodZ : List Int → Int
  | [] => 1
  | x :: xs => x * prodZ xs
theorem prodZ_perm {l m : List Int} (h : l.Perm m) : prodZ l = prodZ m := by
  induction h with
  | nil => rfl
  | cons x _ ih => show x * _ = x * _; rw [ih]
  | swap x y l => show y * (x * _) = x * (y * _); grind
  | trans _ _ h1 h2 => rw [h1, h2]
theorem prodZ_scale {p a : Int} (l : List Int) : Sm p (prodZ (l.map fun i => a * i % p)) (a ^ l.length * prodZ l) := by
  induction l with
  | nil => show Sm p 1 (a ^ 0 * 1); rw [Int.pow_zero, Int.mul_one]; exact .refl _ _
  | cons x xs ih =>
    show Sm p (a * x % p * _) (a ^ (xs.length + 1) * (x * prodZ xs))
    have e : a ^ (xs.length + 1) * (x * prodZ xs) = (a * x) * (a ^ xs.length * prodZ xs) := by rw [Int.pow_succ]; grind
    rw [e]
    exact (Sm.mod p (a * x)).mul ih
/-- 1 to p - 1 -/
def res (p : Nat) : List Int := (List.range (p - 1)).map fun i => ((i : Nat) : Int) + 1
theorem mem_res {p : Nat} {x : Int} : x ∈ res p ↔ 0 < x ∧ x < p := by
  unfold res
  simp only [List.mem_map, List.mem_range]
  constructor
  · rintro ⟨i, hi, rfl⟩
    omega
  · rintro ⟨h1, h2⟩
    exact ⟨(x - 1).toNat, by omega, by omega⟩
theorem res_nodup (p : Nat) : (res p).Nodup := by
  unfold res
  rw [List.nodup_iff_pairwise_ne, List.pairwise_map]
  have := (List.nodup_range (n := p - 1))
  rw [List.nodup_iff_pairwise_ne] at this
  exact this.imp fun h e => h (by omega)
theorem small_ndvd {p : Nat} {x : Int} (h1 : 0 < x) (h2 : x < p) : ¬ (p : Int) ∣ x := fun h => by
  have := Int.le_of_dvd h1 h
  omega
theorem Pr.inv {p : Nat} (hp : Pr p) {a : Int} (ha : ¬ (p : Int) ∣ a) : ∃ b : Int, Sm p (a * b) 1 := by
  obtain ⟨x, y, e⟩ := ME.bez (p : Int) a
  have g : Int.gcd (p : Int) a = 1 := by
    have h0 : ¬ p ∣ a.natAbs := fun z => ha (icd.mpr z)
    exact hp.cop h0
  rw [g] at e
  refine ⟨y, ⟨-x, ?_⟩⟩
  have e' : x * p + y * a = 1 := e
  grind
theorem scale_perm {p : Nat} (hp : Pr p) {a : Int} (ha : ¬ (p : Int) ∣ a) : ((res p).map fun i => a * i % p).Perm (res p) := by
  have p0 : (0 : Int) < p := by have := hp.1; omega
  have nz : ∀ i ∈ res p, ¬ (p : Int) ∣ i := fun i hi => small_ndvd (mem_res.mp hi).1 (mem_res.mp hi).2
  refine (List.perm_ext_iff_of_nodup ?_ (res_nodup p)).mpr fun x => ?_
  · rw [List.nodup_iff_pairwise_ne, List.pairwise_map]
    have := res_nodup p
    rw [List.nodup_iff_pairwise_ne] at this
    refine List.Pairwise.imp_of_mem ?_ this
    intro i j hi hj hne e
    refine hne ?_
    have k : Sm p (i * a) (j * a) := by
      have := Sm.of_mod (p := (p : Int)) e
      rwa [Int.mul_comm a i, Int.mul_comm a j] at this
    have := (hp.cancel ha k).emod
    have hi' := mem_res.mp hi
    have hj' := mem_res.mp hj
    rwa [Int.emod_eq_of_lt (by omega) hi'.2, Int.emod_eq_of_lt (by omega) hj'.2] at this
  · constructor
    · intro h
      obtain ⟨i, hi, rfl⟩ := List.mem_map.mp h
      refine mem_res.mpr ⟨?_, Int.emod_lt_of_pos _ p0⟩
      have h1 := Int.emod_nonneg (a * i) (show (p : Int) ≠ 0 by omega)
      have h2 : a * i % p ≠ 0 := fun z => by
        rcases hp.imul (Int.dvd_of_emod_eq_zero z) with h | h
        · exact ha h
        · exact nz i hi h
      omega
    · intro h
      obtain ⟨b, hb⟩ := hp.inv ha
      have hx := mem_res.mp h
      have nb : ¬ (p : Int) ∣ b := fun z => by
        have : (p : Int) ∣ 1 := by
          have h1 : (p : Int) ∣ a * b := Int.dvd_mul_of_dvd_right z
          have := Int.dvd_sub h1 hb
          have e : a * b - (a * b - 1) = 1 := by omega
          rwa [e] at this
        exact hp.one this
      refine List.mem_map.mpr ⟨b * x % p, mem_res.mpr ⟨?_, Int.emod_lt_of_pos _ p0⟩, ?_⟩
      · have h1 := Int.emod_nonneg (b * x) (show (p : Int) ≠ 0 by omega)
        have h2 : b * x % p ≠ 0 := fun z => by
          rcases hp.imul (Int.dvd_of_emod_eq_zero z) with h | h
          · exact nb h
          · exact small_ndvd hx.1 hx.2 h
        omega
      · have k : Sm p (a * (b * x % p)) x := by
          refine ((Sm.refl (p : Int) a).mul (Sm.mod p (b * x))).trans ?_
          have := hb.mul (Sm.refl (p : Int) x)
          have e : a * b * x = a * (b * x) := by grind
          rwa [e, Int.one_mul] at this
        have := k.emod
        rwa [Int.emod_eq_of_lt (by omega) hx.2] at this
theorem fermat {p : Nat} (hp : Pr p) {a : Int} (ha : ¬ (p : Int) ∣ a) : Sm p (a ^ (p - 1)) 1 := by
  have h1 := prodZ_scale (p := (p : Int)) (a := a) (res p)
  rw [prodZ_perm (scale_perm hp ha)] at h1
  have hl : (res p).length = p - 1 := by unfold res; simp
  rw [hl] at h1
  have np : ∀ l : List Int, (∀ i ∈ l, ¬ (p : Int) ∣ i) → ¬ (p : Int) ∣ prodZ l := fun l => by
    induction l with
    | nil => intro _ h; exact hp.one h
    | cons x xs ih =>
      intro h z
      rcases hp.imul z with z | z
      · exact h x List.mem_cons_self z
      · exact ih (fun i hi => h i (List.mem_cons_of_mem _ hi)) z
  refine hp.cancel (np (res p) fun i hi => small_ndvd (mem_res.mp hi).1 (mem_res.mp hi).2) ?_
  rw [Int.one_mul]
  exact h1.symm
/-! ### roots -/
def IsPoly : Nat → Int → (Int → Int) → Prop
  | 0, c, f => ∀ x, f x = c
  | n + 1, c, f => ∃ c0 g, IsPoly n c g ∧ ∀ x, f x = c0 + x * g x
theorem IsPoly.low {r : Int} : ∀ {n : Nat} {c c' : Int} {g h : Int → Int}, IsPoly (n + 1) c g → IsPoly n c' h → IsPoly (n + 1) c (fun x => g x + r * h x)
  | 0, c, c', g, h, ⟨c0, g1, h1, h2⟩, hh => ⟨c0 + r * c', g1, h1, fun x => by show g x + r * h x = _; rw [h2, hh]; grind⟩
  | n + 1, c, c', g, h, ⟨c0, g1, h1, h2⟩, ⟨d0, k, k1, k2⟩ => ⟨c0 + r * d0, _, IsPoly.low (r := r) h1 k1, fun x => by show g x + r * h x = _; rw [h2, k2]; grind⟩
theorem IsPoly.div : ∀ {n : Nat} {c : Int} {f : Int → Int}, IsPoly (n + 1) c f → ∀ r, ∃ q, IsPoly n c q ∧ ∀ x, f x - f r = (x - r) * q x
  | 0, c, f, ⟨c0, g, h1, h2⟩, r => ⟨fun _ => c, fun _ => rfl, fun x => by rw [h2, h2, h1, h1]; grind⟩
  | n + 1, c, f, ⟨c0, g, h1, h2⟩, r => by
    obtain ⟨q, hq, hx⟩ := IsPoly.div h1 r
    refine ⟨_, IsPoly.low (r := r) h1 hq, fun x => ?_⟩
    have := hx x
    show f x - f r = (x - r) * (g x + r * q x)
    rw [h2, h2]
    grind
theorem IsPoly.roots {p : Nat} (hp : Pr p) : ∀ {n : Nat} {c : Int} {f : Int → Int}, IsPoly n c f → ¬ (p : Int) ∣ c → ∀ l : List Int, l.Pairwise (fun x y => ¬ Sm p x y) → (∀ x ∈ l, (p : Int) ∣ f x) → l.length ≤ n
  | 0, c, f, h, hc, l, _, hr => by
    cases l with
    | nil => simp
    | cons x xs => exact absurd (h x ▸ hr x List.mem_cons_self) hc
  | n + 1, c, f, h, hc, l, hd, hr => by
    cases l with
    | nil => simp
    | cons r xs =>
      obtain ⟨q, hq, hx⟩ := h.div r
      have hd' := List.pairwise_cons.mp hd
      have := IsPoly.roots hp hq hc xs hd'.2 fun x hxs => by
        have h1 : (p : Int) ∣ (x - r) * q x := by
          rw [← hx]
          exact Int.dvd_sub (hr x (List.mem_cons_of_mem _ hxs)) (hr r List.mem_cons_self)
        rcases hp.imul h1 with h | h
        · exact absurd (Sm.symm h) (hd'.1 x hxs)
        · exact h
      simp
      omega
theorem isPoly_pow : ∀ n : Nat, IsPoly n 1 (fun x => x ^ n)
  | 0 => fun x => Int.pow_zero x
  | n + 1 => ⟨0, _, isPoly_pow n, fun x => by show x ^ (n + 1) = _; rw [Int.pow_succ]; grind⟩
theorem isPoly_pow1 (n : Nat) : IsPoly (n + 1) 1 (fun x => x ^ (n + 1) - 1) := ⟨-1, _, isPoly_pow n, fun x => by show x ^ (n + 1) - 1 = _; rw [Int.pow_succ]; grind⟩
/-- Euler's rule -/
theorem euler {p h : Nat} (hp : Pr p) (hh : p = 2 * h + 1) {a : Int} (ha : ¬ (p : Int) ∣ a) : Sm p (a ^ h) 1 ↔ ∃ x : Int, 0 < x ∧ x < p ∧ Sm p (x * x) a := by
  have h1 : 1 ≤ h := by have := hp.1; omega
  constructor
  · intro he
    refine Classical.byContradiction fun hc => ?_
    have nsq : ∀ x : Int, 0 < x → x < p → ¬ Sm p (x * x) a := fun x hx hx' z => hc ⟨x, hx, hx', z⟩
    obtain ⟨k, rfl⟩ : ∃ k, h = k + 1 := ⟨h - 1, by omega⟩
    let sq : List Int := (List.range (k + 1)).map fun i => (((i : Nat) : Int) + 1) * (((i : Nat) : Int) + 1)
    have len : (a :: sq).length = k + 2 := by simp [sq]
    have := IsPoly.roots hp (isPoly_pow1 k) hp.one (a :: sq) ?_ ?_
    · omega
    · refine List.pairwise_cons.mpr ⟨fun y hy z => ?_, ?_⟩
      · obtain ⟨i, hi, rfl⟩ := List.mem_map.mp hy
        have := List.mem_range.mp hi
        exact nsq ((i : Int) + 1) (by omega) (by omega) z.symm
      · rw [List.pairwise_map]
        have nr := List.nodup_range (n := k + 1)
        rw [List.nodup_iff_pairwise_ne] at nr
        refine List.Pairwise.imp_of_mem ?_ nr
        intro i j hi hj hne z
        have hi' := List.mem_range.mp hi
        have hj' := List.mem_range.mp hj
        unfold Sm at z
        have e : ((i : Int) + 1) * ((i : Int) + 1) - ((j : Int) + 1) * ((j : Int) + 1) = ((i : Int) - j) * ((i : Int) + j + 2) := by grind
        rw [e] at z
        rcases hp.imul z with z | z
        · have : (p : Int) ∣ (((i : Int) - j).natAbs : Int) := Int.dvd_natAbs.mpr z
          have := Int.le_of_dvd (by omega) this
          omega
        · have := Int.le_of_dvd (by omega) z
          omega
    · intro x hx
      rcases List.mem_cons.mp hx with rfl | hx
      · exact he
      · obtain ⟨i, hi, rfl⟩ := List.mem_map.mp hx
        have hi' := List.mem_range.mp hi
        have nd := small_ndvd (p := p) (x := (i : Int) + 1) (by omega) (by omega)
        have f := fermat hp nd
        have e : p - 1 = 2 * (k + 1) := by omega
        rw [e, Int.pow_mul] at f
        have e2 : ((i : Int) + 1) ^ 2 = ((i : Int) + 1) * ((i : Int) + 1) := by rw [Int.pow_succ, Int.pow_succ, Int.pow_zero, Int.one_mul]
        rw [e2] at f
        exact f
  · rintro ⟨x, hx, hx', z⟩
    have nd := small_ndvd hx hx'
    have f := fermat hp nd
    have e : p - 1 = 2 * h := by omega
    rw [e, Int.pow_mul] at f
    have e2 : x ^ 2 = x * x := by rw [Int.pow_succ, Int.pow_succ, Int.pow_zero, Int.one_mul]
    rw [e2] at f
    exact (z.symm.pow h).trans f
end MP

/-! C18: primes told -/
namespace CM
open PySem PySem.Spec L2 FL FT MP
def p_require_bar_from (ds : List D) (d : D) : Prop := ∃ i l : Int, ds = [.int i, .int l] ∧ i < 0 ∧ (i % 4 = 0 ∨ i % 4 = 1) ∧ l ≤ i ∧ d = .non
/-- a prime among whole numbers -/
structure PrI (p : Int) : Prop where
  pos : 0 ≤ p
  pr : Pr p.toNat
  le : p ≤ 10000
theorem PrI.two {p : Int} (h : PrI p) : 2 ≤ p := by have := h.pr.1; have := h.pos; omega
theorem PrI.cast {p : Int} (h : PrI p) : ((p.toNat : Nat) : Int) = p := Int.toNat_of_nonneg h.pos
theorem PrI.nd {p k : Int} (h : PrI p) (h1 : 2 ≤ k) (h2 : k < p) : p % k ≠ 0 := fun z => by
  have hd : k ∣ p := Int.dvd_of_emod_eq_zero z
  have hd' : k.toNat ∣ p.toNat := by
    have e1 : ((k.toNat : Nat) : Int) = k := Int.toNat_of_nonneg (by omega)
    rw [← Int.natCast_dvd_natCast, e1, h.cast]
    exact hd
  rcases h.pr.2 _ hd' with e | e <;> omega
def p_pf_prime (ds es : List D) : Prop := ∃ p : Int, ds = [.int p] ∧ PrI p ∧ es = [.int p]
def p_rtp (ds : List D) (d : D) : Prop := ∃ i p : Int, ds = [.int i, .int p] ∧ PrI p ∧ 3 ≤ p ∧ i % p ≠ 0 ∧ d = .non
theorem sq_lt {k p : Int} (hk : 2 ≤ k) (h : k * k ≤ p) : k < p := by
  have := Int.mul_le_mul_of_nonneg_right hk (show 0 ≤ k by omega)
  omega
/-- a middle number of the bar by 4 p -/
def Mid (i p m : Int) : Prop := 0 ≤ m ∧ m < 2 * p ∧ m % 2 = i % 2 ∧ (m * m - i) % (4 * p) = 0
def pre_told (ds : List D) : Prop := ∃ i p : Int, ds = [.int i, .int p] ∧ i < 0 ∧ (i % 4 = 0 ∨ i % 4 = 1) ∧ -1000000 ≤ i ∧ PrI p ∧ 3 ≤ p ∧ i % p ≠ 0
def post_told (ds : List D) (d : D) : Prop := ∀ i p : Int, ds = [.int i, .int p] →
  (∃ a b c x y : Int, d = .tup [.bl true, formD a b c, plD x y] ∧ MT.Least a b c ∧ FormS a b c ∧ b * b - 4 * a * c = i ∧ wo a b c x y = p ∧ Bd x 7000 ∧ Bd y 7000 ∧ ∃ m, Mid i p m) ∨ (d = .tup [.bl false] ∧ ∀ m, ¬ Mid i p m)
theorem fz_told {ds : List D} {d : D} {i p : Int} (e : ds = [.int i, .int p]) (h : post_told ds d) : Fz d := by
  rcases h i p e with ⟨a, b, c, x, y, rfl, _⟩ | ⟨rfl, _⟩
  · exact fz_three (.bl _) (fz3 _ _ _) (fz2 _ _)
  · exact .tup fun x hx => by rw [List.mem_singleton.mp hx]; exact .bl _
/-- the power of the bar, by squares -/
def p_law_side (ds : List D) (d : D) : Prop := ∃ i p : Int, ds = [.int i, .int p] ∧ 2 ≤ p ∧ p ≤ 10000 ∧ d = .bl (decide (i ^ (p / 2).toNat % p = 1 % p))
theorem pow_half (p f s : Int) (n : Nat) : Sm p (f * s ^ n) ((if n % 2 = 1 then f * s % p else f) * (s * s % p) ^ (n / 2)) := by
  have e : s ^ n = (if n % 2 = 1 then s else 1) * (s * s) ^ (n / 2) := by
    have e2 : (s * s) ^ (n / 2) = s ^ (2 * (n / 2)) := by
      rw [Int.pow_mul]
      congr 1
      rw [Int.pow_succ, Int.pow_succ, Int.pow_zero, Int.one_mul]
    rw [e2]
    rcases Nat.mod_two_eq_zero_or_one n with h | h
    · rw [if_neg (by omega), Int.one_mul]
      congr 1
      omega
    · rw [if_pos h]
      have : n = 2 * (n / 2) + 1 := by omega
      generalize n / 2 = k at *
      rw [this, Int.pow_succ, Int.mul_comm]
  rw [e]
  have k1 : Sm p ((s * s) ^ (n / 2)) ((s * s % p) ^ (n / 2)) := (Sm.mod p (s * s)).symm.pow _
  rcases Nat.mod_two_eq_zero_or_one n with h | h
  · rw [if_neg (by omega), if_neg (by omega), Int.one_mul]
    exact (Sm.refl p f).mul k1
  · rw [if_pos h, if_pos h, ← Int.mul_assoc]
    exact (Sm.mod p (f * s)).symm.mul k1
/-- Euler's rule for the bar -/
theorem mid_iff {i p : Int} (hp : PrI p) (h3 : 3 ≤ p) (h4 : i % 4 = 0 ∨ i % 4 = 1) (hi : i % p ≠ 0) : (∃ m, Mid i p m) ↔ i ^ (p / 2).toNat % p = 1 % p := by
  have odd : p % 2 = 1 := by
    have := hp.nd (k := 2) (by decide) (by omega)
    omega
  have hh : p.toNat = 2 * (p / 2).toNat + 1 := by omega
  have nd : ¬ ((p.toNat : Nat) : Int) ∣ i := fun z => hi (by rw [hp.cast] at z; exact Int.emod_eq_zero_of_dvd z)
  have E := euler hp.pr hh nd
  rw [hp.cast] at E
  constructor
  · rintro ⟨m, m0, m1, m2, m3⟩
    refine (E.mpr ?_).emod
    have d4 : 4 * p ∣ m * m - i := Int.dvd_of_emod_eq_zero m3
    have dp : Sm p (m * m) i := Int.dvd_trans ⟨4, by omega⟩ d4
    have nm : m % p ≠ 0 := fun z => hi (by
      have h1 : p ∣ m := Int.dvd_of_emod_eq_zero z
      have h2 : p ∣ m * m := Int.dvd_mul_of_dvd_left h1
      have := Int.dvd_sub h2 dp
      have e : m * m - (m * m - i) = i := by omega
      rw [e] at this
      exact Int.emod_eq_zero_of_dvd this)
    refine ⟨m % p, ?_, Int.emod_lt_of_pos _ (by omega), ((Sm.mod p m).mul (Sm.mod p m)).trans dp⟩
    have := Int.emod_nonneg m (show p ≠ 0 by omega)
    omega
  · intro h
    obtain ⟨x, x0, x1, hx⟩ := E.mp (Sm.of_mod h)
    -- x or x + p has the bar's oddness
    have key : ∀ m : Int, 0 ≤ m → m < 2 * p → m % 2 = i % 2 → Sm p (m * m) i → Mid i p m := fun m m0 m1 m2 hm => by
      refine ⟨m0, m1, m2, ?_⟩
      have d4 : (4 : Int) ∣ m * m - i := by
        rcases Int.emod_two_eq m with h | h
        · have e : m = 2 * (m / 2) := by omega
          generalize m / 2 = t at e
          have : m * m = 4 * (t * t) := by rw [e]; grind
          omega
        · have e : m = 2 * (m / 2) + 1 := by omega
          generalize m / 2 = t at e
          have : m * m = 4 * (t * t + t) + 1 := by rw [e]; grind
          omega
      have g : Int.gcd 4 p = 1 := by
        have h1 := Int.gcd_dvd_left 4 p
        have h2 := Int.gcd_dvd_right 4 p
        refine MP.gcd_one_of (by omega) fun q hq hqp hq4 => ?_
        have l1 := Int.le_of_dvd (by decide) hq4
        have q2 := hq.1
        have : (q : Int) = 2 ∨ (q : Int) = 3 ∨ (q : Int) = 4 := by omega
        rcases this with e | e | e
        · rw [e] at hqp
          have := Int.emod_eq_zero_of_dvd hqp
          omega
        · rw [e] at hq4
          have := Int.emod_eq_zero_of_dvd hq4
          omega
        · rw [e] at hqp
          have := Int.emod_eq_zero_of_dvd hqp
          omega
      exact Int.emod_eq_zero_of_dvd (MG.cop_dvd g d4 hm)
    by_cases hpar : x % 2 = i % 2
    · exact ⟨x, key x (by omega) (by omega) hpar hx⟩
    · refine ⟨x + p, key (x + p) (by omega) (by omega) (by omega) ?_⟩
      refine Sm.trans ?_ hx
      exact ⟨2 * x + p, by grind⟩
end CM
namespace CM
open PySem PySem.Spec L2 FL FT MP
/-! ### the asker's prime -/
theorem or_one {n : Int} (h : 0 ≤ n) : Builtin.bitOr n 1 = 2 * (n / 2) + 1 := by
  have e : Builtin.bitOr n 1 = ((n.toNat ||| 1 : Nat) : Int) := by
    unfold Builtin.bitOr Builtin.bitAnd Builtin.bitNot
    have h1 : decide (0 ≤ -n - 1) = false := by simp; omega
    have h2 : decide ((0 : Int) ≤ -1 - 1) = false := by decide
    rw [h1, h2]
    dsimp only
    have h3 : -(-n - 1) - 1 = n := by omega
    have h4 : (-(-1 - 1) - 1 : Int) = 1 := by omega
    rw [h3, h4]
    have h5 : (1 : Int).toNat = 1 := rfl
    rw [h5]
    omega
  rw [e]
  have a1 : (n.toNat ||| 1) / 2 = n.toNat / 2 := by
    rw [Nat.or_div_two]
    simp
  have a2 : (n.toNat ||| 1) % 2 = 1 := by
    rw [Nat.or_mod_two_eq_one]
    exact .inr rfl
  omega
theorem pr_of {r : Int} (h1 : 2 < r) (h2 : r % 2 = 1) (h : ∀ q : Int, 3 ≤ q → q % 2 = 1 → q * q ≤ r → r % q ≠ 0) : Pr r.toNat := by
  refine ⟨by omega, fun d hd => ?_⟩
  refine Classical.byContradiction fun hc => ?_
  have hd0 : d ≠ 0 := fun z => by
    subst z
    have := Nat.eq_zero_of_zero_dvd hd
    omega
  have hle := Nat.le_of_dvd (by omega) hd
  obtain ⟨e, he⟩ := hd
  have er : r = (d : Int) * e := by
    have := congrArg (fun x : Nat => (x : Int)) he
    simp only [Int.natCast_mul] at this
    rw [Int.toNat_of_nonneg (by omega)] at this
    exact this
  have d1 : d ≠ 1 := fun z => hc (.inl z)
  have d2 : d ≠ r.toNat := fun z => hc (.inr z)
  have e1 : e ≠ 1 := fun z => by
    subst z
    omega
  have e0 : e ≠ 0 := fun z => by
    subst z
    omega
  have odd : ∀ x y : Nat, r = (x : Int) * y → x ≠ 0 → x ≠ 1 → x ≤ y → False := fun x y hr x0 x1 xy => by
    have hm : r % (x : Int) = 0 := by rw [hr]; exact Int.mul_emod_right _ _
    have xo : (x : Int) % 2 = 1 := by
      rcases Int.emod_two_eq (x : Int) with z | z
      · have : (x : Int) = 2 * ((x : Int) / 2) := by omega
        generalize (x : Int) / 2 = t at this
        rw [this] at hr
        have : r = 2 * (t * y) := by rw [hr]; grind
        omega
      · exact z
    refine h (x : Int) (by omega) xo ?_ hm
    rw [hr]
    exact Int.mul_le_mul_of_nonneg_left (by omega) (by omega)
  rcases Nat.le_total d e with z | z
  · exact odd d e er hd0 d1 z
  · exact odd e d (by rw [er]; exact Int.mul_comm _ _) e0 e1 z
def noDiv (n : Nat) : Bool := (List.range 50).all fun t => decide ((2 * t + 3) * (2 * t + 3) > n) || n % (2 * t + 3) != 0
theorem pr_check {n : Nat} (h1 : 2 < n) (h2 : n % 2 = 1) (h3 : n < 10000) (h : noDiv n = true) : Pr n := by
  have := pr_of (r := (n : Int)) (by omega) (by omega) (fun q q3 qo qq => ?_)
  · simpa using this
  · have hq : q < 100 := by
      refine Int.not_le.mp fun z => ?_
      have := Int.mul_le_mul z z (by omega) (by omega)
      omega
    have := List.all_eq_true.mp h ((q - 3) / 2).toNat (List.mem_range.mpr (by omega))
    simp only [Bool.or_eq_true, decide_eq_true_eq, bne_iff_ne, ne_eq] at this
    have e : (2 * ((q - 3) / 2).toNat + 3 : Nat) = q.toNat := by omega
    rw [e] at this
    rcases this with z | z
    · have : (q.toNat * q.toNat : Nat) = (q * q).toNat := by
        have : ((q.toNat * q.toNat : Nat) : Int) = q * q := by rw [Int.natCast_mul, Int.toNat_of_nonneg (by omega)]
        omega
      omega
    · intro w
      refine z ?_
      have : ((n % q.toNat : Nat) : Int) = (n : Int) % q := by rw [Int.natCast_emod, Int.toNat_of_nonneg (by omega)]
      omega
theorem pr9719 : Pr 9719 := pr_check (by decide) (by decide) (by decide) (by decide +kernel)
theorem pr9721 : Pr 9721 := pr_check (by decide) (by decide) (by decide) (by decide +kernel)
def pre_prime_from (ds : List D) : Prop := ∃ n i : Int, ds = [.int n, .int i] ∧ 0 ≤ n ∧ n < 9700 ∧ i < 0 ∧ -2000000 ≤ i
def post_prime_from (ds : List D) (d : D) : Prop := ∀ n i : Int, ds = [.int n, .int i] → ∃ p : Int, d = .int p ∧ PrI p ∧ 3 ≤ p ∧ i % p ≠ 0
end CM

namespace K18
open PySem PySem.Spec L2 FL FT FU CM MG
def top (i : Nat) : Stmt := PySem.Challenge.pw_formturn_k18_primes_told.main.body.getD i (.Pass ⟨0, 0, 0, 0⟩)

abbrev s_is_whole : Stmt := top 8
abbrev s_is_whole_tuple : Stmt := top 9
abbrev s_is_bar : Stmt := top 10
abbrev s_require_bar : Stmt := top 11
abbrev s_require_bar_from : Stmt := top 12
abbrev s_require_whole : Stmt := top 13
abbrev s_require_number : Stmt := top 14
abbrev s_prime_factors : Stmt := top 15
abbrev s_bar_of_numbers : Stmt := top 17
abbrev s_is_form : Stmt := top 18
abbrev s_require_form : Stmt := top 19
abbrev s_is_turning : Stmt := top 21
abbrev s_require_turning : Stmt := top 22
abbrev s_sent : Stmt := top 23
abbrev s_way_back : Stmt := top 24
abbrev s_stepped : Stmt := top 27
abbrev s_behind_step : Stmt := top 28
abbrev s_swapped : Stmt := top 29
abbrev s_behind_swap : Stmt := top 30
abbrev s_step_to_middle : Stmt := top 31
abbrev s_least_of : Stmt := top 32
abbrev s_require_telling_prime : Stmt := top 35
abbrev s_prime_told : Stmt := top 36
abbrev s_law_ints : Stmt := top 38
abbrev s_law_cell_at : Stmt := top 39
abbrev s_law_worth : Stmt := top 41
abbrev s_law_good : Stmt := top 43
abbrev s_law_prime_from : Stmt := top 44
abbrev s_law_side : Stmt := top 45
abbrev s_law : Stmt := top 46
theorem sc_is_whole : FnScope ["value"] ["value"] (defScope s_is_whole) := ⟨rfl, rfl, rfl, by decide +kernel, rfl, by decide +kernel, by decide +kernel⟩
theorem sc_is_whole_tuple : FnScope ["value", "length"] ["value", "length"] (defScope s_is_whole_tuple) := ⟨rfl, rfl, rfl, by decide +kernel, rfl, by decide +kernel, by decide +kernel⟩
theorem sc_is_bar : FnScope ["value"] ["value"] (defScope s_is_bar) := ⟨rfl, rfl, rfl, by decide +kernel, rfl, by decide +kernel, by decide +kernel⟩
theorem sc_require_bar : FnScope ["value"] ["value"] (defScope s_require_bar) := ⟨rfl, rfl, rfl, by decide +kernel, rfl, by decide +kernel, by decide +kernel⟩
theorem sc_require_bar_from : FnScope ["value", "lowest"] ["value", "lowest"] (defScope s_require_bar_from) := ⟨rfl, rfl, rfl, by decide +kernel, rfl, by decide +kernel, by decide +kernel⟩
theorem sc_require_whole : FnScope ["value"] ["value"] (defScope s_require_whole) := ⟨rfl, rfl, rfl, by decide +kernel, rfl, by decide +kernel, by decide +kernel⟩
theorem sc_require_number : FnScope ["value", "lowest", "highest"] ["value", "lowest", "highest"] (defScope s_require_number) := ⟨rfl, rfl, rfl, by decide +kernel, rfl, by decide +kernel, by decide +kernel⟩
theorem sc_prime_factors : FnScope ["number", "rest", "found", "prime"] ["number"] (defScope s_prime_factors) := ⟨rfl, rfl, rfl, by decide +kernel, rfl, by decide +kernel, by decide +kernel⟩
theorem sc_bar_of_numbers : FnScope ["a", "b", "c"] ["a", "b", "c"] (defScope s_bar_of_numbers) := ⟨rfl, rfl, rfl, by decide +kernel, rfl, by decide +kernel, by decide +kernel⟩
theorem sc_is_form : FnScope ["value"] ["value"] (defScope s_is_form) := ⟨rfl, rfl, rfl, by decide +kernel, rfl, by decide +kernel, by decide +kernel⟩
theorem sc_require_form : FnScope ["value"] ["value"] (defScope s_require_form) := ⟨rfl, rfl, rfl, by decide +kernel, rfl, by decide +kernel, by decide +kernel⟩
theorem sc_is_turning : FnScope ["value"] ["value"] (defScope s_is_turning) := ⟨rfl, rfl, rfl, by decide +kernel, rfl, by decide +kernel, by decide +kernel⟩
theorem sc_require_turning : FnScope ["value"] ["value"] (defScope s_require_turning) := ⟨rfl, rfl, rfl, by decide +kernel, rfl, by decide +kernel, by decide +kernel⟩
theorem sc_sent : FnScope ["turning", "place", "x", "y"] ["turning", "place"] (defScope s_sent) := ⟨rfl, rfl, rfl, by decide +kernel, rfl, by decide +kernel, by decide +kernel⟩
theorem sc_way_back : FnScope ["turning"] ["turning"] (defScope s_way_back) := ⟨rfl, rfl, rfl, by decide +kernel, rfl, by decide +kernel, by decide +kernel⟩
theorem sc_stepped : FnScope ["form", "step", "a", "b"] ["form", "step"] (defScope s_stepped) := ⟨rfl, rfl, rfl, by decide +kernel, rfl, by decide +kernel, by decide +kernel⟩
theorem sc_behind_step : FnScope ["turning", "step", "p", "r"] ["turning", "step"] (defScope s_behind_step) := ⟨rfl, rfl, rfl, by decide +kernel, rfl, by decide +kernel, by decide +kernel⟩
theorem sc_swapped : FnScope ["form"] ["form"] (defScope s_swapped) := ⟨rfl, rfl, rfl, by decide +kernel, rfl, by decide +kernel, by decide +kernel⟩
theorem sc_behind_swap : FnScope ["turning"] ["turning"] (defScope s_behind_swap) := ⟨rfl, rfl, rfl, by decide +kernel, rfl, by decide +kernel, by decide +kernel⟩
theorem sc_step_to_middle : FnScope ["form"] ["form"] (defScope s_step_to_middle) := ⟨rfl, rfl, rfl, by decide +kernel, rfl, by decide +kernel, by decide +kernel⟩
theorem sc_least_of : FnScope ["form", "step", "found", "turning"] ["form"] (defScope s_least_of) := ⟨rfl, rfl, rfl, by decide +kernel, rfl, by decide +kernel, by decide +kernel⟩
theorem sc_require_telling_prime : FnScope ["bar", "prime"] ["bar", "prime"] (defScope s_require_telling_prime) := ⟨rfl, rfl, rfl, by decide +kernel, rfl, by decide +kernel, by decide +kernel⟩
theorem sc_prime_told : FnScope ["bar", "prime", "middle", "least"] ["bar", "prime"] (defScope s_prime_told) := ⟨rfl, rfl, rfl, by decide +kernel, rfl, by decide +kernel, by decide +kernel⟩
theorem sc_law_ints : FnScope ["_law_found", "_law_size", "_law_number"] ["_law_found", "_law_size"] (defScope s_law_ints) := ⟨rfl, rfl, rfl, by decide +kernel, rfl, by decide +kernel, by decide +kernel⟩
theorem sc_law_cell_at : FnScope ["_law_script", "_law_k"] ["_law_script", "_law_k"] (defScope s_law_cell_at) := ⟨rfl, rfl, rfl, by decide +kernel, rfl, by decide +kernel, by decide +kernel⟩
theorem sc_law_worth : FnScope ["_law_form", "_law_place", "_law_x", "_law_y"] ["_law_form", "_law_place"] (defScope s_law_worth) := ⟨rfl, rfl, rfl, by decide +kernel, rfl, by decide +kernel, by decide +kernel⟩
theorem sc_law_good : FnScope ["_law_form"] ["_law_form"] (defScope s_law_good) := ⟨rfl, rfl, rfl, by decide +kernel, rfl, by decide +kernel, by decide +kernel⟩
theorem sc_law_prime_from : FnScope ["_law_number", "_law_bar", "_law_part"] ["_law_number", "_law_bar"] (defScope s_law_prime_from) := ⟨rfl, rfl, rfl, by decide +kernel, rfl, by decide +kernel, by decide +kernel⟩
theorem sc_law_side : FnScope ["_law_number", "_law_prime", "_law_found", "_law_step", "_law_times"] ["_law_number", "_law_prime"] (defScope s_law_side) := ⟨rfl, rfl, rfl, by decide +kernel, rfl, by decide +kernel, by decide +kernel⟩
theorem sc_law : FnScope ["_law_script", "_law_a", "_law_b", "_law_low", "_law_c", "_law_bar", "_law_prime", "_law_found", "_law_form"] ["_law_script"] (defScope s_law) := ⟨rfl, rfl, rfl, by decide +kernel, rfl, by decide +kernel, by decide +kernel⟩
section
variable {P : Program} {w : World} {K : PySem.W.Frag} {mg : Str → Option Value} {base : Heap}
theorem ok_is_whole {f : Addr} {fd : FuncData} (T : Tx mg) (F : Fun K "is_whole" "is_whole" s_is_whole f fd) (hm : mg "is_whole" = some (.ref f)) (hb : Binds K fd ["value"] []) : Fn P w K mg base 1 "is_whole" p_is_whole := by
  refine fn_mk F sc_is_whole hm hb (fun ds d h => ?_) (fun cdv A outer s H E hr ds d h => ?_)
  · obtain ⟨i, rfl, rfl⟩ := h
    exact ⟨rfl, fun a es => by simp⟩
  · obtain ⟨i, rfl, rfl⟩ := h
    exact do_ret (ev_andT (ev_isi T.isi (ev_v 0) T.int bo_int rfl kit_s) (ev_one (ev_notF (ev_isi T.isi (ev_v 0) T.bool bo_bool rfl kit_int_bool)))) rfl
theorem ok_is_whole_tuple {f : Addr} {fd : FuncData} (T : Tx mg) (G1 : Fn P w K mg base 1 "is_whole" p_is_whole) (F : Fun K "is_whole_tuple" "is_whole_tuple" s_is_whole_tuple f fd) (hm : mg "is_whole_tuple" = some (.ref f)) (hb : Binds K fd ["value", "length"] []) :
    Fn P w K mg base 2 "is_whole_tuple" p_is_whole_tuple := by
  refine fn_mk F sc_is_whole_tuple hm hb (fun ds d h => ?_) (fun cdv A outer s H E hr ds d h => ?_)
  · obtain ⟨ns, rfl, _, rfl⟩ := h
    exact ⟨rfl, fun a es => by simp⟩
  · obtain ⟨ns, rfl, hl, rfl⟩ := h
    have e1 : lenD (.tup (ns.map D.int)) = some ns.length := by simp [lenD]
    refine do_ifF (et_w (ew_orF (et_notT (et_val (ev_isi T.isi (ev_v 0) T.tuple bo_tuple rfl kit_s))) (ew_or1 (Et.ff (et_ne (ev_len T.len (ev_v 0) e1) (ev_v 1)) rfl)))) ?_
    · have hall : ((ns.map fun _ => true).map D.bl) = (((ns.map D.int).filter fun _ => true).map fun _ => D.bl true) := by
        rw [List.filter_eq_self.mpr (fun _ _ => rfl)]
        simp
      refine do_ret (ev_all (bs := ns.map fun _ => true) rfl T.all ?_) ?_
      · rw [hall]
        refine (evn_comp (ys := []) (js := []) (cl := []) (fun _ => true) (fun _ => .bl true) rfl (src_tup (ev_v 0)) (by simp; omega) (fun _ _ _ => .bl true) (fun C s₀ H₀ fp d hd => ets_nil) (fun C s₀ H₀ fp d hd _ => ?_) rfl (by decide) rfl (by decide) rfl (by decide) (fun y c h => by cases h) (no_free (by decide)) rfl (fun i j y h => by cases h)).ev
        · obtain ⟨z, _, rfl⟩ := List.mem_map.mp hd
          exact ev_call G1 hr (ea_cons (ev_v 0) ea_nil) ⟨z, rfl, rfl⟩
      · show D.bl _ = D.bl _
        congr 1
        simp
theorem ok_is_bar {f : Addr} {fd : FuncData} (G1 : Fn P w K mg base 1 "is_whole" p_is_whole) (F : Fun K "is_bar" "is_bar" s_is_bar f fd) (hm : mg "is_bar" = some (.ref f)) (hb : Binds K fd ["value"] []) : Fn P w K mg base 2 "is_bar" p_is_bar := by
  refine fn_mk F sc_is_bar hm hb (fun ds d h => ?_) (fun cdv A outer s H E hr ds d h => ?_)
  · obtain ⟨i, rfl, _⟩ := h
    exact ⟨rfl, fun a es => by simp⟩
  · obtain ⟨i, rfl, hi, h4, rfl⟩ := h
    refine do_ret (ev_andT (ev_call G1 hr (ea_cons (ev_v 0) ea_nil) ⟨i, rfl, rfl⟩) (ev_andT (Ev.tt (ev_lt (ev_v 0) ev_int) hi) (ev_one (Ev.to (ev_in (n := 0) (ds := [.int 0, .int 1]) hr (ev_mod (ev_v 0) ev_int (by decide)) (ev_tup (ea_cons ev_int (ea_cons ev_int ea_nil))) (.inr rfl) ?_) ?_)))) rfl
    · intro z hz
      simp only [List.mem_cons, List.not_mem_nil, or_false] at hz
      rcases hz with rfl | rfl <;> exact .int _ _
    · congr 1
      rw [inD_iff]
      rcases h4 with h | h <;> rw [h] <;> simp
theorem ok_require_bar {f : Addr} {fd : FuncData} (G1 : Fn P w K mg base 2 "is_bar" p_is_bar) (F : Fun K "require_bar" "require_bar" s_require_bar f fd) (hm : mg "require_bar" = some (.ref f)) (hb : Binds K fd ["value"] []) : Fn P w K mg base 3 "require_bar" p_require_bar := by
  refine fn_mk F sc_require_bar hm hb (fun ds d h => ?_) (fun cdv A outer s H E hr ds d h => ?_)
  · obtain ⟨i, rfl, _⟩ := h
    exact ⟨rfl, fun a es => by simp⟩
  · obtain ⟨i, rfl, hi, h4, rfl⟩ := h
    exact do_ifF (et_notT (et_val (ev_call G1 hr (ea_cons (ev_v 0) ea_nil) ⟨i, rfl, hi, h4, rfl⟩))) (do_nil rfl)
theorem ok_require_bar_from {f : Addr} {fd : FuncData} (G1 : Fn P w K mg base 3 "require_bar" p_require_bar) (F : Fun K "require_bar_from" "require_bar_from" s_require_bar_from f fd) (hm : mg "require_bar_from" = some (.ref f)) (hb : Binds K fd ["value", "lowest"] []) : Fn P w K mg base 4 "require_bar_from" p_require_bar_from := by
  refine fn_mk F sc_require_bar_from hm hb (fun ds d h => ?_) (fun cdv A outer s H E hr ds d h => ?_)
  · obtain ⟨i, l, rfl, _⟩ := h
    exact ⟨rfl, fun a es => by simp⟩
  · obtain ⟨i, l, rfl, hi, h4, hl, rfl⟩ := h
    refine do_expr (ev_call G1 hr (ea_cons (ev_v 0) ea_nil) ⟨i, rfl, hi, h4, rfl⟩) ?_
    exact do_ifF (Et.ff' (et_lt (ev_v 0) (ev_v 1)) (by omega)) (do_nil rfl)
theorem ok_require_whole {f : Addr} {fd : FuncData} (G1 : Fn P w K mg base 1 "is_whole" p_is_whole) (F : Fun K "require_whole" "require_whole" s_require_whole f fd) (hm : mg "require_whole" = some (.ref f)) (hb : Binds K fd ["value"] []) : Fn P w K mg base 2 "require_whole" p_require_whole := by
  refine fn_mk F sc_require_whole hm hb (fun ds d h => ?_) (fun cdv A outer s H E hr ds d h => ?_)
  · obtain ⟨i, rfl, _⟩ := h
    exact ⟨rfl, fun a es => by simp⟩
  · obtain ⟨i, rfl, rfl⟩ := h
    exact do_ifF (et_notT (et_val (ev_call G1 hr (ea_cons (ev_v 0) ea_nil) ⟨i, rfl, rfl⟩))) (do_nil rfl)
theorem ok_require_number {f : Addr} {fd : FuncData} (G1 : Fn P w K mg base 2 "require_whole" p_require_whole) (F : Fun K "require_number" "require_number" s_require_number f fd) (hm : mg "require_number" = some (.ref f)) (hb : Binds K fd ["value", "lowest", "highest"] []) : Fn P w K mg base 3 "require_number" p_require_number := by
  refine fn_mk F sc_require_number hm hb (fun ds d h => ?_) (fun cdv A outer s H E hr ds d h => ?_)
  · obtain ⟨n, l, h, rfl, _⟩ := h
    exact ⟨rfl, fun a es => by simp⟩
  · obtain ⟨n, l, h, rfl, h1, h2, rfl⟩ := h
    refine do_expr (ev_call G1 hr (ea_cons (ev_v 0) ea_nil) ⟨n, rfl, rfl⟩) ?_
    exact do_ifF (et_w (ew_orF (Et.ff' (et_lt (ev_v 0) (ev_v 1)) (by omega)) (ew_or1 (Et.ff' (et_gt (ev_v 0) (ev_v 2)) (by omega))))) (do_nil rfl)
theorem ok_prime_factors {f : Addr} {fd : FuncData} (F : Fun K "prime_factors" "prime_factors" s_prime_factors f fd) (hm : mg "prime_factors" = some (.ref f)) (hb : Binds K fd ["number"] []) : FnL P w K mg base 1 "prime_factors" p_pf_prime := by
  refine fnl_mk F sc_prime_factors hm hb (fun ds es h => ?_) (fun cdv A outer s H E hr ds es h => ?_)
  · obtain ⟨p, rfl, _⟩ := h
    exact ⟨rfl, fun a es => by simp⟩
  · obtain ⟨p, rfl, hp, rfl⟩ := h
    have nd := sc_prime_factors.nd
    have p2 := hp.two
    have pl := hp.le
    refine do_set 1 (ev_v 0) (.int _) ?_ nd
    refine do_setN 2 (evn_list ea_nil) (fun d hd => by cases hd) (fun l _ => ?_) nd
    refine do_set 3 ev_int (.int _) ?_ nd
    refine do_while (fun ρ => ∃ k : Int, ρ = [some (.int p), some (.int p), some (.lst l []), some (.int k)] ∧ 2 ≤ k ∧ k ≤ p) (fun ρ => ∃ k : Int, ρ = [some (.int p), some (.int p), some (.lst l []), some (.int k)]) (fun ρ => (p - intAt ρ 3).toNat) PassesOwn.never ⟨2, rfl, by decide, p2⟩ ?_ ?_
    · rintro ρ ⟨k, rfl, k2, kp⟩
      have bk : Bd k 14 := .of_lt (by omega)
      refine ⟨_, et_le (ev_mul (ev_v 3) (ev_v 3) bk bk) (ev_v 1), fun hk => ?_, fun hk => ⟨k, rfl⟩⟩
      have hk' : k * k ≤ p := by simpa using hk
      have klt := sq_lt k2 hk'
      have nk := hp.nd k2 klt
      refine do_while (fun ρ => ρ = [some (.int p), some (.int p), some (.lst l []), some (.int k)]) (fun ρ => ρ = [some (.int p), some (.int p), some (.lst l []), some (.int k)]) (fun _ => 0) PassesOwn.never rfl ?_ ?_
      · rintro ρ rfl
        exact ⟨false, Et.ff' (et_eq (ev_mod (ev_v 1) (ev_v 3) (by omega)) ev_int) nk, (fun z => by cases z), fun _ => rfl⟩
      · rintro ρ rfl
        refine do_aug 3 rfl ev_int (do_nil ⟨⟨k + 1, rfl, by omega, by omega⟩, ?_⟩) nd
        show (p - (k + 1)).toNat < (p - k).toNat
        omega
    · rintro ρ ⟨k, rfl⟩
      refine do_if (fun ρ => ρ = [some (.int p), some (.int p), some (.lst l [.int p]), some (.int k)]) (Et.tt (et_gt (ev_v 1) ev_int) (by omega)) (fun _ => ?_) (fun z => by cases z) ?_
      · exact do_append 2 rfl (ev_v 1) (.int _) (by decide) (others_of rfl) (do_nil rfl)
      · rintro ρ rfl
        exact do_ret (ev_v 2) ⟨l, rfl⟩ (fun a es z => by cases z; exact ⟨2, _, rfl⟩)
theorem ok_bar_of_numbers {f : Addr} {fd : FuncData} (F : Fun K "bar_of_numbers" "bar_of_numbers" s_bar_of_numbers f fd) (hm : mg "bar_of_numbers" = some (.ref f)) (hb : Binds K fd ["a", "b", "c"] []) :
    Fn P w K mg base 1 "bar_of_numbers" p_bar_of_numbers := by
  refine fn_mk F sc_bar_of_numbers hm hb (fun ds d h => ?_) (fun cdv A outer s H E hr ds d h => ?_)
  · obtain ⟨a, b, c, rfl, _, _, _, rfl⟩ := h
    exact ⟨rfl, fun a es => by simp⟩
  · obtain ⟨a, b, c, rfl, ha, hb, hc, rfl⟩ := h
    exact do_ret (ev_sub (ev_mul (ev_v 1) (ev_v 1) inferInstance inferInstance) (ev_mul (ev_mul ev_int (ev_v 0) inferInstance inferInstance) (ev_v 2) inferInstance inferInstance)) rfl
theorem ok_is_form {f : Addr} {fd : FuncData} (G1 : Fn P w K mg base 2 "is_whole_tuple" p_is_whole_tuple) (G2 : Fn P w K mg base 1 "bar_of_numbers" p_bar_of_numbers) (F : Fun K "is_form" "is_form" s_is_form f fd) (hm : mg "is_form" = some (.ref f)) (hb : Binds K fd ["value"] []) :
    Fn P w K mg base 3 "is_form" p_is_form := by
  refine fn_mk F sc_is_form hm hb (fun ds d h => ?_) (fun cdv A outer s H E hr ds d h => ?_)
  · obtain ⟨a, b, c, rfl, _, rfl⟩ := h
    exact ⟨rfl, fun a es => by simp⟩
  · obtain ⟨a, b, c, rfl, hf, rfl⟩ := h
    refine do_ifF (et_notT (et_val (ev_call G1 hr (ea_cons (ev_v 0) (ea_cons ev_int ea_nil)) ⟨[a, b, c], rfl, by simp, rfl⟩))) ?_
    refine do_ret (ev_andT (Ev.tt (ev_gt (ev_ix (ev_v 0) ev_int rfl) ev_int) hf.pos) (ev_one (Ev.tt (ev_lt (ev_call G2 (hr.mono (by decide)) (ea_cons (ev_ix (ev_v 0) ev_int rfl) (ea_cons (ev_ix (ev_v 0) ev_int rfl) (ea_cons (ev_ix (ev_v 0) ev_int rfl) ea_nil)))
      ⟨a, b, c, rfl, hf.sa, hf.sb, hf.sc, rfl⟩) ev_int) hf.bar))) rfl
theorem ok_require_form {f : Addr} {fd : FuncData} (G1 : Fn P w K mg base 3 "is_form" p_is_form) (F : Fun K "require_form" "require_form" s_require_form f fd) (hm : mg "require_form" = some (.ref f)) (hb : Binds K fd ["value"] []) :
    Fn P w K mg base 4 "require_form" p_require_form := by
  refine fn_mk F sc_require_form hm hb (fun ds d h => ?_) (fun cdv A outer s H E hr ds d h => ?_)
  · obtain ⟨a, b, c, rfl, _, rfl⟩ := h
    exact ⟨rfl, fun a es => by simp⟩
  · obtain ⟨a, b, c, rfl, hf, rfl⟩ := h
    exact do_ifF (et_notT (et_val (ev_call G1 hr (ea_cons (ev_v 0) ea_nil) ⟨a, b, c, rfl, hf, rfl⟩))) (do_nil rfl)
theorem ok_is_turning {f : Addr} {fd : FuncData} (G1 : Fn P w K mg base 2 "is_whole_tuple" p_is_whole_tuple) (F : Fun K "is_turning" "is_turning" s_is_turning f fd) (hm : mg "is_turning" = some (.ref f)) (hb : Binds K fd ["value"] []) : Fn P w K mg base 3 "is_turning" p_is_turning := by
  refine fn_mk F sc_is_turning hm hb (fun ds d h => ?_) (fun cdv A outer s H E hr ds d h => ?_)
  · obtain ⟨p, q, r, s, rfl, _, rfl⟩ := h
    exact ⟨rfl, fun a es => by simp⟩
  · obtain ⟨p, q, r, s', rfl, ht, rfl⟩ := h
    refine do_ifF (et_notT (et_val (ev_call G1 hr (ea_cons (ev_v 0) (ea_cons ev_int ea_nil)) ⟨[p, q, r, s'], rfl, by simp, rfl⟩))) ?_
    exact do_ret (Ev.tt (ev_eq (ev_sub (ev_mul (ev_ix (ev_v 0) ev_int rfl) (ev_ix (ev_v 0) ev_int rfl) ht.sp ht.ss) (ev_mul (ev_ix (ev_v 0) ev_int rfl) (ev_ix (ev_v 0) ev_int rfl) ht.sq ht.sr)) ev_int) ht.det) rfl
theorem ok_require_turning {f : Addr} {fd : FuncData} (G1 : Fn P w K mg base 3 "is_turning" p_is_turning) (F : Fun K "require_turning" "require_turning" s_require_turning f fd) (hm : mg "require_turning" = some (.ref f)) (hb : Binds K fd ["value"] []) : Fn P w K mg base 4 "require_turning" p_require_turning := by
  refine fn_mk F sc_require_turning hm hb (fun ds d h => ?_) (fun cdv A outer s H E hr ds d h => ?_)
  · obtain ⟨p, q, r, s, rfl, _, rfl⟩ := h
    exact ⟨rfl, fun a es => by simp⟩
  · obtain ⟨p, q, r, s', rfl, ht, rfl⟩ := h
    exact do_ifF (et_notT (et_val (ev_call G1 hr (ea_cons (ev_v 0) ea_nil) ⟨p, q, r, s', rfl, ht, rfl⟩))) (do_nil rfl)
theorem ok_sent {f : Addr} {fd : FuncData} (F : Fun K "sent" "sent" s_sent f fd) (hm : mg "sent" = some (.ref f)) (hb : Binds K fd ["turning", "place"] []) : Fn P w K mg base 1 "sent" p_law_sent := by
  refine fn_mk F sc_sent hm hb (fun ds d h => ?_) (fun cdv A outer s H E hr ds d h => ?_)
  · obtain ⟨p, q, r, s, x, y, rfl, _, _, _, _, _, _, rfl⟩ := h
    exact ⟨rfl, fun a es => by simp⟩
  · obtain ⟨p, q, r, s', x, y, rfl, hp, hq, hr', hs, hx, hy, rfl⟩ := h
    have nd := sc_sent.nd
    refine do_set 2 (ev_ix (ev_v 1) ev_int rfl) (.int _) ?_ nd
    refine do_set 3 (ev_ix (ev_v 1) ev_int rfl) (.int _) ?_ nd
    exact do_ret (ev_tup (ea_cons (ev_add (ev_mul (ev_ix (ev_v 0) ev_int rfl) (ev_v 2) hp hx) (ev_mul (ev_ix (ev_v 0) ev_int rfl) (ev_v 3) hq hy)) (ea_cons (ev_add (ev_mul (ev_ix (ev_v 0) ev_int rfl) (ev_v 2) hr' hx) (ev_mul (ev_ix (ev_v 0) ev_int rfl) (ev_v 3) hs hy)) ea_nil))) rfl
theorem ok_way_back {f : Addr} {fd : FuncData} (G1 : Fn P w K mg base 4 "require_turning" p_require_turning) (F : Fun K "way_back" "way_back" s_way_back f fd) (hm : mg "way_back" = some (.ref f)) (hb : Binds K fd ["turning"] []) : Fn P w K mg base 5 "way_back" p_way_back := by
  refine fn_mk F sc_way_back hm hb (fun ds d h => ?_) (fun cdv A outer s H E hr ds d h => ?_)
  · obtain ⟨p, q, r, s, rfl, _, rfl⟩ := h
    exact ⟨rfl, fun a es => by simp⟩
  · obtain ⟨p, q, r, s', rfl, h1, rfl⟩ := h
    refine do_expr (ev_call G1 hr (ea_cons (ev_v 0) ea_nil) ⟨p, q, r, s', rfl, h1, rfl⟩) ?_
    exact do_ret (ev_tup (ea_cons (ev_ix (ev_v 0) ev_int rfl) (ea_cons (ev_neg (ev_ix (ev_v 0) ev_int rfl)) (ea_cons (ev_neg (ev_ix (ev_v 0) ev_int rfl)) (ea_cons (ev_ix (ev_v 0) ev_int rfl) ea_nil))))) rfl
theorem ok_stepped {f : Addr} {fd : FuncData} (F : Fun K "stepped" "stepped" s_stepped f fd) (hm : mg "stepped" = some (.ref f)) (hb : Binds K fd ["form", "step"] []) : Fn P w K mg base 1 "stepped" p_stepped := by
  refine fn_mk F sc_stepped hm hb (fun ds d h => ?_) (fun cdv A outer s H E hr ds d h => ?_)
  · obtain ⟨a, b, c, k, rfl, _, _, _, rfl⟩ := h
    exact ⟨rfl, fun a es => by simp⟩
  · obtain ⟨a, b, c, k, rfl, ha, hb, hk, rfl⟩ := h
    have nd := sc_stepped.nd
    refine do_set 2 (ev_ix (ev_v 0) ev_int rfl) (.int _) ?_ nd
    refine do_set 3 (ev_ix (ev_v 0) ev_int rfl) (.int _) ?_ nd
    exact do_ret (ev_tup (ea_cons (ev_v 2) (ea_cons (ev_add (ev_v 3) (ev_mul (ev_mul ev_int (ev_v 2) inferInstance inferInstance) (ev_v 1) inferInstance inferInstance)) (ea_cons (ev_add (ev_ix (ev_v 0) ev_int rfl) (ev_mul (ev_v 1) (ev_add (ev_v 3) (ev_mul (ev_v 2) (ev_v 1) inferInstance inferInstance)) inferInstance inferInstance)) ea_nil)))) rfl
theorem ok_behind_step {f : Addr} {fd : FuncData} (F : Fun K "behind_step" "behind_step" s_behind_step f fd) (hm : mg "behind_step" = some (.ref f)) (hb : Binds K fd ["turning", "step"] []) : Fn P w K mg base 1 "behind_step" p_behind_step := by
  refine fn_mk F sc_behind_step hm hb (fun ds d h => ?_) (fun cdv A outer s H E hr ds d h => ?_)
  · obtain ⟨p, q, r, s, k, rfl, _, _, _, rfl⟩ := h
    exact ⟨rfl, fun a es => by simp⟩
  · obtain ⟨p, q, r, s', k, rfl, hp, hr', hk, rfl⟩ := h
    have nd := sc_behind_step.nd
    refine do_set 2 (ev_ix (ev_v 0) ev_int rfl) (.int _) ?_ nd
    refine do_set 3 (ev_ix (ev_v 0) ev_int rfl) (.int _) ?_ nd
    exact do_ret (ev_tup (ea_cons (ev_v 2) (ea_cons (ev_add (ev_ix (ev_v 0) ev_int rfl) (ev_mul (ev_v 2) (ev_v 1) inferInstance inferInstance)) (ea_cons (ev_v 3) (ea_cons (ev_add (ev_ix (ev_v 0) ev_int rfl) (ev_mul (ev_v 3) (ev_v 1) inferInstance inferInstance)) ea_nil))))) rfl
theorem ok_swapped {f : Addr} {fd : FuncData} (F : Fun K "swapped" "swapped" s_swapped f fd) (hm : mg "swapped" = some (.ref f)) (hb : Binds K fd ["form"] []) : Fn P w K mg base 1 "swapped" p_swapped := by
  refine fn_mk F sc_swapped hm hb (fun ds d h => ?_) (fun cdv A outer s H E hr ds d h => ?_)
  · obtain ⟨a, b, c, rfl, rfl⟩ := h
    exact ⟨rfl, fun a es => by simp⟩
  · obtain ⟨a, b, c, rfl, rfl⟩ := h
    exact do_ret (ev_tup (ea_cons (ev_ix (ev_v 0) ev_int rfl) (ea_cons (ev_neg (ev_ix (ev_v 0) ev_int rfl)) (ea_cons (ev_ix (ev_v 0) ev_int rfl) ea_nil)))) rfl
theorem ok_behind_swap {f : Addr} {fd : FuncData} (F : Fun K "behind_swap" "behind_swap" s_behind_swap f fd) (hm : mg "behind_swap" = some (.ref f)) (hb : Binds K fd ["turning"] []) : Fn P w K mg base 1 "behind_swap" p_behind_swap := by
  refine fn_mk F sc_behind_swap hm hb (fun ds d h => ?_) (fun cdv A outer s H E hr ds d h => ?_)
  · obtain ⟨p, q, r, s, rfl, rfl⟩ := h
    exact ⟨rfl, fun a es => by simp⟩
  · obtain ⟨p, q, r, s', rfl, rfl⟩ := h
    exact do_ret (ev_tup (ea_cons (ev_ix (ev_v 0) ev_int rfl) (ea_cons (ev_neg (ev_ix (ev_v 0) ev_int rfl)) (ea_cons (ev_ix (ev_v 0) ev_int rfl) (ea_cons (ev_neg (ev_ix (ev_v 0) ev_int rfl)) ea_nil))))) rfl
theorem ok_step_to_middle {f : Addr} {fd : FuncData} (F : Fun K "step_to_middle" "step_to_middle" s_step_to_middle f fd) (hm : mg "step_to_middle" = some (.ref f)) (hb : Binds K fd ["form"] []) : Fn P w K mg base 1 "step_to_middle" p_step_to_middle := by
  refine fn_mk F sc_step_to_middle hm hb (fun ds d h => ?_) (fun cdv A outer s H E hr ds d h => ?_)
  · obtain ⟨a, b, c, rfl, _, _, rfl⟩ := h
    exact ⟨rfl, fun a es => by simp⟩
  · obtain ⟨a, b, c, rfl, pos, ha, rfl⟩ := h
    exact do_ret (ev_div (ev_sub (ev_ix (ev_v 0) ev_int rfl) (ev_ix (ev_v 0) ev_int rfl)) (ev_mul ev_int (ev_ix (ev_v 0) ev_int rfl) inferInstance inferInstance) (by omega) inferInstance) rfl
theorem ok_least_of {f : Addr} {fd : FuncData} (G1 : Fn P w K mg base 4 "require_form" p_require_form) (G2 : Fn P w K mg base 1 "step_to_middle" p_step_to_middle) (G3 : Fn P w K mg base 1 "stepped" p_stepped) (G4 : Fn P w K mg base 1 "behind_step" p_behind_step) (G5 : Fn P w K mg base 1 "swapped" p_swapped) (G6 : Fn P w K mg base 1 "behind_swap" p_behind_swap)
    (C1 : Con K mg "NO_TURN" (turD 1 0 0 1)) (F : Fun K "least_of" "least_of" s_least_of f fd) (hm : mg "least_of" = some (.ref f)) (hb : Binds K fd ["form"] []) : FnR P w K mg base 5 "least_of" pre_form post_least_of := by
  refine fnr_mk F sc_least_of hm hb (fun ds h => ?_) (fun cdv A outer s H E hr ds h => ?_)
  · obtain ⟨a, b, c, rfl, _⟩ := h
    exact ⟨rfl, fun a es => by simp⟩
  · obtain ⟨a, b, c, rfl, fS⟩ := h
    have nd := sc_least_of.nd
    have hr1 := hr.mono (show 1 ≤ 4 by decide)
    refine do_expr (ev_call G1 hr (ea_cons (ev_v 0) ea_nil) ⟨a, b, c, rfl, fS.n, rfl⟩) ?_
    have L0 : Leads a b c 1 0 0 1 a b c := by
      refine ⟨by omega, ?_, ?_, ?_⟩ <;> (try unfold MT.Wo) <;> grind
    refine do_set 1 (ev_call G2 hr1 (ea_cons (ev_v 0) ea_nil) ⟨a, b, c, rfl, fS.pos, fS.sa.up _ (by decide), rfl⟩) (.int _) ?_ nd
    obtain ⟨lo, hi, f1, kb⟩ := shift_S fS
    have L1 := L0.stepK ((a - b) / (2 * a))
    generalize (a - b) / (2 * a) = k0 at *
    refine do_set 2 (ev_call G3 hr1 (ea_cons (ev_v 0) (ea_cons (ev_v 1) ea_nil)) ⟨a, b, c, k0, rfl, fS.n.sa, fS.n.sb, kb.up _ (by decide), rfl⟩) (fz3 _ _ _) ?_ nd
    refine do_set 3 (ev_call G4 hr1 (ea_cons (ev_con C1) (ea_cons (ev_v 1) ea_nil)) ⟨1, 0, 0, 1, k0, rfl, .lit, .lit, kb.up _ (by decide), rfl⟩) (fz_ints [_, _, _, _]) ?_ nd
    refine do_while (fun ρ => ∃ x y z p q r s' u, ρ = [some (formD a b c), u, some (formD x y z), some (turD p q r s')] ∧ FormS x y z ∧ Leads a b c p q r s' x y z ∧ -x < y ∧ y ≤ x)
      (fun ρ => ∃ x y z p q r s' u, ρ = [some (formD a b c), u, some (formD x y z), some (turD p q r s')] ∧ FormS x y z ∧ Leads a b c p q r s' x y z ∧ MT.Least x y z)
      (fun ρ => meas2 ρ 2) PassesOwn.never ⟨_, _, _, _, _, _, _, _, rfl, f1, L1, lo, hi⟩ ?_ ?_
    · rintro ρ ⟨x, y, z, p, q, r, s', u, rfl, g, ld, hlo, hhi⟩
      refine ⟨_, et_w (ew_or (et_gt (ev_ix (ev_v 2) ev_int rfl) (ev_ix (ev_v 2) ev_int rfl)) fun _ => ew_or1 (et_w (ew_and (et_eq (ev_ix (ev_v 2) ev_int rfl) (ev_ix (ev_v 2) ev_int rfl)) fun _ => ew_and1 (et_lt (ev_ix (ev_v 2) ev_int rfl) ev_int)))), fun hk => ?_, fun hk => ?_⟩
      · simp only [Bool.or_eq_true, Bool.and_eq_true, decide_eq_true_eq] at hk
        obtain ⟨_, g1⟩ := swap_ok g g.zpos
        have L2 := ld.swapK
        have tN := ld.turn fS g
        have tN2 := L2.turn fS g1
        refine do_set 2 (ev_call G5 hr1 (ea_cons (ev_v 2) ea_nil) ⟨x, y, z, rfl, rfl⟩) (fz3 _ _ _) ?_ nd
        refine do_set 3 (ev_call G6 hr1 (ea_cons (ev_v 3) ea_nil) ⟨p, q, r, s', rfl, rfl⟩) (fz_ints [_, _, _, _]) ?_ nd
        refine do_set 1 (ev_call G2 hr1 (ea_cons (ev_v 2) ea_nil) ⟨z, -y, x, rfl, g1.pos, g1.sa.up _ (by decide), rfl⟩) (.int _) ?_ nd
        obtain ⟨lo', hi', g2, kb'⟩ := shift_S g1
        have L3 := L2.stepK ((z - -y) / (2 * z))
        have hm : meas2At z (-y + 2 * z * ((z - -y) / (2 * z))) < meas2At x y := meas2_lt g.zpos hlo hk
        generalize (z - -y) / (2 * z) = k at *
        refine do_set 2 (ev_call G3 hr1 (ea_cons (ev_v 2) (ea_cons (ev_v 1) ea_nil)) ⟨z, -y, x, k, rfl, g1.n.sa, g1.n.sb, kb'.up _ (by decide), rfl⟩) (fz3 _ _ _) ?_ nd
        refine do_set 3 (ev_call G4 hr1 (ea_cons (ev_v 3) (ea_cons (ev_v 1) ea_nil)) ⟨q, -p, s', -r, k, rfl, tN2.sp.up _ (by decide), tN2.sr.up _ (by decide), kb'.up _ (by decide), rfl⟩) (fz_ints [_, _, _, _]) (do_nil ⟨⟨_, _, _, _, _, _, _, _, rfl, g2, L3, lo', hi'⟩, hm⟩) nd
      · simp only [Bool.or_eq_false_iff, Bool.and_eq_false_iff, decide_eq_false_iff_not] at hk
        exact ⟨x, y, z, p, q, r, s', u, rfl, g, ld, hlo, hhi, by omega, fun e => by omega⟩
    · rintro ρ ⟨x, y, z, p, q, r, s', u, rfl, g, ld, L⟩
      refine do_ret (ev_tup (ea_cons (ev_v 2) (ea_cons (ev_v 3) ea_nil))) ?_
      intro a2 b2 c2 e
      cases e
      exact ⟨x, y, z, p, q, r, s', rfl, L, g, ld.turn fS g, ld⟩
theorem ok_require_telling_prime {f : Addr} {fd : FuncData} (G1 : Fn P w K mg base 3 "require_number" p_require_number) (G2 : FnL P w K mg base 1 "prime_factors" p_pf_prime) (C1 : Con K mg "GREATEST" (.int 10000)) (F : Fun K "require_telling_prime" "require_telling_prime" s_require_telling_prime f fd) (hm : mg "require_telling_prime" = some (.ref f)) (hb : Binds K fd ["bar", "prime"] []) : Fn P w K mg base 4 "require_telling_prime" p_rtp := by
  refine fn_mk F sc_require_telling_prime hm hb (fun ds d h => ?_) (fun cdv A outer s H E hr ds d h => ?_)
  · obtain ⟨i, p, rfl, _⟩ := h
    exact ⟨rfl, fun a es => by simp⟩
  · obtain ⟨i, p, rfl, hp, h3, hi, rfl⟩ := h
    have hr1 := hr.mono (show 1 ≤ 3 by decide)
    refine do_expr (ev_call G1 hr (ea_cons (ev_v 1) (ea_cons ev_int (ea_cons (ev_con C1) ea_nil))) ⟨p, 3, 10000, rfl, h3, hp.le, rfl⟩) ?_
    exact do_ifF (et_w (ew_orF (Et.to (et_neL (n := 0) hr (EvN.ev (evn_call G2 hr1 (ea_cons (ev_v 1) ea_nil) ⟨p, rfl, hp, rfl⟩)) (EvN.ev (evn_list (ea_cons (ev_v 1) ea_nil))) rfl rfl (Cms.ints [p] [p])) (congrArg not (eqb_iff.mpr rfl)))
      (ew_or1 (Et.ff' (et_eq (ev_mod (ev_v 0) (ev_v 1) (by omega)) ev_int) hi)))) (do_nil rfl)
set_option maxHeartbeats 4000000 in
theorem ok_prime_told {f : Addr} {fd : FuncData} (T : Tx mg) (G1 : Fn P w K mg base 4 "require_bar_from" p_require_bar_from) (G2 : Fn P w K mg base 4 "require_telling_prime" p_rtp) (Gl : FnR P w K mg base 5 "least_of" pre_form post_least_of) (Gw : Fn P w K mg base 5 "way_back" p_way_back) (Gs : Fn P w K mg base 1 "sent" p_law_sent)
    (C1 : Con K mg "LOWEST_MARKED_BAR" (.int (-1000000))) (F : Fun K "prime_told" "prime_told" s_prime_told f fd) (hm : mg "prime_told" = some (.ref f)) (hb : Binds K fd ["bar", "prime"] []) : FnR P w K mg base 6 "prime_told" pre_told post_told := by
  refine fnr_mk F sc_prime_told hm hb (fun ds h => ?_) (fun cdv A outer s H E hr ds h => ?_)
  · obtain ⟨i, p, rfl, _⟩ := h
    exact ⟨rfl, fun a es => by simp⟩
  · obtain ⟨i, p, rfl, hi, h4, hl, hp, h3, hd⟩ := h
    have nd := sc_prime_told.nd
    have hr4 := hr.mono (show 4 ≤ 5 by decide)
    have hr1 := hr.mono (show 1 ≤ 5 by decide)
    have pl := hp.le
    have bp : Bd p 14 := .of_lt (by omega)
    refine do_expr (ev_call G1 hr4 (ea_cons (ev_v 0) (ea_cons (ev_con C1) ea_nil)) ⟨i, -1000000, rfl, hi, h4, hl, rfl⟩) ?_
    refine do_expr (ev_call G2 hr4 (ea_cons (ev_v 0) (ea_cons (ev_v 1) ea_nil)) ⟨i, p, rfl, hp, h3, hd, rfl⟩) ?_
    have i2 := Int.emod_nonneg i (show (2 : Int) ≠ 0 by decide)
    have i3 := Int.emod_lt_of_pos i (show (0 : Int) < 2 by decide)
    refine do_for 2 (fun t ρ => ∃ u v, ρ = [some (.int i), some (.int p), u, v] ∧ ∀ s : Nat, s < t → ((i % 2 + s * 2) * (i % 2 + s * 2) - i) % (4 * p) ≠ 0) (fun ρ => ∀ m, ¬ Mid i p m) PassesOwn.never rfl
      (wk_range3 T.range (ev_mod (ev_v 0) ev_int (by decide)) (ev_mul ev_int (ev_v 1) bd_2 bp) ev_int (by decide) (by decide) (by omega) (by omega) (by omega) (by omega)) (fun d hd => ?_) (fun _ _ _ => trivial) ⟨none, none, rfl, fun s hs => by omega⟩ ?_ ?_ ?_ nd
    · obtain ⟨z, _, rfl⟩ := List.mem_map.mp hd
      exact .int _
    · rintro t d ρ hdt ⟨u, v, rfl, ht⟩
      rw [List.getElem?_map] at hdt
      by_cases htn : t < manyS (i % 2) (2 * p) 2
      · rw [List.getElem?_range htn] at hdt
        obtain rfl : d = D.int (i % 2 + (t : Int) * 2) := (Option.some.inj hdt).symm
        have hm2 : i % 2 + (t : Int) * 2 < 2 * p := by
          unfold manyS at htn
          omega
        have hm0 : 0 ≤ i % 2 + (t : Int) * 2 := by omega
        have hmp : (i % 2 + (t : Int) * 2) % 2 = i % 2 := by omega
        generalize hmm : i % 2 + (t : Int) * 2 = m at *
        have bm : Bd m 15 := .of_lt (by omega)
        refine do_ifR (et_eq (ev_mod (ev_sub (ev_mul (ev_v 2) (ev_v 2) bm bm) (ev_v 0)) (ev_mul ev_int (ev_v 1) bd_4 bp) (by omega)) ev_int) (fun hk => ?_) (fun hk => ?_)
        · have hk' : (m * m - i) % (4 * p) = 0 := by simpa using hk
          have bi : Bd i 20 := .of_lt (by omega)
          have hC : 4 * p * ((m * m - i) / (4 * p)) = m * m - i := Int.mul_ediv_cancel' (Int.dvd_of_emod_eq_zero hk')
          have bC : Bd ((m * m - i) / (4 * p)) 31 := (Bd.sub (Bd.mul bm bm 30 (by decide)) bi 31 (by decide)).div (by omega)
          generalize hCe : (m * m - i) / (4 * p) = C at *
          have ebar : m * m - 4 * p * C = i := by omega
          have fS : FormS p m C := ⟨by omega, by rw [ebar]; exact hi, bp.up _ (by decide), bm.up _ (by decide), bC.up _ (by decide), by rw [ebar]; exact bi.up _ (by decide)⟩
          refine do_setR 3 (evr_call Gl hr (ea_cons (Ev.to (d' := formD p m C) (ev_tup (ea_cons (ev_v 1) (ea_cons (ev_v 2) (ea_cons (ev_div (ev_sub (ev_mul (ev_v 2) (ev_v 2) bm bm) (ev_v 0)) (ev_mul ev_int (ev_v 1) bd_4 bp) (by omega) (Bd.mul bd_4 bp 17 (by decide))) ea_nil)))) (by rw [hCe])) ea_nil) ⟨p, m, C, rfl, fS⟩) (fun d hd => fz_post rfl hd) (fun r hr' => ?_) nd
          obtain ⟨a', b', c', x, q, r, s', rfl, L, fS', tN, ld⟩ := hr' _ _ _ rfl
          have tB := tN.back
          have up : ∀ {z : Int}, Bd z 7000 → Bd z 8000 := fun h => h.up _ (by decide)
          have e10 : plD (s' * 1 + -q * 0) (-r * 1 + x * 0) = plD s' (-r) := by simp
          refine do_ret (ev_tup (ea_cons ev_bl (ea_cons (ev_ix (ev_v 3) ev_int rfl) (ea_cons (Ev.to (ev_call Gs hr1 (ea_cons (ev_call Gw hr (ea_cons (ev_ix (ev_v 3) ev_int rfl) ea_nil) ⟨x, q, r, s', rfl, tN, rfl⟩) (ea_cons (ev_tup (ea_cons ev_int (ea_cons ev_int ea_nil))) ea_nil)) ⟨s', -q, -r, x, 1, 0, rfl, up tB.sp, up tB.sq, up tB.sr, up tB.ss, .lit, .lit, rfl⟩) e10) ea_nil)))) ?_
          intro i0 p0 e
          cases e
          refine .inl ⟨a', b', c', s', -r, rfl, L, fS', by rw [ld.bar]; exact ebar, ld.back.e1.symm, tB.sp, tB.sr, m, hm0, hm2, hmp, hk'⟩
        · have hk' : ¬ (m * m - i) % (4 * p) = 0 := by simpa using hk
          refine do_nil ⟨_, _, rfl, fun s hs => ?_⟩
          by_cases e : s = t
          · subst e
            rw [hmm]
            exact hk'
          · exact ht s (by omega)
      · rw [List.getElem?_eq_none (by simpa using htn)] at hdt
        cases hdt
    · rintro ρ ⟨u, v, rfl, ht⟩ m ⟨m0, m1, m2, m3⟩
      rw [List.length_map, List.length_range] at ht
      refine ht ((m - i % 2) / 2).toNat ?_ ?_
      · unfold manyS
        omega
      · have e : i % 2 + ((((m - i % 2) / 2).toNat : Nat) : Int) * 2 = m := by omega
        rw [e]
        exact m3
    · intro ρ hM
      refine do_ret (ev_tup (ea_cons ev_bl ea_nil)) ?_
      intro i0 p0 e
      cases e
      exact .inr ⟨rfl, hM⟩
theorem ok_law_ints {f : Addr} {fd : FuncData} (T : Tx mg) (F : Fun K "_law_ints" "_law_ints" s_law_ints f fd) (hm : mg "_law_ints" = some (.ref f)) (hb : Binds K fd ["_law_found", "_law_size"] []) :
    Fn P w K mg base 1 "_law_ints" p_law_ints := by
  refine fn_mk F sc_law_ints hm hb (fun ds d h => ?_) (fun cdv A outer s H E hr ds d h => ?_)
  · obtain ⟨ns, rfl, rfl⟩ := h
    exact ⟨rfl, fun a es => by simp⟩
  · obtain ⟨ns, rfl, rfl⟩ := h
    have nd := sc_law_ints.nd
    have e1 : lenD (.tup (ns.map D.int)) = some ns.length := by simp [lenD]
    refine do_ifF (et_w (ew_orF (et_notT (et_val (ev_isi T.isi (ev_v 0) T.tuple bo_tuple rfl kit_s))) (ew_or1 (Et.ff (et_ne (ev_len T.len (ev_v 0) e1) (ev_v 1)) rfl)))) ?_
    have fz : ∀ d ∈ ns.map D.int, Fz d := fun d hd => by
      obtain ⟨z, _, rfl⟩ := List.mem_map.mp hd
      exact .int z
    refine do_for 2 (fun i ρ => ∃ r, ρ = [some (.tup (ns.map D.int)), some (.int (ns.length : Int)), r]) (fun ρ => ∃ r, ρ = [some (.tup (ns.map D.int)), some (.int (ns.length : Int)), r]) PassesOwn.never rfl (wk_tup (ev_v 0) fz) fz (fun _ _ _ => trivial) ⟨none, rfl⟩ ?_ (fun ρ h => h) ?_ nd
    · rintro i d ρ hd ⟨r, rfl⟩
      obtain ⟨z, _, rfl⟩ := List.mem_map.mp (List.mem_of_getElem? hd)
      refine do_ifF (et_w (ew_orF (et_notT (et_val (ev_isi T.isi (ev_v 2) T.int bo_int rfl kit_s))) (ew_or1 (et_val (ev_isi T.isi (ev_v 2) T.bool bo_bool rfl kit_int_bool))))) (do_nil ⟨_, rfl⟩)
    · rintro ρ ⟨r, rfl⟩
      exact do_ret ev_bl rfl
theorem ok_law_cell_at {f : Addr} {fd : FuncData} (T : Tx mg) (F : Fun K "_law_cell_at" "_law_cell_at" s_law_cell_at f fd) (hm : mg "_law_cell_at" = some (.ref f)) (hb : Binds K fd ["_law_script", "_law_k"] []) :
    Fn P w K mg base 1 "_law_cell_at" p_law_cell_at := by
  refine fn_mk F sc_law_cell_at hm hb (fun ds d h => ?_) (fun cdv A outer s H E hr ds d h => ?_)
  · obtain ⟨ns, k, rfl, rfl⟩ := h
    exact ⟨rfl, fun a es => by simp⟩
  · obtain ⟨ns, k, rfl, rfl⟩ := h
    have e1 : lenD (scrD ns) = some ns.length := by simp [lenD]
    refine do_ifR (et_lt (ev_v 1) (ev_len T.len (ev_v 0) e1)) (fun hk => ?_) (fun hk => ?_)
    · have hk' : k < ns.length := by simpa using hk
      refine do_ret (ev_ixl (d := .int (cell ns k)) (ev_v 0) rfl (ev_v 1) (atI_nat ?_)) rfl
      rw [List.getElem?_map, List.getElem?_eq_getElem hk']
      simp [cell, List.getD, List.getElem?_eq_getElem hk']
    · have hk' : ns.length ≤ k := by simpa using hk
      refine do_ret ev_int ?_
      show D.int 0 = D.int _
      simp [cell, List.getD, List.getElem?_eq_none hk']
theorem ok_law_worth {f : Addr} {fd : FuncData} (F : Fun K "_law_worth" "_law_worth" s_law_worth f fd) (hm : mg "_law_worth" = some (.ref f)) (hb : Binds K fd ["_law_form", "_law_place"] []) :
    Fn P w K mg base 1 "_law_worth" p_law_worth := by
  refine fn_mk F sc_law_worth hm hb (fun ds d h => ?_) (fun cdv A outer s H E hr ds d h => ?_)
  · obtain ⟨a, b, c, x, y, rfl, _, _, _, _, _, rfl⟩ := h
    exact ⟨rfl, fun a es => by simp⟩
  · obtain ⟨a, b, c, x, y, rfl, ha, hb, hc, hx, hy, rfl⟩ := h
    have nd := sc_law_worth.nd
    refine do_set 2 (ev_ix (ev_v 1) ev_int rfl) (.int x) (do_set 3 (ev_ix (ev_v 1) ev_int rfl) (.int y) ?_ nd) nd
    exact do_ret (ev_add (ev_add (ev_mul (ev_mul (ev_ix (ev_v 0) ev_int rfl) (ev_v 2) inferInstance inferInstance) (ev_v 2) inferInstance inferInstance) (ev_mul (ev_mul (ev_ix (ev_v 0) ev_int rfl) (ev_v 2) inferInstance inferInstance) (ev_v 3) inferInstance inferInstance))
      (ev_mul (ev_mul (ev_ix (ev_v 0) ev_int rfl) (ev_v 3) inferInstance inferInstance) (ev_v 3) inferInstance inferInstance)) rfl
theorem ok_law_good {f : Addr} {fd : FuncData} (G1 : Fn P w K mg base 1 "_law_ints" p_law_ints) (F : Fun K "_law_good" "_law_good" s_law_good f fd) (hm : mg "_law_good" = some (.ref f)) (hb : Binds K fd ["_law_form"] []) : Fn P w K mg base 2 "_law_good" p_law_good := by
  refine fn_mk F sc_law_good hm hb (fun ds d h => ?_) (fun cdv A outer s H E hr ds d h => ?_)
  · obtain ⟨a, b, c, rfl, _, rfl⟩ := h
    exact ⟨rfl, fun a es => by simp⟩
  · obtain ⟨a, b, c, rfl, ha, rfl⟩ := h
    refine do_ifR (et_w (ew_orF (et_notT (et_val (ev_call G1 hr (ea_cons (ev_v 0) (ea_cons ev_int ea_nil)) ⟨[a, b, c], rfl, rfl⟩))) (ew_or (et_gt (ev_ix (ev_v 0) ev_int rfl) (ev_ix (ev_v 0) ev_int rfl)) fun _ => (ew_or (et_le (ev_ix (ev_v 0) ev_int rfl) (ev_neg (ev_ix (ev_v 0) ev_int rfl))) fun _ => (ew_or1 (et_gt (ev_ix (ev_v 0) ev_int rfl) (ev_ix (ev_v 0) ev_int rfl))))))) (fun hk => ?_) (fun hk => ?_)
    · refine do_ret ev_bl ?_
      show D.bl false = D.bl _
      congr 1
      refine (Bool.eq_false_iff.mpr fun z => ?_).symm
      have L := MT.leastB_iff.mp z
      have h1 := L.lo
      have h2 := L.hi
      have h3 := L.ac
      simp only [Bool.or_eq_true, decide_eq_true_eq] at hk
      omega
    · refine do_ret (ev_andT (Ev.tt (ev_gt (ev_ix (ev_v 0) ev_int rfl) ev_int) ha) (ev_one (ev_or (ev_lt (ev_ix (ev_v 0) ev_int rfl) (ev_ix (ev_v 0) ev_int rfl)) fun _ => (ev_one (ev_ge (ev_ix (ev_v 0) ev_int rfl) ev_int))))) ?_
      simp only [Bool.or_eq_false_iff, decide_eq_false_iff_not] at hk
      show D.bl _ = D.bl _
      congr 1
      rw [Bool.eq_iff_iff, MT.leastB_iff]
      simp only [Bool.or_eq_true, decide_eq_true_eq]
      constructor
      · intro h
        exact ⟨by omega, by omega, by omega, fun z => by omega⟩
      · intro L
        have h4 := L.eq
        omega
set_option maxHeartbeats 4000000 in
theorem ok_law_prime_from {f : Addr} {fd : FuncData} (F : Fun K "_law_prime_from" "_law_prime_from" s_law_prime_from f fd) (hm : mg "_law_prime_from" = some (.ref f)) (hb : Binds K fd ["_law_number", "_law_bar"] []) : FnR P w K mg base 1 "_law_prime_from" pre_prime_from post_prime_from := by
  refine fnr_mk F sc_law_prime_from hm hb (fun ds h => ?_) (fun cdv A outer s H E hr ds h => ?_)
  · obtain ⟨n, i, rfl, _⟩ := h
    exact ⟨rfl, fun a es => by simp⟩
  · obtain ⟨n, i, rfl, n0, n1, i0, i1⟩ := h
    have nd := sc_law_prime_from.nd
    refine do_set 0 (d := .int (2 * (n / 2) + 1)) (Ev.to (ev_op op_or (ev_v 0) ev_int (rI0_of fun _ => .int _)) (congrArg D.int (or_one n0))) (.int _) ?_ nd
    refine do_while (fun ρ => ∃ (r : Int) (u : Option D), ρ = [some (.int r), some (.int i), u] ∧ r % 2 = 1 ∧ 1 ≤ r ∧ r ≤ 9721 ∧ (r = 9721 → i % 9719 = 0)) (fun _ => False) (fun ρ => (9722 - intAt ρ 0).toNat) PassesOwn.never ⟨_, none, rfl, by omega, by omega, by omega, by omega⟩ ?_ (fun ρ h => h.elim)
    rintro ρ ⟨r, u, rfl, ro, r1, r2, r3⟩
    refine ⟨true, et_val ev_bl, fun _ => ?_, fun z => by cases z⟩
    refine do_set 2 ev_int (.int _) ?_ nd
    refine do_while (fun ρ => ∃ k : Int, ρ = [some (.int r), some (.int i), some (.int k)] ∧ k % 2 = 1 ∧ 3 ≤ k ∧ k ≤ 101 ∧ ∀ q : Int, 3 ≤ q → q % 2 = 1 → q < k → r % q ≠ 0)
      (fun ρ => ∃ k : Int, ρ = [some (.int r), some (.int i), some (.int k)] ∧ 3 ≤ k ∧ k ≤ 101 ∧ (∀ q : Int, 3 ≤ q → q % 2 = 1 → q < k → r % q ≠ 0) ∧ (r < k * k ∨ r % k = 0)) (fun ρ => (200 - intAt ρ 2).toNat) PassesOwn.never ⟨3, rfl, by decide, by decide, by decide, fun q h1 _ h2 => by omega⟩ ?_ ?_
    · rintro ρ ⟨k, rfl, ko, k3, k4, hq⟩
      have bk : Bd k 7 := .of_lt (by omega)
      refine ⟨_, et_w (ew_and (et_le (ev_mul (ev_v 2) (ev_v 2) bk bk) (ev_v 0)) fun _ => ew_and1 (et_ne (ev_mod (ev_v 0) (ev_v 2) (by omega)) ev_int)), fun hk => ?_, fun hk => ?_⟩
      · simp only [Bool.and_eq_true, decide_eq_true_eq, Bool.not_eq_true', decide_eq_false_iff_not] at hk
        have kk : k < 100 := by
          refine Int.not_le.mp fun z => ?_
          have := Int.mul_le_mul z z (by omega) (by omega)
          omega
        refine do_set 2 (ev_add (ev_v 2) ev_int) (.int _) (do_nil ⟨⟨k + 2, rfl, by omega, by omega, by omega, fun q q1 q2 q3 => ?_⟩, ?_⟩) nd
        · by_cases e : q = k
          · subst e
            exact hk.2
          · exact hq q q1 q2 (by omega)
        · show (200 - (k + 2)).toNat < (200 - k).toNat
          omega
      · simp only [Bool.and_eq_false_iff, decide_eq_false_iff_not, Bool.not_eq_false', decide_eq_true_eq] at hk
        refine ⟨k, rfl, k3, k4, hq, ?_⟩
        rcases hk with z | z
        · exact .inl (by omega)
        · exact .inr z
    · rintro ρ ⟨k, rfl, k3, k4, hq, hend⟩
      have bk : Bd k 7 := .of_lt (by omega)
      have prk : ∀ {x : Nat}, MP.Pr x → (x : Int) = r → 200 < x → r < k * k := fun {x} hx e hx2 => by
        rcases hend with z | z
        · exact z
        · exfalso
          have hp : PrI r := ⟨by omega, by rw [← e]; simpa using hx, by omega⟩
          exact hp.nd (k := k) (by omega) (by omega) z
      by_cases hc : r < k * k ∧ 2 < r ∧ i % r ≠ 0
      · obtain ⟨c1, c2, c3⟩ := hc
        refine do_ifR (k := true) (et_w (Ew.to (ew_and (Et.tt (et_gt (ev_mul (ev_v 2) (ev_v 2) bk bk) (ev_v 0)) c1) fun _ => (ew_and (Et.tt (et_gt (ev_v 0) ev_int) c2) fun _ => (ew_and1 (Et.to (et_ne (ev_mod (ev_v 1) (ev_v 0) (by omega)) ev_int) (by simpa using c3))))) rfl)) (fun _ => ?_) (fun z => by cases z)
        refine do_ret (ev_v 0) ?_
        intro n' i' e
        cases e
        have hp : PrI r := ⟨by omega, pr_of c2 ro fun q q1 q2 q3 => hq q q1 q2 (by
          refine Int.not_le.mp fun z => ?_
          have := Int.mul_le_mul z z (by omega) (by omega)
          omega), by omega⟩
        exact ⟨r, rfl, hp, by omega, c3⟩
      · have nr : r ≠ 9721 := fun e => hc (by
          have h1 := prk pr9721 (by rw [e]; rfl) (by decide)
          refine ⟨h1, by omega, fun z => ?_⟩
          have d1 : (9719 : Int) ∣ i := Int.dvd_of_emod_eq_zero (r3 e)
          rw [e] at z
          have d2 : (9721 : Int) ∣ i := Int.dvd_of_emod_eq_zero z
          have d3 := MG.cop_dvd (show Int.gcd 9719 9721 = 1 by decide) d1 d2
          have d4 : (9719 * 9721 : Int) ∣ -i := Int.dvd_neg.mpr d3
          have := Int.le_of_dvd (by omega) d4
          omega)
        have n9 : r = 9719 → i % 9719 = 0 := fun e => by
          refine Classical.byContradiction fun z => hc ⟨prk pr9719 (by rw [e]; rfl) (by decide), by omega, by rw [e]; exact z⟩
        have key : ∀ {kk : Bool}, (kk = true ↔ r < k * k ∧ 2 < r ∧ i % r ≠ 0) → kk = false := fun {kk} h => by
          cases q : kk with
          | false => rfl
          | true => exact absurd (h.mp q) hc
        refine do_ifF (et_w (Ew.to (ew_and (et_gt (ev_mul (ev_v 2) (ev_v 2) bk bk) (ev_v 0)) fun _ => (ew_and (et_gt (ev_v 0) ev_int) fun _ => (ew_and1 (et_ne (ev_mod (ev_v 1) (ev_v 0) (by omega)) ev_int)))) (key (by simp)))) ?_
        refine do_set 0 (ev_add (ev_v 0) ev_int) (.int _) (do_nil ⟨⟨r + 2, _, rfl, by omega, by omega, by omega, fun e => n9 (by omega)⟩, ?_⟩) nd
        show (9722 - (r + 2)).toNat < (9722 - r).toNat
        omega
theorem ok_law_side {f : Addr} {fd : FuncData} (F : Fun K "_law_side" "_law_side" s_law_side f fd) (hm : mg "_law_side" = some (.ref f)) (hb : Binds K fd ["_law_number", "_law_prime"] []) : Fn P w K mg base 1 "_law_side" p_law_side := by
  refine fn_mk F sc_law_side hm hb (fun ds d h => ?_) (fun cdv A outer s H E hr ds d h => ?_)
  · obtain ⟨i, p, rfl, _⟩ := h
    exact ⟨rfl, fun a es => by simp⟩
  · obtain ⟨i, p, rfl, p2, pl, rfl⟩ := h
    have nd := sc_law_side.nd
    refine do_set 2 ev_int (.int _) ?_ nd
    refine do_set 3 (ev_mod (ev_v 0) (ev_v 1) (by omega)) (.int _) ?_ nd
    refine do_set 4 (d := .int (((p / 2).toNat : Nat) : Int)) (Ev.to (ev_div (ev_v 1) ev_int (by decide) bd_2) (congrArg D.int (by omega))) (.int _) ?_ nd
    refine do_while (fun ρ => ∃ (g t : Int) (n : Nat), ρ = [some (.int i), some (.int p), some (.int g), some (.int t), some (.int (n : Int))] ∧ 0 ≤ g ∧ g < p ∧ 0 ≤ t ∧ t < p ∧ MP.Sm p (g * t ^ n) (i ^ (p / 2).toNat))
      (fun ρ => ∃ (g : Int) (u v : Option D), ρ = [some (.int i), some (.int p), some (.int g), u, v] ∧ 0 ≤ g ∧ g < p ∧ MP.Sm p g (i ^ (p / 2).toNat)) (fun ρ => (intAt ρ 4).natAbs) PassesOwn.never ⟨1, i % p, _, rfl, by omega, by omega, Int.emod_nonneg _ (by omega), Int.emod_lt_of_pos _ (by omega), by rw [Int.one_mul]; exact (MP.Sm.mod p i).pow _⟩ ?_ ?_
    · rintro ρ ⟨g, t, n, rfl, g0, g1, t0, t1, hs⟩
      have bg : Bd g 14 := .of_lt (by omega)
      have bt : Bd t 14 := .of_lt (by omega)
      refine ⟨_, et_gt (ev_v 4) ev_int, fun hk => ?_, fun hk => ?_⟩
      · have n0 : 0 < n := by simpa using hk
        have hs2 := (MP.Sm.symm (pow_half p g t n)).trans hs
        refine do_if (fun ρ => ρ = [some (.int i), some (.int p), some (.int (if n % 2 = 1 then g * t % p else g)), some (.int t), some (.int (n : Int))]) (et_eq (ev_mod (ev_v 4) ev_int (by decide)) ev_int) (fun hk => ?_) (fun hk => ?_) ?_
        · have h1 : n % 2 = 1 := by simp only [decide_eq_true_eq] at hk; omega
          rw [if_pos h1]
          exact do_set 2 (ev_mod (ev_mul (ev_v 2) (ev_v 3) bg bt) (ev_v 1) (by omega)) (.int _) (do_nil rfl) nd
        · have h1 : ¬ n % 2 = 1 := by simp only [decide_eq_false_iff_not] at hk; omega
          rw [if_neg h1]
          exact do_nil rfl
        · rintro ρ rfl
          have g2 : 0 ≤ (if n % 2 = 1 then g * t % p else g) ∧ (if n % 2 = 1 then g * t % p else g) < p := by
            split
            · exact ⟨Int.emod_nonneg _ (by omega), Int.emod_lt_of_pos _ (by omega)⟩
            · exact ⟨g0, g1⟩
          generalize (if n % 2 = 1 then g * t % p else g) = g' at *
          refine do_set 3 (ev_mod (ev_mul (ev_v 3) (ev_v 3) bt bt) (ev_v 1) (by omega)) (.int _) ?_ nd
          refine do_set 4 (d := .int ((n / 2 : Nat) : Int)) (Ev.to (ev_div (ev_v 4) ev_int (by decide) bd_2) (congrArg D.int (by omega))) (.int _) (do_nil ⟨⟨g', t * t % p, n / 2, rfl, g2.1, g2.2, Int.emod_nonneg _ (by omega), Int.emod_lt_of_pos _ (by omega), hs2⟩, ?_⟩) nd
          show (((n / 2 : Nat) : Int)).natAbs < ((n : Int)).natAbs
          omega
      · have n0 : n = 0 := by simp only [decide_eq_false_iff_not] at hk; omega
        subst n0
        refine ⟨g, _, _, rfl, g0, g1, ?_⟩
        rw [Int.pow_zero, Int.mul_one] at hs
        exact hs
    · rintro ρ ⟨g, u, v, rfl, g0, g1, hs⟩
      refine do_ret (ev_eq (ev_v 2) ev_int) ?_
      show D.bl _ = D.bl _
      congr 1
      have e := hs.emod
      rw [Int.emod_eq_of_lt g0 g1] at e
      rw [← e, Int.emod_eq_of_lt (by decide) (show (1 : Int) < p by omega)]
set_option maxHeartbeats 8000000 in
theorem ok_law {f : Addr} {fd : FuncData} (T : Tx mg) (Gc : Fn P w K mg base 1 "_law_cell_at" p_law_cell_at) (Gp : FnR P w K mg base 1 "_law_prime_from" pre_prime_from post_prime_from) (Gs : Fn P w K mg base 1 "_law_side" p_law_side) (Gg : Fn P w K mg base 2 "_law_good" p_law_good) (Gi : Fn P w K mg base 1 "_law_ints" p_law_ints) (Gv : Fn P w K mg base 1 "_law_worth" p_law_worth)
    (Gt : FnR P w K mg base 6 "prime_told" pre_told post_told) (F : Fun K "law" "law" s_law f fd) : FnOk P w K mg base CX0 7 f fd ["_law_script"] (SpD K p_law) := by
  refine fn_ok F sc_law (fun ds d h => ?_) (fun cdv A outer s H E hr ds d h => ?_)
  · obtain ⟨ns, rfl, _, _, rfl⟩ := h
    exact ⟨rfl, fun a es => by simp⟩
  · obtain ⟨ns, rfl, hlen, hs, rfl⟩ := h
    have nd := sc_law.nd
    have hr1 := hr.mono (show 1 ≤ 6 by decide)
    have hr2 := hr.mono (show 2 ≤ 6 by decide)
    have b48 : Bd 48271 16 := .lit
    refine do_set 1 (ev_add ev_int (ev_mod (ev_call Gc hr1 (ea_cons (ev_v 0) (ea_cons ev_int ea_nil)) ⟨ns, 0, rfl, rfl⟩) ev_int (by decide))) (.int _) ?_ nd
    have a0 := Int.emod_nonneg (cell ns 0) (show (30 : Int) ≠ 0 by decide)
    have a1 := Int.emod_lt_of_pos (cell ns 0) (show (0 : Int) < 30 by decide)
    obtain ⟨a, ea, pa, la⟩ : ∃ a : Int, 1 + cell ns 0 % 30 = a ∧ 0 < a ∧ a ≤ 30 := ⟨_, rfl, by omega, by omega⟩
    rw [ea]
    clear a0 a1 ea
    have ba : Bd a 6 := .of_lt (by omega)
    refine do_set 2 (ev_sub (ev_v 1) (ev_mod (ev_call Gc hr1 (ea_cons (ev_v 0) (ea_cons ev_int ea_nil)) ⟨ns, 1, rfl, rfl⟩) (ev_mul ev_int (ev_v 1) bd_2 ba) (by omega))) (.int _) ?_ nd
    have c0 := Int.emod_nonneg (cell ns 1) (show 2 * a ≠ 0 by omega)
    have c1 := Int.emod_lt_of_pos (cell ns 1) (show 0 < 2 * a by omega)
    obtain ⟨b, eb, lb, hb⟩ : ∃ b : Int, a - cell ns 1 % (2 * a) = b ∧ -a < b ∧ b ≤ a := ⟨_, rfl, by omega, by omega⟩
    rw [eb]
    clear c0 c1 eb
    have bb : Bd b 6 := .of_lt (by omega)
    have sqb : b * b ≤ a * a := by
      have := MT.mul_nn (show 0 ≤ a - b by omega) (show 0 ≤ a + b by omega)
      grind
    have sqa : a * a ≤ 900 := by
      have := Int.mul_le_mul la la (by omega) (by decide)
      omega
    have sqb0 := MT.sq_nonneg b
    refine do_set 3 ev_int (.int _) ?_ nd
    refine do_if (fun ρ => ∃ low : Int, ρ = [some (scrD ns), some (.int a), some (.int b), some (.int low), none, none, none, none, none] ∧ 4000 ≤ low ∧ low ≤ 1000000) (et_eq (ev_mod (ev_call Gc hr1 (ea_cons (ev_v 0) (ea_cons ev_int ea_nil)) ⟨ns, 5, rfl, rfl⟩) ev_int (by decide)) ev_int) (fun _ => do_set 3 ev_int (.int _) (do_nil ⟨1000000, rfl, by decide, by decide⟩) nd) (fun _ => do_nil ⟨4000, rfl, by decide, by decide⟩) ?_
    rintro ρ ⟨low, rfl, l1, l2⟩
    have q1 := Int.mul_ediv_add_emod (low + b * b) (4 * a)
    have q2 := Int.emod_nonneg (low + b * b) (show 4 * a ≠ 0 by omega)
    have q3 := Int.emod_lt_of_pos (low + b * b) (show 0 < 4 * a by omega)
    have mod : a ≤ (low + b * b) / (4 * a) := by
      refine Int.not_lt.mp fun z => ?_
      have := Int.mul_le_mul_of_nonneg_left (show (low + b * b) / (4 * a) ≤ a - 1 by omega) (show 0 ≤ 4 * a by omega)
      have e : 4 * a * (a - 1) = 4 * (a * a) - 4 * a := by grind
      omega
    refine do_set 4 (ev_add (ev_v 1) (ev_mod (ev_mul (ev_call Gc hr1 (ea_cons (ev_v 0) (ea_cons ev_int ea_nil)) ⟨ns, 2, rfl, rfl⟩) ev_int (hs 2) b48) (ev_add (ev_sub (ev_div (ev_add (ev_v 3) (ev_mul (ev_v 2) (ev_v 2) bb bb)) (ev_mul ev_int (ev_v 1) bd_4 ba) (by omega) (Bd.mul bd_4 ba 9 (by decide))) (ev_v 1)) ev_int) (by omega))) (.int _) ?_ nd
    obtain ⟨c, ec, lc, hc⟩ : ∃ c : Int, a + cell ns 2 * 48271 % ((low + b * b) / (4 * a) - a + 1) = c ∧ a ≤ c ∧ c ≤ (low + b * b) / (4 * a) := by
      have h1 := Int.emod_nonneg (cell ns 2 * 48271) (show (low + b * b) / (4 * a) - a + 1 ≠ 0 by omega)
      have h2 := Int.emod_lt_of_pos (cell ns 2 * 48271) (show 0 < (low + b * b) / (4 * a) - a + 1 by omega)
      exact ⟨_, rfl, by omega, by omega⟩
    rw [ec]
    clear ec
    have lowb : -1000000 ≤ b * b - 4 * a * c := by
      have := Int.mul_le_mul_of_nonneg_left hc (show 0 ≤ 4 * a by omega)
      omega
    have neg : b * b - 4 * a * c < 0 := by
      have := Int.mul_le_mul_of_nonneg_left lc (show 0 ≤ 4 * a by omega)
      have e : 4 * a * a = 4 * (a * a) := by grind
      have := Int.mul_pos pa pa
      omega
    have cq : c ≤ 1000900 := by
      have : (low + b * b) / (4 * a) ≤ low + b * b := Int.ediv_le_self _ (by omega)
      omega
    have bc : Bd c 20 := .of_lt (by omega)
    have h4 := bar_mod a b c
    refine do_set 5 (ev_sub (ev_mul (ev_v 2) (ev_v 2) bb bb) (ev_mul (ev_mul ev_int (ev_v 1) bd_4 ba) (ev_v 4) (Bd.mul bd_4 ba 9 (by decide)) bc)) (.int _) ?_ nd
    generalize b * b - 4 * a * c = i at *
    refine do_setR 6 (evr_call Gp hr1 (ea_cons (ev_mod (ev_mul (ev_call Gc hr1 (ea_cons (ev_v 0) (ea_cons ev_int ea_nil)) ⟨ns, 3, rfl, rfl⟩) ev_int (hs 3) b48) ev_int (by decide)) (ea_cons (ev_v 5) ea_nil)) ⟨_, i, rfl, Int.emod_nonneg _ (by decide), Int.emod_lt_of_pos _ (by decide), neg, by omega⟩) (fun r hr' => by obtain ⟨p, rfl, _⟩ := hr' _ _ rfl; exact .int _) (fun r hr' => ?_) nd
    obtain ⟨p0, rfl, hp0, h30, hd0⟩ := hr' _ _ rfl
    refine do_if (fun ρ => ∃ p : Int, ρ = [some (scrD ns), some (.int a), some (.int b), some (.int low), some (.int c), some (.int i), some (.int p), none, none] ∧ PrI p ∧ 3 ≤ p ∧ i % p ≠ 0) (et_eq (ev_mod (ev_call Gc hr1 (ea_cons (ev_v 0) (ea_cons ev_int ea_nil)) ⟨ns, 4, rfl, rfl⟩) ev_int (by decide)) ev_int) (fun _ => ?_) (fun _ => do_nil ⟨p0, rfl, hp0, h30, hd0⟩) ?_
    · refine do_setR 6 (evr_call Gp hr1 (ea_cons (ev_mod (ev_call Gc hr1 (ea_cons (ev_v 0) (ea_cons ev_int ea_nil)) ⟨ns, 3, rfl, rfl⟩) ev_int (by decide)) (ea_cons (ev_v 5) ea_nil)) ⟨_, i, rfl, Int.emod_nonneg _ (by decide), Int.lt_trans (Int.emod_lt_of_pos _ (by decide)) (by decide), neg, by omega⟩) (fun r hr' => by obtain ⟨p, rfl, _⟩ := hr' _ _ rfl; exact .int _) (fun r hr' => ?_) nd
      obtain ⟨p1, rfl, hp1, h31, hd1⟩ := hr' _ _ rfl
      exact do_nil ⟨p1, rfl, hp1, h31, hd1⟩
    rintro ρ ⟨p, rfl, hp, h3, hd⟩
    have M := mid_iff hp h3 h4 hd
    have pl := hp.le
    refine do_setR 7 (evr_call Gt hr (ea_cons (ev_v 5) (ea_cons (ev_v 6) ea_nil)) ⟨i, p, rfl, neg, h4, lowb, hp, h3, hd⟩) (fun r hr' => fz_told rfl hr') (fun r hr' => ?_) nd
    rcases hr' _ _ rfl with ⟨a', b', c', x, y, rfl, L, fS, ebar, ew, bx, by', hm⟩ | ⟨rfl, hm⟩
    · have he := M.mp hm
      have lt : MT.leastB a' b' c' = true := MT.leastB_iff.mpr L
      refine do_ifF (et_w (ew_orF (et_notT (et_val (ev_isi T.isi (ev_v 7) T.tuple bo_tuple rfl kit_s))) (ew_or1 (Et.ff' (et_eq (ev_len T.len (ev_v 7) rfl) ev_int) (by simp))))) ?_
      refine do_ifF (et_notT (et_val (Ev.tt (ev_call Gs hr1 (ea_cons (ev_v 5) (ea_cons (ev_v 6) ea_nil)) ⟨i, p, rfl, by omega, pl, rfl⟩) he))) ?_
      refine do_ifF (et_w (ew_orF (Et.ff (et_ne (ev_len T.len (ev_v 7) rfl) ev_int) rfl) (ew_orF (Et.to (et_isnot (ev_ix (ev_v 7) ev_int rfl) ev_bl) rfl) (ew_orF (et_notT (et_val (ev_call Gg hr2 (ea_cons (ev_ix (ev_v 7) ev_int rfl) ea_nil) ⟨a', b', c', rfl, fS.pos, by rw [lt]⟩))) (ew_or1 (et_notT (et_val (ev_call Gi hr1 (ea_cons (ev_ix (ev_v 7) ev_int rfl) (ea_cons ev_int ea_nil)) ⟨[x, y], rfl, rfl⟩)))))))) ?_
      refine do_set 8 (ev_ix (ev_v 7) ev_int rfl) (fz3 _ _ _) ?_ nd
      have U : ∀ {z : Int}, Bd z 7000 → Bd z 8000 := fun h => h.up _ (by decide)
      exact do_ret (ev_andT (Ev.tt (ev_eq (ev_sub (ev_mul (ev_ix (ev_v 8) ev_int rfl) (ev_ix (ev_v 8) ev_int rfl) fS.sb fS.sb) (ev_mul (ev_mul ev_int (ev_ix (ev_v 8) ev_int rfl) bd_4 fS.sa) (ev_ix (ev_v 8) ev_int rfl) (Bd.mul bd_4 fS.sa 3003 (by decide)) fS.sc)) (ev_v 5)) ebar)
        (ev_one (Ev.tt (ev_eq (ev_call Gv hr1 (ea_cons (ev_v 8) (ea_cons (ev_ix (ev_v 7) ev_int rfl) ea_nil)) ⟨a', b', c', x, y, rfl, fS.n.sa, fS.n.sb, fS.n.sc, U bx, U by', rfl⟩) (ev_v 6)) ew))) rfl
    · have he : ¬ i ^ (p / 2).toNat % p = 1 % p := fun z => by
        obtain ⟨m, h⟩ := M.mpr z
        exact hm m h
      refine do_ifF (et_w (ew_orF (et_notT (et_val (ev_isi T.isi (ev_v 7) T.tuple bo_tuple rfl kit_s))) (ew_or1 (Et.ff' (et_eq (ev_len T.len (ev_v 7) rfl) ev_int) (by simp))))) ?_
      refine do_ifR (k := true) (et_notF (et_val (Ev.ff (ev_call Gs hr1 (ea_cons (ev_v 5) (ea_cons (ev_v 6) ea_nil)) ⟨i, p, rfl, by omega, pl, rfl⟩) he))) (fun _ => ?_) (fun z => by cases z)
      exact do_ret (ev_andT (Ev.tt (ev_eq (ev_len T.len (ev_v 7) rfl) ev_int) rfl) (ev_one (Ev.to (ev_is (ev_ix (ev_v 7) ev_int rfl) ev_bl) rfl))) rfl
end
theorem all_mk {l : PySem.W.OpenLaw} {w : World} {K : PySem.W.Frag} {h : Heap} {mg : Str → Option Value} {fa f0 f1 f2 f3 f4 f5 f6 f7 f8 f9 f10 f11 f12 f13 f14 f15 f16 f17 f18 f19 f20 f21 f22 f23 f24 f25 f26 f27 f28 f29 : Addr} (X : K.In h) (G : h.Ns mainGlobals mg) (hfa : mg "law" = some (.ref fa))
    {od0 an0 od1 an1 od2 an2 od3 an3 od4 an4 od5 an5 od6 an6 od7 an7 od8 an8 od9 an9 od10 an10 od11 an11 od12 an12 od13 an13 od14 an14 od15 an15 od16 an16 od17 an17 od18 an18 od19 an19 od20 an20 od21 an21 od22 an22 od23 an23 od24 an24 od25 an25 od26 an26 od27 an27 od28 an28 od29 an29 : Option Addr} {sl0 sl1 sl2 sl3 sl4 sl5 sl6 sl7 sl8 sl9 sl10 sl11 sl12 sl13 sl14 sl15 sl16 sl17 sl18 sl19 sl20 sl21 sl22 sl23 sl24 sl25 sl26 sl27 sl28 sl29 : Array (Option Value)} {oc0 kV0 dc0 pm0 cd0 ct0 oc1 kV1 dc1 pm1 cd1 ct1 oc2 kV2 dc2 pm2 cd2 ct2 oc3 kV3 dc3 pm3 cd3 ct3 oc4 kV4 dc4 pm4 cd4 ct4 oc5 kV5 dc5 pm5 cd5 ct5 oc6 kV6 dc6 pm6 cd6 ct6 oc7 kV7 dc7 pm7 cd7 ct7 oc8 kV8 dc8 pm8 cd8 ct8 oc9 kV9 dc9 pm9 cd9 ct9 oc10 kV10 dc10 pm10 cd10 ct10 oc11 kV11 dc11 pm11 cd11 ct11 oc12 kV12 dc12 pm12 cd12 ct12 oc13 kV13 dc13 pm13 cd13 ct13 oc14 kV14 dc14 pm14 cd14 ct14 oc15 kV15 dc15 pm15 cd15 ct15 oc16 kV16 dc16 pm16 cd16 ct16 oc17 kV17 dc17 pm17 cd17 ct17 oc18 kV18 dc18 pm18 cd18 ct18 oc19 kV19 dc19 pm19 cd19 ct19 oc20 kV20 dc20 pm20 cd20 ct20 oc21 kV21 dc21 pm21 cd21 ct21 oc22 kV22 dc22 pm22 cd22 ct22 oc23 kV23 dc23 pm23 cd23 ct23 oc24 kV24 dc24 pm24 cd24 ct24 oc25 kV25 dc25 pm25 cd25 ct25 oc26 kV26 dc26 pm26 cd26 ct26 oc27 kV27 dc27 pm27 cd27 ct27 oc28 kV28 dc28 pm28 cd28 ct28 oc29 kV29 dc29 pm29 cd29 ct29 : Value}
    (a0 : PySem.W.nsIn K mainGlobals "is_whole" = some (some (.ref f0))) (l0 : K.lookup f0 = some ⟨oc0, od0, .func (PySem.W.fnOf "is_whole" "is_whole" (defArgs s_is_whole) (defBody s_is_whole) (defScope s_is_whole) .none kV0 dc0 pm0 an0 cd0 ct0), sl0⟩) (c0 : PySem.W.codeIn K cd0 "is_whole" = true) (k0 : PySem.W.keepIn K (.ref f0) = true)
    (a1 : PySem.W.nsIn K mainGlobals "is_whole_tuple" = some (some (.ref f1))) (l1 : K.lookup f1 = some ⟨oc1, od1, .func (PySem.W.fnOf "is_whole_tuple" "is_whole_tuple" (defArgs s_is_whole_tuple) (defBody s_is_whole_tuple) (defScope s_is_whole_tuple) .none kV1 dc1 pm1 an1 cd1 ct1), sl1⟩) (c1 : PySem.W.codeIn K cd1 "is_whole_tuple" = true) (k1 : PySem.W.keepIn K (.ref f1) = true)
    (a2 : PySem.W.nsIn K mainGlobals "is_bar" = some (some (.ref f2))) (l2 : K.lookup f2 = some ⟨oc2, od2, .func (PySem.W.fnOf "is_bar" "is_bar" (defArgs s_is_bar) (defBody s_is_bar) (defScope s_is_bar) .none kV2 dc2 pm2 an2 cd2 ct2), sl2⟩) (c2 : PySem.W.codeIn K cd2 "is_bar" = true) (k2 : PySem.W.keepIn K (.ref f2) = true)
    (a3 : PySem.W.nsIn K mainGlobals "require_bar" = some (some (.ref f3))) (l3 : K.lookup f3 = some ⟨oc3, od3, .func (PySem.W.fnOf "require_bar" "require_bar" (defArgs s_require_bar) (defBody s_require_bar) (defScope s_require_bar) .none kV3 dc3 pm3 an3 cd3 ct3), sl3⟩) (c3 : PySem.W.codeIn K cd3 "require_bar" = true) (k3 : PySem.W.keepIn K (.ref f3) = true)
    (a4 : PySem.W.nsIn K mainGlobals "require_bar_from" = some (some (.ref f4))) (l4 : K.lookup f4 = some ⟨oc4, od4, .func (PySem.W.fnOf "require_bar_from" "require_bar_from" (defArgs s_require_bar_from) (defBody s_require_bar_from) (defScope s_require_bar_from) .none kV4 dc4 pm4 an4 cd4 ct4), sl4⟩) (c4 : PySem.W.codeIn K cd4 "require_bar_from" = true) (k4 : PySem.W.keepIn K (.ref f4) = true)
    (a5 : PySem.W.nsIn K mainGlobals "require_whole" = some (some (.ref f5))) (l5 : K.lookup f5 = some ⟨oc5, od5, .func (PySem.W.fnOf "require_whole" "require_whole" (defArgs s_require_whole) (defBody s_require_whole) (defScope s_require_whole) .none kV5 dc5 pm5 an5 cd5 ct5), sl5⟩) (c5 : PySem.W.codeIn K cd5 "require_whole" = true) (k5 : PySem.W.keepIn K (.ref f5) = true)
    (a6 : PySem.W.nsIn K mainGlobals "require_number" = some (some (.ref f6))) (l6 : K.lookup f6 = some ⟨oc6, od6, .func (PySem.W.fnOf "require_number" "require_number" (defArgs s_require_number) (defBody s_require_number) (defScope s_require_number) .none kV6 dc6 pm6 an6 cd6 ct6), sl6⟩) (c6 : PySem.W.codeIn K cd6 "require_number" = true) (k6 : PySem.W.keepIn K (.ref f6) = true)
    (a7 : PySem.W.nsIn K mainGlobals "prime_factors" = some (some (.ref f7))) (l7 : K.lookup f7 = some ⟨oc7, od7, .func (PySem.W.fnOf "prime_factors" "prime_factors" (defArgs s_prime_factors) (defBody s_prime_factors) (defScope s_prime_factors) .none kV7 dc7 pm7 an7 cd7 ct7), sl7⟩) (c7 : PySem.W.codeIn K cd7 "prime_factors" = true) (k7 : PySem.W.keepIn K (.ref f7) = true)
    (a8 : PySem.W.nsIn K mainGlobals "bar_of_numbers" = some (some (.ref f8))) (l8 : K.lookup f8 = some ⟨oc8, od8, .func (PySem.W.fnOf "bar_of_numbers" "bar_of_numbers" (defArgs s_bar_of_numbers) (defBody s_bar_of_numbers) (defScope s_bar_of_numbers) .none kV8 dc8 pm8 an8 cd8 ct8), sl8⟩) (c8 : PySem.W.codeIn K cd8 "bar_of_numbers" = true) (k8 : PySem.W.keepIn K (.ref f8) = true)
    (a9 : PySem.W.nsIn K mainGlobals "is_form" = some (some (.ref f9))) (l9 : K.lookup f9 = some ⟨oc9, od9, .func (PySem.W.fnOf "is_form" "is_form" (defArgs s_is_form) (defBody s_is_form) (defScope s_is_form) .none kV9 dc9 pm9 an9 cd9 ct9), sl9⟩) (c9 : PySem.W.codeIn K cd9 "is_form" = true) (k9 : PySem.W.keepIn K (.ref f9) = true)
    (a10 : PySem.W.nsIn K mainGlobals "require_form" = some (some (.ref f10))) (l10 : K.lookup f10 = some ⟨oc10, od10, .func (PySem.W.fnOf "require_form" "require_form" (defArgs s_require_form) (defBody s_require_form) (defScope s_require_form) .none kV10 dc10 pm10 an10 cd10 ct10), sl10⟩) (c10 : PySem.W.codeIn K cd10 "require_form" = true) (k10 : PySem.W.keepIn K (.ref f10) = true)
    (a11 : PySem.W.nsIn K mainGlobals "is_turning" = some (some (.ref f11))) (l11 : K.lookup f11 = some ⟨oc11, od11, .func (PySem.W.fnOf "is_turning" "is_turning" (defArgs s_is_turning) (defBody s_is_turning) (defScope s_is_turning) .none kV11 dc11 pm11 an11 cd11 ct11), sl11⟩) (c11 : PySem.W.codeIn K cd11 "is_turning" = true) (k11 : PySem.W.keepIn K (.ref f11) = true)
    (a12 : PySem.W.nsIn K mainGlobals "require_turning" = some (some (.ref f12))) (l12 : K.lookup f12 = some ⟨oc12, od12, .func (PySem.W.fnOf "require_turning" "require_turning" (defArgs s_require_turning) (defBody s_require_turning) (defScope s_require_turning) .none kV12 dc12 pm12 an12 cd12 ct12), sl12⟩) (c12 : PySem.W.codeIn K cd12 "require_turning" = true) (k12 : PySem.W.keepIn K (.ref f12) = true)
    (a13 : PySem.W.nsIn K mainGlobals "sent" = some (some (.ref f13))) (l13 : K.lookup f13 = some ⟨oc13, od13, .func (PySem.W.fnOf "sent" "sent" (defArgs s_sent) (defBody s_sent) (defScope s_sent) .none kV13 dc13 pm13 an13 cd13 ct13), sl13⟩) (c13 : PySem.W.codeIn K cd13 "sent" = true) (k13 : PySem.W.keepIn K (.ref f13) = true)
    (a14 : PySem.W.nsIn K mainGlobals "way_back" = some (some (.ref f14))) (l14 : K.lookup f14 = some ⟨oc14, od14, .func (PySem.W.fnOf "way_back" "way_back" (defArgs s_way_back) (defBody s_way_back) (defScope s_way_back) .none kV14 dc14 pm14 an14 cd14 ct14), sl14⟩) (c14 : PySem.W.codeIn K cd14 "way_back" = true) (k14 : PySem.W.keepIn K (.ref f14) = true)
    (a15 : PySem.W.nsIn K mainGlobals "stepped" = some (some (.ref f15))) (l15 : K.lookup f15 = some ⟨oc15, od15, .func (PySem.W.fnOf "stepped" "stepped" (defArgs s_stepped) (defBody s_stepped) (defScope s_stepped) .none kV15 dc15 pm15 an15 cd15 ct15), sl15⟩) (c15 : PySem.W.codeIn K cd15 "stepped" = true) (k15 : PySem.W.keepIn K (.ref f15) = true)
    (a16 : PySem.W.nsIn K mainGlobals "behind_step" = some (some (.ref f16))) (l16 : K.lookup f16 = some ⟨oc16, od16, .func (PySem.W.fnOf "behind_step" "behind_step" (defArgs s_behind_step) (defBody s_behind_step) (defScope s_behind_step) .none kV16 dc16 pm16 an16 cd16 ct16), sl16⟩) (c16 : PySem.W.codeIn K cd16 "behind_step" = true) (k16 : PySem.W.keepIn K (.ref f16) = true)
    (a17 : PySem.W.nsIn K mainGlobals "swapped" = some (some (.ref f17))) (l17 : K.lookup f17 = some ⟨oc17, od17, .func (PySem.W.fnOf "swapped" "swapped" (defArgs s_swapped) (defBody s_swapped) (defScope s_swapped) .none kV17 dc17 pm17 an17 cd17 ct17), sl17⟩) (c17 : PySem.W.codeIn K cd17 "swapped" = true) (k17 : PySem.W.keepIn K (.ref f17) = true)
    (a18 : PySem.W.nsIn K mainGlobals "behind_swap" = some (some (.ref f18))) (l18 : K.lookup f18 = some ⟨oc18, od18, .func (PySem.W.fnOf "behind_swap" "behind_swap" (defArgs s_behind_swap) (defBody s_behind_swap) (defScope s_behind_swap) .none kV18 dc18 pm18 an18 cd18 ct18), sl18⟩) (c18 : PySem.W.codeIn K cd18 "behind_swap" = true) (k18 : PySem.W.keepIn K (.ref f18) = true)
    (a19 : PySem.W.nsIn K mainGlobals "step_to_middle" = some (some (.ref f19))) (l19 : K.lookup f19 = some ⟨oc19, od19, .func (PySem.W.fnOf "step_to_middle" "step_to_middle" (defArgs s_step_to_middle) (defBody s_step_to_middle) (defScope s_step_to_middle) .none kV19 dc19 pm19 an19 cd19 ct19), sl19⟩) (c19 : PySem.W.codeIn K cd19 "step_to_middle" = true) (k19 : PySem.W.keepIn K (.ref f19) = true)
    (a20 : PySem.W.nsIn K mainGlobals "least_of" = some (some (.ref f20))) (l20 : K.lookup f20 = some ⟨oc20, od20, .func (PySem.W.fnOf "least_of" "least_of" (defArgs s_least_of) (defBody s_least_of) (defScope s_least_of) .none kV20 dc20 pm20 an20 cd20 ct20), sl20⟩) (c20 : PySem.W.codeIn K cd20 "least_of" = true) (k20 : PySem.W.keepIn K (.ref f20) = true)
    (a21 : PySem.W.nsIn K mainGlobals "require_telling_prime" = some (some (.ref f21))) (l21 : K.lookup f21 = some ⟨oc21, od21, .func (PySem.W.fnOf "require_telling_prime" "require_telling_prime" (defArgs s_require_telling_prime) (defBody s_require_telling_prime) (defScope s_require_telling_prime) .none kV21 dc21 pm21 an21 cd21 ct21), sl21⟩) (c21 : PySem.W.codeIn K cd21 "require_telling_prime" = true) (k21 : PySem.W.keepIn K (.ref f21) = true)
    (a22 : PySem.W.nsIn K mainGlobals "prime_told" = some (some (.ref f22))) (l22 : K.lookup f22 = some ⟨oc22, od22, .func (PySem.W.fnOf "prime_told" "prime_told" (defArgs s_prime_told) (defBody s_prime_told) (defScope s_prime_told) .none kV22 dc22 pm22 an22 cd22 ct22), sl22⟩) (c22 : PySem.W.codeIn K cd22 "prime_told" = true) (k22 : PySem.W.keepIn K (.ref f22) = true)
    (a23 : PySem.W.nsIn K mainGlobals "_law_ints" = some (some (.ref f23))) (l23 : K.lookup f23 = some ⟨oc23, od23, .func (PySem.W.fnOf "_law_ints" "_law_ints" (defArgs s_law_ints) (defBody s_law_ints) (defScope s_law_ints) .none kV23 dc23 pm23 an23 cd23 ct23), sl23⟩) (c23 : PySem.W.codeIn K cd23 "_law_ints" = true) (k23 : PySem.W.keepIn K (.ref f23) = true)
    (a24 : PySem.W.nsIn K mainGlobals "_law_cell_at" = some (some (.ref f24))) (l24 : K.lookup f24 = some ⟨oc24, od24, .func (PySem.W.fnOf "_law_cell_at" "_law_cell_at" (defArgs s_law_cell_at) (defBody s_law_cell_at) (defScope s_law_cell_at) .none kV24 dc24 pm24 an24 cd24 ct24), sl24⟩) (c24 : PySem.W.codeIn K cd24 "_law_cell_at" = true) (k24 : PySem.W.keepIn K (.ref f24) = true)
    (a25 : PySem.W.nsIn K mainGlobals "_law_worth" = some (some (.ref f25))) (l25 : K.lookup f25 = some ⟨oc25, od25, .func (PySem.W.fnOf "_law_worth" "_law_worth" (defArgs s_law_worth) (defBody s_law_worth) (defScope s_law_worth) .none kV25 dc25 pm25 an25 cd25 ct25), sl25⟩) (c25 : PySem.W.codeIn K cd25 "_law_worth" = true) (k25 : PySem.W.keepIn K (.ref f25) = true)
    (a26 : PySem.W.nsIn K mainGlobals "_law_good" = some (some (.ref f26))) (l26 : K.lookup f26 = some ⟨oc26, od26, .func (PySem.W.fnOf "_law_good" "_law_good" (defArgs s_law_good) (defBody s_law_good) (defScope s_law_good) .none kV26 dc26 pm26 an26 cd26 ct26), sl26⟩) (c26 : PySem.W.codeIn K cd26 "_law_good" = true) (k26 : PySem.W.keepIn K (.ref f26) = true)
    (a27 : PySem.W.nsIn K mainGlobals "_law_prime_from" = some (some (.ref f27))) (l27 : K.lookup f27 = some ⟨oc27, od27, .func (PySem.W.fnOf "_law_prime_from" "_law_prime_from" (defArgs s_law_prime_from) (defBody s_law_prime_from) (defScope s_law_prime_from) .none kV27 dc27 pm27 an27 cd27 ct27), sl27⟩) (c27 : PySem.W.codeIn K cd27 "_law_prime_from" = true) (k27 : PySem.W.keepIn K (.ref f27) = true)
    (a28 : PySem.W.nsIn K mainGlobals "_law_side" = some (some (.ref f28))) (l28 : K.lookup f28 = some ⟨oc28, od28, .func (PySem.W.fnOf "_law_side" "_law_side" (defArgs s_law_side) (defBody s_law_side) (defScope s_law_side) .none kV28 dc28 pm28 an28 cd28 ct28), sl28⟩) (c28 : PySem.W.codeIn K cd28 "_law_side" = true) (k28 : PySem.W.keepIn K (.ref f28) = true)
    (a29 : PySem.W.nsIn K mainGlobals "law" = some (some (.ref f29))) (l29 : K.lookup f29 = some ⟨oc29, od29, .func (PySem.W.fnOf "law" "law" (defArgs s_law) (defBody s_law) (defScope s_law) .none kV29 dc29 pm29 an29 cd29 ct29), sl29⟩) (c29 : PySem.W.codeIn K cd29 "law" = true) (k29 : PySem.W.keepIn K (.ref f29) = true)
    {gNO_TURN : Addr} {odNO_TURN : Option Addr} {nNO_TURN : Nat} {slNO_TURN : Array (Option Value)} {tNO_TURN0 tNO_TURN1 tNO_TURN2 tNO_TURN3 : Tok}
    (caNO_TURN : PySem.W.nsIn K mainGlobals "NO_TURN" = some (some (.ref gNO_TURN))) (clNO_TURN : K.lookup gNO_TURN = some ⟨.type "tuple", odNO_TURN, .seq #[.int (1 : Int) tNO_TURN0, .int (0 : Int) tNO_TURN1, .int (0 : Int) tNO_TURN2, .int (1 : Int) tNO_TURN3] nNO_TURN, slNO_TURN⟩)
    {tLOWEST_MARKED_BAR : Tok} (caLOWEST_MARKED_BAR : PySem.W.nsIn K mainGlobals "LOWEST_MARKED_BAR" = some (some (.int (-1000000 : Int) tLOWEST_MARKED_BAR)))
    {tGREATEST : Tok} (caGREATEST : PySem.W.nsIn K mainGlobals "GREATEST" = some (some (.int (10000 : Int) tGREATEST)))
    (z0 : PySem.W.nsIn K mainGlobals "abs" = some none) (z1 : PySem.W.nsIn K mainGlobals "all" = some none) (z2 : PySem.W.nsIn K mainGlobals "any" = some none) (z3 : PySem.W.nsIn K mainGlobals "bool" = some none) (z4 : PySem.W.nsIn K mainGlobals "dict" = some none) (z5 : PySem.W.nsIn K mainGlobals "enumerate" = some none) (z6 : PySem.W.nsIn K mainGlobals "int" = some none) (z7 : PySem.W.nsIn K mainGlobals "isinstance" = some none) (z8 : PySem.W.nsIn K mainGlobals "len" = some none) (z9 : PySem.W.nsIn K mainGlobals "list" = some none) (z10 : PySem.W.nsIn K mainGlobals "max" = some none) (z11 : PySem.W.nsIn K mainGlobals "min" = some none) (z12 : PySem.W.nsIn K mainGlobals "range" = some none) (z13 : PySem.W.nsIn K mainGlobals "reversed" = some none) (z14 : PySem.W.nsIn K mainGlobals "sorted" = some none) (z15 : PySem.W.nsIn K mainGlobals "str" = some none) (z16 : PySem.W.nsIn K mainGlobals "sum" = some none) (z17 : PySem.W.nsIn K mainGlobals "tuple" = some none) (z18 : PySem.W.nsIn K mainGlobals "zip" = some none) :
    ∃ fd : FuncData, (∀ (s : Shared) (v : Value), BindsTo s fd ⟨[v], []⟩ [("_law_script", v)]) ∧ ∀ base : Heap, K.In base → base.Ns mainGlobals mg → FnOk l.prog w K mg base CX0 7 fa fd ["_law_script"] (SpD K p_law) := by
  have e := hfa.symm.trans (PySem.W.mg_of X G a29)
  cases e
  have T : Tx mg := ⟨PySem.W.mg_none_of X G z0, PySem.W.mg_none_of X G z1, PySem.W.mg_none_of X G z2, PySem.W.mg_none_of X G z3, PySem.W.mg_none_of X G z4, PySem.W.mg_none_of X G z5, PySem.W.mg_none_of X G z6, PySem.W.mg_none_of X G z7, PySem.W.mg_none_of X G z8, PySem.W.mg_none_of X G z9, PySem.W.mg_none_of X G z10, PySem.W.mg_none_of X G z11, PySem.W.mg_none_of X G z12, PySem.W.mg_none_of X G z13, PySem.W.mg_none_of X G z14, PySem.W.mg_none_of X G z15, PySem.W.mg_none_of X G z16, PySem.W.mg_none_of X G z17, PySem.W.mg_none_of X G z18⟩
  have F0 := fun_mk (st := s_is_whole) l0 c0 k0
  have b0 := F0.binds (ps := ["value"]) fun _ _ _ _ _ _ us hl => match us, hl with | [_], _ => rfl
  have m0 := PySem.W.mg_of X G a0
  have F1 := fun_mk (st := s_is_whole_tuple) l1 c1 k1
  have b1 := F1.binds (ps := ["value", "length"]) fun _ _ _ _ _ _ us hl => match us, hl with | [_, _], _ => rfl
  have m1 := PySem.W.mg_of X G a1
  have F2 := fun_mk (st := s_is_bar) l2 c2 k2
  have b2 := F2.binds (ps := ["value"]) fun _ _ _ _ _ _ us hl => match us, hl with | [_], _ => rfl
  have m2 := PySem.W.mg_of X G a2
  have F3 := fun_mk (st := s_require_bar) l3 c3 k3
  have b3 := F3.binds (ps := ["value"]) fun _ _ _ _ _ _ us hl => match us, hl with | [_], _ => rfl
  have m3 := PySem.W.mg_of X G a3
  have F4 := fun_mk (st := s_require_bar_from) l4 c4 k4
  have b4 := F4.binds (ps := ["value", "lowest"]) fun _ _ _ _ _ _ us hl => match us, hl with | [_, _], _ => rfl
  have m4 := PySem.W.mg_of X G a4
  have F5 := fun_mk (st := s_require_whole) l5 c5 k5
  have b5 := F5.binds (ps := ["value"]) fun _ _ _ _ _ _ us hl => match us, hl with | [_], _ => rfl
  have m5 := PySem.W.mg_of X G a5
  have F6 := fun_mk (st := s_require_number) l6 c6 k6
  have b6 := F6.binds (ps := ["value", "lowest", "highest"]) fun _ _ _ _ _ _ us hl => match us, hl with | [_, _, _], _ => rfl
  have m6 := PySem.W.mg_of X G a6
  have F7 := fun_mk (st := s_prime_factors) l7 c7 k7
  have b7 := F7.binds (ps := ["number"]) fun _ _ _ _ _ _ us hl => match us, hl with | [_], _ => rfl
  have m7 := PySem.W.mg_of X G a7
  have F8 := fun_mk (st := s_bar_of_numbers) l8 c8 k8
  have b8 := F8.binds (ps := ["a", "b", "c"]) fun _ _ _ _ _ _ us hl => match us, hl with | [_, _, _], _ => rfl
  have m8 := PySem.W.mg_of X G a8
  have F9 := fun_mk (st := s_is_form) l9 c9 k9
  have b9 := F9.binds (ps := ["value"]) fun _ _ _ _ _ _ us hl => match us, hl with | [_], _ => rfl
  have m9 := PySem.W.mg_of X G a9
  have F10 := fun_mk (st := s_require_form) l10 c10 k10
  have b10 := F10.binds (ps := ["value"]) fun _ _ _ _ _ _ us hl => match us, hl with | [_], _ => rfl
  have m10 := PySem.W.mg_of X G a10
  have F11 := fun_mk (st := s_is_turning) l11 c11 k11
  have b11 := F11.binds (ps := ["value"]) fun _ _ _ _ _ _ us hl => match us, hl with | [_], _ => rfl
  have m11 := PySem.W.mg_of X G a11
  have F12 := fun_mk (st := s_require_turning) l12 c12 k12
  have b12 := F12.binds (ps := ["value"]) fun _ _ _ _ _ _ us hl => match us, hl with | [_], _ => rfl
  have m12 := PySem.W.mg_of X G a12
  have F13 := fun_mk (st := s_sent) l13 c13 k13
  have b13 := F13.binds (ps := ["turning", "place"]) fun _ _ _ _ _ _ us hl => match us, hl with | [_, _], _ => rfl
  have m13 := PySem.W.mg_of X G a13
  have F14 := fun_mk (st := s_way_back) l14 c14 k14
  have b14 := F14.binds (ps := ["turning"]) fun _ _ _ _ _ _ us hl => match us, hl with | [_], _ => rfl
  have m14 := PySem.W.mg_of X G a14
  have F15 := fun_mk (st := s_stepped) l15 c15 k15
  have b15 := F15.binds (ps := ["form", "step"]) fun _ _ _ _ _ _ us hl => match us, hl with | [_, _], _ => rfl
  have m15 := PySem.W.mg_of X G a15
  have F16 := fun_mk (st := s_behind_step) l16 c16 k16
  have b16 := F16.binds (ps := ["turning", "step"]) fun _ _ _ _ _ _ us hl => match us, hl with | [_, _], _ => rfl
  have m16 := PySem.W.mg_of X G a16
  have F17 := fun_mk (st := s_swapped) l17 c17 k17
  have b17 := F17.binds (ps := ["form"]) fun _ _ _ _ _ _ us hl => match us, hl with | [_], _ => rfl
  have m17 := PySem.W.mg_of X G a17
  have F18 := fun_mk (st := s_behind_swap) l18 c18 k18
  have b18 := F18.binds (ps := ["turning"]) fun _ _ _ _ _ _ us hl => match us, hl with | [_], _ => rfl
  have m18 := PySem.W.mg_of X G a18
  have F19 := fun_mk (st := s_step_to_middle) l19 c19 k19
  have b19 := F19.binds (ps := ["form"]) fun _ _ _ _ _ _ us hl => match us, hl with | [_], _ => rfl
  have m19 := PySem.W.mg_of X G a19
  have F20 := fun_mk (st := s_least_of) l20 c20 k20
  have b20 := F20.binds (ps := ["form"]) fun _ _ _ _ _ _ us hl => match us, hl with | [_], _ => rfl
  have m20 := PySem.W.mg_of X G a20
  have F21 := fun_mk (st := s_require_telling_prime) l21 c21 k21
  have b21 := F21.binds (ps := ["bar", "prime"]) fun _ _ _ _ _ _ us hl => match us, hl with | [_, _], _ => rfl
  have m21 := PySem.W.mg_of X G a21
  have F22 := fun_mk (st := s_prime_told) l22 c22 k22
  have b22 := F22.binds (ps := ["bar", "prime"]) fun _ _ _ _ _ _ us hl => match us, hl with | [_, _], _ => rfl
  have m22 := PySem.W.mg_of X G a22
  have F23 := fun_mk (st := s_law_ints) l23 c23 k23
  have b23 := F23.binds (ps := ["_law_found", "_law_size"]) fun _ _ _ _ _ _ us hl => match us, hl with | [_, _], _ => rfl
  have m23 := PySem.W.mg_of X G a23
  have F24 := fun_mk (st := s_law_cell_at) l24 c24 k24
  have b24 := F24.binds (ps := ["_law_script", "_law_k"]) fun _ _ _ _ _ _ us hl => match us, hl with | [_, _], _ => rfl
  have m24 := PySem.W.mg_of X G a24
  have F25 := fun_mk (st := s_law_worth) l25 c25 k25
  have b25 := F25.binds (ps := ["_law_form", "_law_place"]) fun _ _ _ _ _ _ us hl => match us, hl with | [_, _], _ => rfl
  have m25 := PySem.W.mg_of X G a25
  have F26 := fun_mk (st := s_law_good) l26 c26 k26
  have b26 := F26.binds (ps := ["_law_form"]) fun _ _ _ _ _ _ us hl => match us, hl with | [_], _ => rfl
  have m26 := PySem.W.mg_of X G a26
  have F27 := fun_mk (st := s_law_prime_from) l27 c27 k27
  have b27 := F27.binds (ps := ["_law_number", "_law_bar"]) fun _ _ _ _ _ _ us hl => match us, hl with | [_, _], _ => rfl
  have m27 := PySem.W.mg_of X G a27
  have F28 := fun_mk (st := s_law_side) l28 c28 k28
  have b28 := F28.binds (ps := ["_law_number", "_law_prime"]) fun _ _ _ _ _ _ us hl => match us, hl with | [_, _], _ => rfl
  have m28 := PySem.W.mg_of X G a28
  have F29 := fun_mk (st := s_law) l29 c29 k29
  have b29 := F29.binds (ps := ["_law_script"]) fun _ _ _ _ _ _ us hl => match us, hl with | [_], _ => rfl
  have m29 := PySem.W.mg_of X G a29
  refine ⟨PySem.W.fnOf "law" "law" (defArgs s_law) (defBody s_law) (defScope s_law) .none kV29 dc29 pm29 an29 cd29 ct29, fun s v => .of_eq rfl, fun base _ _ => ?_⟩
  have C_NO_TURN : Con K mg "NO_TURN" (.tup [.int (1 : Int), .int (0 : Int), .int (0 : Int), .int (1 : Int)]) := con_tup (ns := [(1 : Int), (0 : Int), (0 : Int), (1 : Int)]) (PySem.W.mg_of X G caNO_TURN) clNO_TURN (.cons (.cons (.cons (.cons .nil)))) (Nat.le_of_ble_eq_true rfl)
  have C_LOWEST_MARKED_BAR : Con K mg "LOWEST_MARKED_BAR" (.int (-1000000 : Int)) := con_int (PySem.W.mg_of X G caLOWEST_MARKED_BAR)
  have C_GREATEST : Con K mg "GREATEST" (.int (10000 : Int)) := con_int (PySem.W.mg_of X G caGREATEST)
  have G_is_whole := ok_is_whole (P := l.prog) (w := w) (base := base) T F0 m0 b0
  have G_is_whole_tuple := ok_is_whole_tuple (P := l.prog) (w := w) (base := base) T G_is_whole F1 m1 b1
  have G_is_bar := ok_is_bar (P := l.prog) (w := w) (base := base) G_is_whole F2 m2 b2
  have G_require_bar := ok_require_bar (P := l.prog) (w := w) (base := base) G_is_bar F3 m3 b3
  have G_require_bar_from := ok_require_bar_from (P := l.prog) (w := w) (base := base) G_require_bar F4 m4 b4
  have G_require_whole := ok_require_whole (P := l.prog) (w := w) (base := base) G_is_whole F5 m5 b5
  have G_require_number := ok_require_number (P := l.prog) (w := w) (base := base) G_require_whole F6 m6 b6
  have G_prime_factors := ok_prime_factors (P := l.prog) (w := w) (base := base)  F7 m7 b7
  have G_bar_of_numbers := ok_bar_of_numbers (P := l.prog) (w := w) (base := base)  F8 m8 b8
  have G_is_form := ok_is_form (P := l.prog) (w := w) (base := base) G_is_whole_tuple G_bar_of_numbers F9 m9 b9
  have G_require_form := ok_require_form (P := l.prog) (w := w) (base := base) G_is_form F10 m10 b10
  have G_is_turning := ok_is_turning (P := l.prog) (w := w) (base := base) G_is_whole_tuple F11 m11 b11
  have G_require_turning := ok_require_turning (P := l.prog) (w := w) (base := base) G_is_turning F12 m12 b12
  have G_sent := ok_sent (P := l.prog) (w := w) (base := base)  F13 m13 b13
  have G_way_back := ok_way_back (P := l.prog) (w := w) (base := base) G_require_turning F14 m14 b14
  have G_stepped := ok_stepped (P := l.prog) (w := w) (base := base)  F15 m15 b15
  have G_behind_step := ok_behind_step (P := l.prog) (w := w) (base := base)  F16 m16 b16
  have G_swapped := ok_swapped (P := l.prog) (w := w) (base := base)  F17 m17 b17
  have G_behind_swap := ok_behind_swap (P := l.prog) (w := w) (base := base)  F18 m18 b18
  have G_step_to_middle := ok_step_to_middle (P := l.prog) (w := w) (base := base)  F19 m19 b19
  have G_least_of := ok_least_of (P := l.prog) (w := w) (base := base) G_require_form G_step_to_middle G_stepped G_behind_step G_swapped G_behind_swap C_NO_TURN F20 m20 b20
  have G_require_telling_prime := ok_require_telling_prime (P := l.prog) (w := w) (base := base) G_require_number G_prime_factors C_GREATEST F21 m21 b21
  have G_prime_told := ok_prime_told (P := l.prog) (w := w) (base := base) T G_require_bar_from G_require_telling_prime G_least_of G_way_back G_sent C_LOWEST_MARKED_BAR F22 m22 b22
  have G_law_ints := ok_law_ints (P := l.prog) (w := w) (base := base) T F23 m23 b23
  have G_law_cell_at := ok_law_cell_at (P := l.prog) (w := w) (base := base) T F24 m24 b24
  have G_law_worth := ok_law_worth (P := l.prog) (w := w) (base := base)  F25 m25 b25
  have G_law_good := ok_law_good (P := l.prog) (w := w) (base := base) G_law_ints F26 m26 b26
  have G_law_prime_from := ok_law_prime_from (P := l.prog) (w := w) (base := base)  F27 m27 b27
  have G_law_side := ok_law_side (P := l.prog) (w := w) (base := base)  F28 m28 b28
  exact ok_law T G_law_cell_at G_law_prime_from G_law_side G_law_good G_law_ints G_law_worth G_prime_told F29
end K18
open PySem PySem.W PyProof.Rows
set_option maxRecDepth 100000 in
set_option maxHeartbeats 0 in
theorem PySem.Challenge.cw_formturn_k18_primes_told_holds : PySem.Challenge.rw_formturn_k18_primes_told.Holds := by
  w_on; o_law; k_head; (case hw => w_witness2)
  k_fill
  refine FL.walk_ofB (l := PySem.Challenge.rw_formturn_k18_primes_told) (n := 63) (k := 7) (x := "_law_script") (Pf := CM.p_law) rfl (by decide) rfl ⟨rfl, by decide, by decide⟩ (fun w h Y => PySem.W.kIn_of Y) ?F ?S
  case F =>
    intro w mg fa h KX G hmg
    refine' K18.all_mk KX G hmg ?a0 ?l0 ?c0 ?k0 ?a1 ?l1 ?c1 ?k1 ?a2 ?l2 ?c2 ?k2 ?a3 ?l3 ?c3 ?k3 ?a4 ?l4 ?c4 ?k4 ?a5 ?l5 ?c5 ?k5 ?a6 ?l6 ?c6 ?k6 ?a7 ?l7 ?c7 ?k7 ?a8 ?l8 ?c8 ?k8 ?a9 ?l9 ?c9 ?k9 ?a10 ?l10 ?c10 ?k10 ?a11 ?l11 ?c11 ?k11 ?a12 ?l12 ?c12 ?k12 ?a13 ?l13 ?c13 ?k13 ?a14 ?l14 ?c14 ?k14 ?a15 ?l15 ?c15 ?k15 ?a16 ?l16 ?c16 ?k16 ?a17 ?l17 ?c17 ?k17 ?a18 ?l18 ?c18 ?k18 ?a19 ?l19 ?c19 ?k19 ?a20 ?l20 ?c20 ?k20 ?a21 ?l21 ?c21 ?k21 ?a22 ?l22 ?c22 ?k22 ?a23 ?l23 ?c23 ?k23 ?a24 ?l24 ?c24 ?k24 ?a25 ?l25 ?c25 ?k25 ?a26 ?l26 ?c26 ?k26 ?a27 ?l27 ?c27 ?k27 ?a28 ?l28 ?c28 ?k28 ?a29 ?l29 ?c29 ?k29 ?caNO_TURN ?clNO_TURN ?caLOWEST_MARKED_BAR ?caGREATEST ?z0 ?z1 ?z2 ?z3 ?z4 ?z5 ?z6 ?z7 ?z8 ?z9 ?z10 ?z11 ?z12 ?z13 ?z14 ?z15 ?z16 ?z17 ?z18
    (case a0 => k_is)
    (case l0 => k_is)
    (case c0 => k_is)
    (case k0 => k_is)
    (case a1 => k_is)
    (case l1 => k_is)
    (case c1 => k_is)
    (case k1 => k_is)
    (case a2 => k_is)
    (case l2 => k_is)
    (case c2 => k_is)
    (case k2 => k_is)
    (case a3 => k_is)
    (case l3 => k_is)
    (case c3 => k_is)
    (case k3 => k_is)
    (case a4 => k_is)
    (case l4 => k_is)
    (case c4 => k_is)
    (case k4 => k_is)
    (case a5 => k_is)
    (case l5 => k_is)
    (case c5 => k_is)
    (case k5 => k_is)
    (case a6 => k_is)
    (case l6 => k_is)
    (case c6 => k_is)
    (case k6 => k_is)
    (case a7 => k_is)
    (case l7 => k_is)
    (case c7 => k_is)
    (case k7 => k_is)
    (case a8 => k_is)
    (case l8 => k_is)
    (case c8 => k_is)
    (case k8 => k_is)
    (case a9 => k_is)
    (case l9 => k_is)
    (case c9 => k_is)
    (case k9 => k_is)
    (case a10 => k_is)
    (case l10 => k_is)
    (case c10 => k_is)
    (case k10 => k_is)
    (case a11 => k_is)
    (case l11 => k_is)
    (case c11 => k_is)
    (case k11 => k_is)
    (case a12 => k_is)
    (case l12 => k_is)
    (case c12 => k_is)
    (case k12 => k_is)
    (case a13 => k_is)
    (case l13 => k_is)
    (case c13 => k_is)
    (case k13 => k_is)
    (case a14 => k_is)
    (case l14 => k_is)
    (case c14 => k_is)
    (case k14 => k_is)
    (case a15 => k_is)
    (case l15 => k_is)
    (case c15 => k_is)
    (case k15 => k_is)
    (case a16 => k_is)
    (case l16 => k_is)
    (case c16 => k_is)
    (case k16 => k_is)
    (case a17 => k_is)
    (case l17 => k_is)
    (case c17 => k_is)
    (case k17 => k_is)
    (case a18 => k_is)
    (case l18 => k_is)
    (case c18 => k_is)
    (case k18 => k_is)
    (case a19 => k_is)
    (case l19 => k_is)
    (case c19 => k_is)
    (case k19 => k_is)
    (case a20 => k_is)
    (case l20 => k_is)
    (case c20 => k_is)
    (case k20 => k_is)
    (case a21 => k_is)
    (case l21 => k_is)
    (case c21 => k_is)
    (case k21 => k_is)
    (case a22 => k_is)
    (case l22 => k_is)
    (case c22 => k_is)
    (case k22 => k_is)
    (case a23 => k_is)
    (case l23 => k_is)
    (case c23 => k_is)
    (case k23 => k_is)
    (case a24 => k_is)
    (case l24 => k_is)
    (case c24 => k_is)
    (case k24 => k_is)
    (case a25 => k_is)
    (case l25 => k_is)
    (case c25 => k_is)
    (case k25 => k_is)
    (case a26 => k_is)
    (case l26 => k_is)
    (case c26 => k_is)
    (case k26 => k_is)
    (case a27 => k_is)
    (case l27 => k_is)
    (case c27 => k_is)
    (case k27 => k_is)
    (case a28 => k_is)
    (case l28 => k_is)
    (case c28 => k_is)
    (case k28 => k_is)
    (case a29 => k_is)
    (case l29 => k_is)
    (case c29 => k_is)
    (case k29 => k_is)
    (case caNO_TURN => k_is)
    (case clNO_TURN => k_is)
    (case caLOWEST_MARKED_BAR => k_is)
    (case caGREATEST => k_is)
    (case z0 => k_is)
    (case z1 => k_is)
    (case z2 => k_is)
    (case z3 => k_is)
    (case z4 => k_is)
    (case z5 => k_is)
    (case z6 => k_is)
    (case z7 => k_is)
    (case z8 => k_is)
    (case z9 => k_is)
    (case z10 => k_is)
    (case z11 => k_is)
    (case z12 => k_is)
    (case z13 => k_is)
    (case z14 => k_is)
    (case z15 => k_is)
    (case z16 => k_is)
    (case z17 => k_is)
    (case z18 => k_is)
  case S => exact CM.law_sp
#print axioms PySem.Challenge.cw_formturn_k18_primes_told_holds
