import PyProof.Rows.All
import Wide.All
import OpenK.AllK
import Wide.FinOn
import Lean
import PyProof.EqAt
import PyProof.EqKinds
import PyProof.TupleCall
import PySem.Challenge.RW_formturn_k19_whole_ways
set_option Elab.async false
set_option linter.all false
set_option maxRecDepth 100000
def PySem.W.Fast.tw13353652498805800622 : Unit := ()
def PySem.W.Fast.tw9192174987821959628 : Unit := ()
def PySem.W.Fast.tw9189874449815036064 : Unit := ()
def PySem.W.Fast.tw3358730794004474632 : Unit := ()
def PySem.W.Fast.tw13262439151680460863 : Unit := ()
def PySem.W.Fast.tw11140944466210109495 : Unit := ()
def PySem.W.Fast.tw15414779247249516617 : Unit := ()
def PySem.W.Fast.tw5152347406235989185 : Unit := ()
def PySem.W.Fast.tw14885615808316191845 : Unit := ()
def PySem.W.Fast.tw16069220834110668193 : Unit := ()
def PySem.W.Fast.tw14054060980852146765 : Unit := ()
def PySem.W.Fast.tw9757393045770547114 : Unit := ()
def PySem.W.Fast.tw1388981956604934046 : Unit := ()
def PySem.W.Fast.tw15573687989497680794 : Unit := ()
def PySem.W.Fast.tw11444178837951224199 : Unit := ()
def PySem.W.Fast.tw12528730335628221646 : Unit := ()
def PySem.W.Fast.tw6051653032281310252 : Unit := ()
def PySem.W.Fast.tw436683359591908968 : Unit := ()
def PySem.W.Fast.tw10793705916535449106 : Unit := ()
def PySem.W.Fast.tw883584888697089338 : Unit := ()
def PySem.W.Fast.tw18199623204265461155 : Unit := ()
def PySem.W.Fast.tw4972231908962410939 : Unit := ()
def PySem.W.Fast.tw3707555299887482763 : Unit := ()
def PySem.W.Fast.tw3101500501954084284 : Unit := ()
def PySem.W.Fast.tw17749142089209347271 : Unit := ()
def PySem.W.Fast.tw9678588528946081819 : Unit := ()
def PySem.W.Fast.tw15664647915823758664 : Unit := ()
def PySem.W.Fast.tw2762361183505965195 : Unit := ()
def PySem.W.Fast.tw3876122279372761315 : Unit := ()
/-! THE HAND LAYER, for ints, bools, texts, own classes, LISTS and tuples (index, slices, in, append, pop ..), calls, loops. Paste it whole ahead of your own text; what your proof does not reach may be deleted. -/
namespace L2
open PySem PySem.Spec PyProof.Rows

/-- a key: an int or a str -/
abbrev Key := Sum Int Str
def keyIs : Key → Value → Bool
  | .inl k, v => Value.isInt k v
  | .inr x, v => Value.isStrOf x v
def keyH (w : World) : Key → Int
  | .inl k => hashInt k
  | .inr x => hashStr w x
theorem keyIs_shape : ∀ {k : Key} {v : Value}, keyIs k v = true → (∃ i t, k = Sum.inl i ∧ v = Value.int i t) ∨ (∃ x t, k = Sum.inr x ∧ v = Value.str x t)
  | .inl i, v, h => by
    obtain ⟨t, e⟩ := Value.isInt_shape (k := i) (v := v) h
    exact .inl ⟨i, t, rfl, e⟩
  | .inr x, v, h => by
    obtain ⟨t, e⟩ := Value.isStrOf_shape (x := x) (v := v) h
    exact .inr ⟨x, t, rfl, e⟩
theorem key_ll (a b : Int) : decide ((Sum.inl a : Key) = Sum.inl b) = (a == b) := by
  by_cases e : a = b
  · subst e; simp
  · have h : ¬ (Sum.inl a : Key) = Sum.inl b := fun q => e (Sum.inl.inj q)
    rw [decide_eq_false h]
    exact (beq_eq_false_iff_ne.mpr e).symm
theorem key_rr (a b : Str) : decide ((Sum.inr a : Key) = Sum.inr b) = decide (a = b) := by
  by_cases e : a = b
  · subst e; simp
  · have h : ¬ (Sum.inr a : Key) = Sum.inr b := fun q => e (Sum.inr.inj q)
    rw [decide_eq_false h, decide_eq_false e]
theorem key_lr (a : Int) (b : Str) : decide ((Sum.inl a : Key) = Sum.inr b) = false := decide_eq_false (fun q => nomatch q)
theorem key_rl (a : Str) (b : Int) : decide ((Sum.inr a : Key) = Sum.inl b) = false := decide_eq_false (fun q => nomatch q)

def mixKind (prog : Program) (w : World) : PySem.KeyKind prog w Key where
  is := keyIs
  hash := keyH w
  inj := fun v a b ha hb => by
    rcases keyIs_shape ha with ⟨i, t, rfl, rfl⟩ | ⟨x, t, rfl, rfl⟩
    · rcases keyIs_shape hb with ⟨j, u, rfl, e⟩ | ⟨y, u, rfl, e⟩
      · injection e with e1 _; rw [e1]
      · exact nomatch e
    · rcases keyIs_shape hb with ⟨j, u, rfl, e⟩ | ⟨y, u, rfl, e⟩
      · exact nomatch e
      · injection e with e1 _; rw [e1]
  byValue := fun k v h => by
    rcases keyIs_shape h with ⟨i, t, rfl, rfl⟩ | ⟨x, t, rfl, rfl⟩ <;> rfl
  pyHash := fun hv h => by
    rcases keyIs_shape hv with ⟨i, t, rfl, rfl⟩ | ⟨x, t, rfl, rfl⟩
    · exact wpAny_pyHash_int h
    · exact wpAny_pyHash_str h
  eqBool := fun hu hv h => by
    rcases keyIs_shape hu with ⟨i, t, rfl, rfl⟩ | ⟨x, t, rfl, rfl⟩
    · rcases keyIs_shape hv with ⟨j, u, rfl, rfl⟩ | ⟨y, u, rfl, rfl⟩
      · rw [key_ll] at h; exact wpAny_eqBool_int h
      · rw [key_lr] at h; exact SeqAt.EqAt.int_str i t y u _ _ _ _ h
    · rcases keyIs_shape hv with ⟨j, u, rfl, rfl⟩ | ⟨y, u, rfl, rfl⟩
      · rw [key_rl] at h; exact SeqAt.EqAt.str_int x t j u _ _ _ _ h
      · rw [key_rr] at h; exact wpAny_eqBool_str h
  «strs» := fun k x t v h => by
    rcases keyIs_shape h with ⟨i, u, rfl, e⟩ | ⟨y, u, rfl, e⟩
    · exact nomatch e
    · injection e with e1 _
      subst e1
      cases v <;> rfl

end L2

namespace L2
open PySem PySem.Spec PyProof.Rows

/-- a value, without the heap -/
inductive V where
  | non | bl (b : Bool) | int (i : Int) | str (x : Str) | byt (b : Array UInt8) | flt (b : UInt64) | ref (a : Addr) | ty (n : String)
  deriving DecidableEq

def RelV : V → Value → Prop
  | .non, u => u = Value.none
  | .bl b, u => u = Value.bool b
  | .int i, u => ∃ t, u = Value.int i t
  | .str x, u => ∃ t, u = Value.str x t
  | .byt b, u => ∃ t, u = Value.bytes b t
  | .flt b, u => ∃ t, u = Value.float b t
  | .ref a, u => u = Value.ref a
  | .ty n, u => u = Value.type n

abbrev Vals : List V → List Value → Prop := Paired RelV
theorem Vals.length {xs : List V} {us : List Value} (r : Vals xs us) : xs.length = us.length := Paired.length r
theorem Vals.get : ∀ {xs : List V} {us : List Value} {i : Nat} {x : V}, Vals xs us → xs[i]? = some x → ∃ u, us[i]? = some u ∧ RelV x u
  | _, _, _, _, .nil, e => by simp at e
  | _, _, 0, _, .cons r _, e => by simp at e; subst e; exact ⟨_, rfl, r⟩
  | _, _, i + 1, x, .cons _ t, e => by
    obtain ⟨u, h1, h2⟩ := Vals.get (i := i) (x := x) t (by simpa using e)
    exact ⟨u, by simpa using h1, h2⟩
theorem Vals.append : ∀ {xs ys : List V} {us ws : List Value}, Vals xs us → Vals ys ws → Vals (xs ++ ys) (us ++ ws)
  | _, _, _, _, .nil, s => s
  | _, _, _, _, .cons r t, s => .cons r (Vals.append t s)
theorem Vals.take : ∀ {xs : List V} {us : List Value} (n : Nat), Vals xs us → Vals (xs.take n) (us.take n)
  | _, _, 0, _ => .nil
  | _, _, _ + 1, .nil => .nil
  | _, _, n + 1, .cons r t => .cons r (Vals.take n t)
theorem Vals.drop : ∀ {xs : List V} {us : List Value} (n : Nat), Vals xs us → Vals (xs.drop n) (us.drop n)
  | _, _, 0, r => r
  | _, _, _ + 1, .nil => .nil
  | _, _, n + 1, .cons _ t => Vals.drop n t
def RelO : Option V → Option Value → Prop
  | some v, some u => RelV v u
  | none, none => True
  | _, _ => False
def KV {κ : Type} : List (κ × V) → List (κ × Value) → Prop := Paired fun (p : κ × V) (q : κ × Value) => p.1 = q.1 ∧ RelV p.2 q.2

/-- a key of a dict (00_mix): an int or a text -/
def kV : Key → V
  | .inl i => .int i
  | .inr x => .str x

/-- what stands at a tracked address -/
inductive HO where
  /-- a list -/
  | lst (xs : List V)
  /-- a tuple (never changes) -/
  | tup (xs : List V)
  /-- a dict whose keys are ints and texts; one whose keys are tuples of ints and texts (the empty one is both) -/
  | dK (kvs : List (Key × V)) | dT (kvs : List (List Key × V))
  /-- a set of ints: its members, its size -/
  | set (S : Int → Bool) (n : Nat)
  /-- an instance of the class at C, its dict at dx, its attributes -/
  | ins (C dx : Addr) (fs : List (Str × V))
  /-- the dict of the instance at x -/
  | own (x : Addr)
  /-- the dict of an exception -/
  | xd (fs : List (Str × V))
  /-- a bound method, f of x -/
  | met (f x : Addr)
  /-- a range object lo, lo + 1, .. below hi -/
  | rng (lo hi : Int)
  /-- a thing that is known to the object (the script; a dict while a loop walks it): read, never written while it is so -/
  | frz (o : Obj) (u : HO)
  /-- a code object's table -/
  | tbl (ps : Array Value)
  /-- any other thing, by what is true of its one object (a def of one's own: SetO a S n := HO.ext fun h => ..) -/
  | ext (φ : Heap → Prop)

abbrev Hp := Addr → Option HO
def upd (H : Hp) (a : Addr) (o : HO) : Hp := fun b => if b = a then some o else H b
theorem upd_same {H : Hp} {a : Addr} {o : HO} : upd H a o a = some o := by unfold upd; rw [if_pos rfl]
theorem upd_ne {H : Hp} {a b : Addr} {o : HO} (h : b ≠ a) : upd H a o b = H b := by unfold upd; rw [if_neg h]
/-- two objects of different content stand apart -/
theorem ne_of {H : Hp} {a b : Addr} {o u : HO} (h : H a = some o) (h' : H b = some u) (d : o ≠ u) : a ≠ b := by
  intro e; subst e; rw [h] at h'; exact d (Option.some.inj h')
theorem ne_of_none {H : Hp} {a b : Addr} {o : HO} (h : H a = some o) (h' : H b = none) : a ≠ b := by
  intro e; subst e; rw [h] at h'; cases h'

section
variable (P : Program) (w : World)
def ObjOk (H : Hp) (h : Heap) (a : Addr) : HO → Prop
  | .lst xs => xs.length ≤ sizeLine ∧ ∃ (its : List Value) (n : Nat), Vals xs its ∧ h.get? a = some { cls := .type "list", data := .seq its.toArray n }
  | .tup xs => xs.length ≤ sizeLine ∧ ∃ its : List Value, Vals xs its ∧ IsTup h a its.toArray
  | .dK kvs => kvs.length ≤ sizeLine ∧ (a == sysModules) = false ∧ ∃ vs, KV kvs vs ∧ h.DictOf (mixKind P w) a vs
  | .dT kvs => kvs.length ≤ sizeLine ∧ (a == sysModules) = false ∧ ∃ xs : List (List Key × Addr × Value),
      Paired (fun (p : List Key × V) (q : List Key × Addr × Value) => p.1 = q.1 ∧ H q.2.1 = some (.tup (p.1.map kV)) ∧ RelV p.2 q.2.2) kvs xs ∧
      ∃ o es ep, h.get? a = some o ∧ o.ExactDict ∧ o.data = .dict es ep ∧ es.toList = xs.map (entryOfKey (tupleKind (mixKind P w))) ∧ (xs.map (·.1)).Nodup
  | .set S n => h.SetOf (intKind P w) a S n
  | .ins C dx fs => H dx = some (.own a) ∧ fs.length ≤ 1000 ∧ dx ≠ a ∧ h.get? a = some (PySem.W.instObj C dx) ∧
      ∃ mA, h.Ns1 dx mA ∧ (∀ f, RelO (fs.lookup f) (mA f)) ∧ PySem.Within mA (fs.map (·.1))
  | .own _ => ∃ o, h.get? a = some o
  | .xd fs => ∃ mA, h.Ns1 a mA ∧ ∀ f, RelO (fs.lookup f) (mA f)
  | .rng lo hi => ∃ t u v, h.get? a = some { cls := .type "range", data := .fields #[.int lo t, .int hi u, .int 1 v] }
  | .frz o u => h.get? a = some o ∧ ObjOk H h a u
  | .tbl ps => h.get? a = some { cls := .none, data := .fields ps }
  | .met f x => h.get? a = some (PySem.W.methodObj (.ref f) (.ref x))
  | .ext φ => φ h ∧ (∃ o, h.get? a = some o) ∧ ∀ h1 h2 : Heap, φ h1 → (∀ o, h1.get? a = some o → h2.get? a = some o) → φ h2
/-- the abstract heap is held -/
def HOk (H : Hp) (h : Heap) : Prop := ∀ a o, H a = some o → ObjOk P w H h a o
end

section
variable {P : Program} {w : World} {H H' : Hp} {h h' : Heap} {a : Addr} {o : HO}
theorem ObjOk.lt (x : ObjOk P w H h a o) : a < h.objs.size := by
  cases o with
  | lst xs => obtain ⟨_, _, _, _, e⟩ := x; exact Heap.lt_size e
  | tup xs => obtain ⟨_, _, _, p⟩ := x; exact p.lt
  | dK kvs => obtain ⟨_, _, _, _, o, _, _, e, _⟩ := x; exact Heap.lt_size e
  | dT kvs => obtain ⟨_, _, _, _, o, _, _, e, _⟩ := x; exact Heap.lt_size e
  | set S n => obtain ⟨o, _, _, _, e, _⟩ := x; exact Heap.lt_size e
  | ins C dx fs => obtain ⟨_, _, _, e, _⟩ := x; exact Heap.lt_size e
  | own y => obtain ⟨_, e⟩ := x; exact Heap.lt_size e
  | xd fs => obtain ⟨_, ⟨_, _, _, e, _⟩, _⟩ := x; exact Heap.lt_size e
  | rng lo hi => obtain ⟨_, _, _, e⟩ := x; exact Heap.lt_size e
  | frz ob u => obtain ⟨e, _⟩ := x; exact Heap.lt_size e
  | tbl ps => exact Heap.lt_size (show h.get? a = some _ from x)
  | met f y => exact Heap.lt_size (show h.get? a = some _ from x)
  | ext φ => obtain ⟨_, ⟨_, e⟩, _⟩ := x; exact Heap.lt_size e
theorem Paired.mapP {α β : Type} {F G : α → β → Prop} : ∀ {l₁ : List α} {l₂ : List β}, Paired F l₁ l₂ → (∀ a b, F a b → G a b) → Paired G l₁ l₂
  | _, _, .nil, _ => .nil
  | _, _, .cons r t, f => .cons (f _ _ r) (Paired.mapP t f)
/-- what an object's description leans on: its own object, its own dict, the tuples -/
theorem ObjOk.stay (x : ObjOk P w H h a o) (k : ∀ b u, (b = a ∨ H b = some (.own a)) → h.get? b = some u → h'.get? b = some u)
    (ho : ∀ b, H b = some (.own a) → H' b = some (.own a)) (ht : ∀ b xs, H b = some (.tup xs) → H' b = some (.tup xs)) : ObjOk P w H' h' a o := by
  induction o with
  | lst xs => obtain ⟨z, its, n, r, e⟩ := x; exact ⟨z, its, n, r, k _ _ (.inl rfl) e⟩
  | tup xs => obtain ⟨z, its, r, ob, e, c⟩ := x; exact ⟨z, its, r, ob, k _ _ (.inl rfl) e, c⟩
  | dK kvs => obtain ⟨z, y, vs, r, ob, es, ep, e, c⟩ := x; exact ⟨z, y, vs, r, ob, es, ep, k _ _ (.inl rfl) e, c⟩
  | dT kvs =>
    obtain ⟨z, y, xs, r, ob, es, ep, e, c⟩ := x
    exact ⟨z, y, xs, Paired.mapP r fun p q z => ⟨z.1, ht _ _ z.2.1, z.2.2⟩, ob, es, ep, k _ _ (.inl rfl) e, c⟩
  | set S n => obtain ⟨ob, es, ep, t, e, c⟩ := x; exact ⟨ob, es, ep, t, k _ _ (.inl rfl) e, c⟩
  | ins C dx fs =>
    obtain ⟨d, z, ne, e, mA, ⟨od, es, ep, e2, c⟩, r⟩ := x
    exact ⟨ho _ d, z, ne, k _ _ (.inl rfl) e, mA, ⟨od, es, ep, k _ _ (.inr d) e2, c⟩, r⟩
  | own y => obtain ⟨ob, e⟩ := x; exact ⟨ob, k _ _ (.inl rfl) e⟩
  | xd fs => obtain ⟨mA, ⟨od, es, ep, e, c⟩, r⟩ := x; exact ⟨mA, ⟨od, es, ep, k _ _ (.inl rfl) e, c⟩, r⟩
  | rng lo hi => obtain ⟨t, u, v, e⟩ := x; exact ⟨t, u, v, k _ _ (.inl rfl) e⟩
  | frz ob u ih => obtain ⟨e, q⟩ := x; exact ⟨k _ _ (.inl rfl) e, ih q⟩
  | tbl ps =>
    have e : h.get? a = some { cls := .none, data := .fields ps } := x
    show h'.get? a = some { cls := .none, data := .fields ps }
    exact k a _ (.inl rfl) e
  | met f y =>
    have e : h.get? a = some (PySem.W.methodObj (.ref f) (.ref y)) := x
    show h'.get? a = some (PySem.W.methodObj (.ref f) (.ref y))
    exact k a _ (.inl rfl) e
  | ext φ => obtain ⟨p, ⟨o, e⟩, st⟩ := x; exact ⟨st _ _ p fun o q => k _ _ (.inl rfl) q, ⟨o, k _ _ (.inl rfl) e⟩, st⟩
theorem HOk.lt (x : HOk P w H h) (e : H a = some o) : a < h.objs.size := (x a o e).lt
theorem HOk.fresh (x : HOk P w H h) (e : h.objs.size ≤ a) : H a = none := by
  cases q : H a with
  | none => rfl
  | some u => exact absurd (Nat.lt_of_lt_of_le (x.lt q) e) (Nat.lt_irrefl _)
/-- every object of the heap is kept -/
theorem HOk.kept (x : HOk P w H h) (k : ∀ b u, h.get? b = some u → h'.get? b = some u) : HOk P w H h' := fun a o e =>
  (x a o e).stay (fun b u _ q => k b u q) (fun _ q => q) fun _ _ q => q
/-- a new object is laid and tracked -/
theorem HOk.laid (x : HOk P w H h) (k : ∀ b u, h.get? b = some u → h'.get? b = some u) (hp : h.objs.size ≤ a) (new : ObjOk P w (upd H a o) h' a o) : HOk P w (upd H a o) h' := fun b u e => by
  have hn := x.fresh hp
  by_cases hb : b = a
  · subst hb; rw [upd_same] at e; cases e; exact new
  · rw [upd_ne hb] at e
    exact (x b u e).stay (fun c v _ q => k c v q) (fun c q => by rw [upd_ne (ne_of_none q hn)]; exact q) fun c xs q => by rw [upd_ne (ne_of_none q hn)]; exact q
end

/-- what may be read as u: it is u, or a known u -/
def Rd (H : Hp) (a : Addr) (u : HO) : Prop := H a = some u ∨ ∃ o, H a = some (.frz o u)
theorem Rd.ok {P : Program} {w : World} {H : Hp} {h : Heap} {a : Addr} {u : HO} (r : Rd H a u) (x : HOk P w H h) : ObjOk P w H h a u := by
  rcases r with r | ⟨o, r⟩
  · exact x a u r
  · obtain ⟨_, q⟩ := x a _ r
    exact q
/-- what may be written -/
def Mut : Option HO → Prop
  | some (.lst _) => True
  | some (.dK _) => True
  | some (.dT _) => True
  | some (.set _ _) => True
  | some (.ins _ _ _) => True
  | some (.ext _) => True
  | _ => False
section
variable {P : Program} {w : World} {H : Hp} {h h' : Heap} {x e : Addr} {o' : HO}
/-- the object at e is changed: x itself, or the dict of the instance x -/
theorem HOk.write (ok : HOk P w H h) (mu : Mut (H x)) (he : e = x ∨ H e = some (.own x)) (k : ∀ b u, b ≠ e → h.get? b = some u → h'.get? b = some u) (heo : ∃ u, h'.get? e = some u)
    (new : ObjOk P w (upd H x o') h' x o') : HOk P w (upd H x o') h' := fun b u q => by
  have nown : ∀ c y, H c = some (.own y) → c ≠ x := fun c y r z => by subst z; rw [r] at mu; exact mu
  have ntup : ∀ c xs, H c = some (.tup xs) → c ≠ x := fun c xs r z => by subst z; rw [r] at mu; exact mu
  by_cases hb : b = x
  · subst hb; rw [upd_same] at q; cases q; exact new
  · rw [upd_ne hb] at q
    by_cases hbe : b = e
    · have q' : H b = some (.own x) := by
        rcases he with z | z
        · exact absurd (hbe.trans z) hb
        · rw [hbe]; exact z
      rw [q] at q'; cases q'
      obtain ⟨v, hv⟩ := heo
      exact ⟨v, by rw [hbe]; exact hv⟩
    · refine (ok b u q).stay (fun c v hc r => k c v ?_ r) (fun c r => by rw [upd_ne (nown c b r)]; exact r) fun c xs r => by rw [upd_ne (ntup c xs r)]; exact r
      rcases hc with rfl | hc
      · exact hbe
      · rintro rfl
        rcases he with z | z
        · exact nown c b hc z
        · rw [hc] at z; cases z; exact hb rfl
end

/-! ### kept unless tracked; of the frames at fs (the callers') the slots may change (an exception that passes writes there); of the records at ex (iterators) nothing is said -/
structure Un (fs ex : List Addr) (H H' : Hp) (h h' : Heap) : Prop where
  keep : ∀ b o, h.get? b = some o → H b = none → b ∉ fs → b ∉ ex → h'.get? b = some o
  slot : ∀ b o, h.get? b = some o → H b = none → b ∈ fs → b ∉ ex → ∃ sl, h'.get? b = some { o with slots := sl }
  free : ∀ b o, h.get? b = some o → H b = none → b ∉ ex → H' b = none
  there : ∀ b o, h.get? b = some o → b ∉ ex → ∃ o', h'.get? b = some o'
  tups : ∀ b xs, H b = some (.tup xs) → H' b = some (.tup xs)
  frzs : ∀ b o u, H b = some (.frz o u) → H' b = some (.frz o u)
  tbls : ∀ b ps, H b = some (.tbl ps) → ∃ more, H' b = some (.tbl (ps ++ more))
section
variable {fs fs' ex ex' : List Addr} {H H1 H2 : Hp} {h h1 h2 h' : Heap} {a x e : Addr} {o : HO}
theorem Un.any (u : Un fs ex H H1 h h1) {b : Addr} {ob : Obj} (q : h.get? b = some ob) (n : H b = none) (hx : b ∉ ex) : ∃ sl, h1.get? b = some { ob with slots := sl } := by
  by_cases hb : b ∈ fs
  · exact u.slot b ob q n hb hx
  · exact ⟨ob.slots, u.keep b ob q n hb hx⟩
theorem Un.kept (k : ∀ b u, h.get? b = some u → h'.get? b = some u) : Un fs ex H H h h' :=
  ⟨fun b ob q _ _ _ => k b ob q, fun b ob q _ _ _ => ⟨ob.slots, k b ob q⟩, fun _ _ _ n _ => n, fun b ob q _ => ⟨ob, k b ob q⟩, fun _ _ q => q, fun _ _ _ q => q, fun _ ps q => ⟨#[], by rw [q]; simp⟩⟩
theorem Un.refl : Un fs ex H H h h := Un.kept fun _ _ q => q
theorem Un.laid (k : ∀ b u, h.get? b = some u → h'.get? b = some u) (hp : h.objs.size ≤ a) (hn : H a = none) : Un fs ex H (upd H a o) h h' where
  keep := fun b u q _ _ _ => k b u q
  slot := fun b u q _ _ _ => ⟨u.slots, k b u q⟩
  free := fun b u q n _ => by rw [upd_ne (Nat.ne_of_lt (Nat.lt_of_lt_of_le (Heap.lt_size q) hp))]; exact n
  there := fun b u q _ => ⟨u, k b u q⟩
  tups := fun b xs q => by rw [upd_ne (ne_of_none q hn)]; exact q
  frzs := fun b u xs q => by rw [upd_ne (ne_of_none q hn)]; exact q
  tbls := fun b ps q => ⟨#[], by rw [upd_ne (ne_of_none q hn), q]; simp⟩
theorem Un.write (mu : Mut (H x)) (he : e = x ∨ H e = some (.own x)) (k : ∀ b u, b ≠ e → h.get? b = some u → h'.get? b = some u) (heo : ∃ u, h'.get? e = some u) : Un fs ex H (upd H x o) h h' := by
  have hx : ∀ b, H b = none → b ≠ x := fun b n z => by subst z; rw [n] at mu; exact mu
  have hb : ∀ b, H b = none → b ≠ e := fun b n z => by
    subst z
    rcases he with r | r
    · exact hx b n r
    · rw [n] at r; cases r
  have hm : ∀ b u, H b = some u → ¬ Mut (some u) → b ≠ x := fun b u q nm z => by subst z; rw [q] at mu; exact nm mu
  refine ⟨fun b u q n _ _ => k b u (hb b n) q, fun b u q n _ _ => ⟨u.slots, k b u (hb b n) q⟩, fun b u q n _ => by rw [upd_ne (hx b n)]; exact n, fun b u q _ => ?_,
    fun b xs q => by rw [upd_ne (hm b _ q fun z => z)]; exact q, fun b u xs q => by rw [upd_ne (hm b _ q fun z => z)]; exact q, fun b ps q => ⟨#[], by rw [upd_ne (hm b _ q fun z => z), q]; simp⟩⟩
  by_cases hbe : b = e
  · subst hbe; exact heo
  · exact ⟨u, k b u hbe q⟩
end

/-! ### the heap without what is tracked -/
def trk (h : Heap) (H : Hp) : List Addr := (List.range h.objs.size).filter fun a => (H a).isSome
def hidT (h : Heap) (H : Hp) : Heap := PySem.W.hideAll h (trk h H)
theorem hidT_size (h : Heap) (H : Hp) : (hidT h H).objs.size = h.objs.size := PySem.W.hideAll_size _ _
theorem hidT_get {h : Heap} {H : Hp} {b : Addr} {o : Obj} (e : h.get? b = some o) (n : H b = none) : (hidT h H).get? b = some o :=
  PySem.W.hideAll_get _ e fun hm => by
    have q : (H b).isSome = true := (List.mem_filter.mp hm).2
    rw [n] at q; simp at q
theorem of_hidT {h : Heap} {H : Hp} {b : Addr} {o : Obj} (e : (hidT h H).get? b = some o) : h.get? b = some o ∧ H b = none := by
  have e' : h.get? b = some o := PySem.W.of_hideAll (trk h H) e
  refine ⟨e', ?_⟩
  cases q : H b with
  | none => rfl
  | some x =>
    have hm : b ∈ trk h H := List.mem_filter.mpr ⟨List.mem_range.mpr (Heap.lt_size e'), by simp [q]⟩
    have z : (hidT h H).get? b = none := PySem.W.hideAll_none (trk h H) hm
    rw [z] at e; cases e

/-! ### OpenK's ledger, filled with every new object but one -/
end L2

namespace L2
open PySem PySem.Spec PyProof.Rows

/-- the module's facts, over the base: the heap at the law's entry without what is tracked there -/
structure Mod (K : PySem.W.Frag) (mg : Str → Option Value) (base : Heap) : Prop where
  kin : K.In base
  glob : base.Ns mainGlobals mg
  blt : ∃ mb, base.Ns builtinsNs mb ∧ ∀ x : Str, x ≠ "__name__" → mb x = bootBuiltins x
  nolimit : base.NoLimit

/-- the context: a def's body (or a comprehension's block) running. base: fixed through the whole law; s₀, H₀: the entry; outer: the frames whose slots others may change (a def's callers); stack: all frames that run;
   ex: iterators that were made ahead of the entry and are walked here (a comprehension's); fn: the names whose cells were made at the entry (a def: all; a comprehension's block: its own); calm: not within an except suite; pn: pins that every state bears; xe: what is wanted of an exception that leaves the code -/
structure Cx where
  prog : Program
  w : World
  K : PySem.W.Frag
  mg : Str → Option Value
  base : Heap
  A : Around
  N : List Str
  s₀ : Shared
  H₀ : Hp
  env : Env
  outer : List Env
  stack : List Env
  ex : List Addr
  fn : Str → Bool
  calm : Bool
  pn : List (Addr × Obj)
  xe : Value → Shared → Prop
/-- the callers' frames -/
def frs (l : List Env) : List Addr := l.filterMap (·.frame)
abbrev Cx.fs (X : Cx) : List Addr := frs X.outer

def Vis (sc : Scope) (x : Str) : Prop := sc.names.lookup x = some .local ∨ sc.names.lookup x = some .cell ∨ sc.names.lookup x = some .free
def Loc (sc : Scope) (x : Str) : Prop := sc.names.lookup x = some .local ∨ sc.names.lookup x = some .cell
def Look (env : Env) (h : Heap) (m : Str → Option Value) (x : Str) (u : Value) : Prop :=
  (env.kindOf x = some .local ∧ m x = some u) ∨ ((env.kindOf x = some .cell ∨ env.kindOf x = some .free) ∧ ∃ c, env.cells.lookup x = some c ∧ h.IsCell c (some u))

structure Cx.Ok (X : Cx) : Prop where
  mod : Mod X.K X.mg X.base
  kind : X.env.scope.kind = .function
  glob : X.env.globals = mainGlobals
  blt : X.env.builtins = builtinsNs
  above : X.s₀.heap.objs.size ≤ X.env.locals
  inj : ∀ x y c, X.env.cells.lookup x = some c → X.env.cells.lookup y = some c → x = y
  has : ∀ x, (X.env.kindOf x = some .cell ∨ X.env.kindOf x = some .free) → ∃ c, X.env.cells.lookup x = some c
  cab : ∀ x c, X.fn x = true → X.env.cells.lookup x = some c → X.s₀.heap.objs.size ≤ c
  hd : X.calm = true → X.A.handled = none
  frames : X.A.frames = some X.stack
  stk : X.stack = X.outer ∨ (X.stack = X.env :: X.outer ∧ X.env.frame = some X.env.locals)
  exf : ∀ b ∈ X.ex, b ≠ X.env.locals ∧ ∀ x c, X.env.cells.lookup x = some c → c ≠ b
  bs : ∀ b o, X.base.get? b = some o → X.s₀.heap.get? b = some o ∧ X.H₀ b = none
  bsz : X.base.objs.size ≤ X.s₀.heap.objs.size
  noex : ∀ b o, X.base.get? b = some o → b ∉ X.ex
  exfs : ∀ b ∈ X.ex, b ∉ X.fs
  funs : X.s₀.heap.FunFrames X.base X.outer
  frf : ∀ b ∈ X.fs, X.H₀ b = none

structure Inv (X : Cx) (pins : List (Addr × Obj)) (σ : List (Option V)) (H : Hp) (s : Shared) : Prop where
  ok : X.Ok
  os : s.os = X.s₀.os
  bare : AllBare s.gens
  base : Un X.fs X.ex X.H₀ H X.s₀.heap s.heap
  loc : ∃ m, s.heap.Ns X.env.locals m ∧ ∀ (i : Nat) (x : Str) (v : V), X.N[i]? = some x → σ[i]? = some (some v) → Vis X.env.scope x → ∃ u, RelV v u ∧ Look X.env s.heap m x u
  cell : ∀ x c, X.env.cells.lookup x = some c → ∃ v, s.heap.IsCell c v
  free : H X.env.locals = none
  freeC : ∀ x c, X.env.cells.lookup x = some c → H c = none
  pin : ∀ p ∈ X.pn ++ pins, s.heap.get? p.1 = some p.2 ∧ H p.1 = none ∧ p.1 ≠ X.env.locals ∧ p.1 ∉ X.fs ∧ ∀ v, p.2.data ≠ .cell v
  hok : HOk X.prog X.w H s.heap
  len : σ.length = X.N.length

section
variable {X : Cx} {pins : List (Addr × Obj)} {σ : List (Option V)} {H H' : Hp} {s : Shared} {h' : Heap}

theorem Cx.Ok.nofr (ok : X.Ok) {b : Addr} {o : Obj} (e : X.base.get? b = some o) : b ∉ X.fs := fun hb => by
  have := (ok.funs.mem hb).1
  rw [e] at this; cases this
theorem Inv.bs (I : Inv X pins σ H s) : ∀ b o, X.base.get? b = some o → s.heap.get? b = some o ∧ H b = none := fun b o e =>
  ⟨I.base.keep b o (I.ok.bs b o e).1 (I.ok.bs b o e).2 (I.ok.nofr e) (I.ok.noex b o e), I.base.free b o (I.ok.bs b o e).1 (I.ok.bs b o e).2 (I.ok.noex b o e)⟩
theorem Inv.bk (I : Inv X pins σ H s) : ∀ b o, X.base.get? b = some o → s.heap.get? b = some o := fun b o e => (I.bs b o e).1
theorem Inv.mod (I : Inv X pins σ H s) : Mod X.K X.mg X.base := I.ok.mod
theorem Inv.kIn (I : Inv X pins σ H s) : X.K.In s.heap := I.ok.mod.kin.keeps I.bk
theorem Inv.lt (I : Inv X pins σ H s) : X.env.locals < s.heap.objs.size := let ⟨_, hn, _⟩ := I.loc; hn.lt
theorem Inv.sz (I : Inv X pins σ H s) : X.s₀.heap.objs.size ≤ s.heap.objs.size := Nat.le_trans I.ok.above (Nat.le_of_lt I.lt)
theorem Inv.nofs (I : Inv X pins σ H s) {a : Addr} (h : s.heap.objs.size ≤ a) : a ∉ X.fs := fun hb => by
  obtain ⟨_, o, ho, _⟩ := I.ok.funs.mem hb
  exact absurd (Nat.lt_of_lt_of_le (Heap.lt_size ho) (Nat.le_trans I.sz h)) (Nat.lt_irrefl _)
theorem Inv.cne (I : Inv X pins σ H s) : ∀ x c, X.env.cells.lookup x = some c → c ≠ X.env.locals := fun x c e z => by
  obtain ⟨v, o, ho, hd⟩ := I.cell x c e
  obtain ⟨m, ⟨o', es, ep, ho', hd', _⟩, _⟩ := I.loc
  rw [z, ho'] at ho; cases ho; rw [hd'] at hd; cases hd
theorem Inv.funs (I : Inv X pins σ H s) : s.heap.FunFrames X.base X.outer := by
  have all : ∀ (l : List Env), (∀ b ∈ frs l, b ∈ X.fs) → X.s₀.heap.FunFrames X.base l → s.heap.FunFrames X.base l := by
    intro l
    induction l with
    | nil => intro _ _; trivial
    | cons env r ih =>
      intro hs hl
      obtain ⟨hk, ⟨L, o, hf, hn, ho, hd⟩, hr⟩ := hl
      have hL : L ∈ X.fs := hs L (by unfold frs; rw [List.filterMap_cons, hf]; exact List.mem_cons_self)
      obtain ⟨sl, e⟩ := I.base.slot L o ho (I.ok.frf L hL) hL fun z => I.ok.exfs L z hL
      exact ⟨hk, ⟨L, _, hf, hn, e, hd⟩, ih (fun b hb => hs b (by unfold frs; rw [List.filterMap_cons, hf]; exact List.mem_cons_of_mem _ hb)) hr⟩
  exact all X.outer (fun _ hb => hb) I.ok.funs

/-- the frames that run, for a call -/
theorem Inv.stack (I : Inv X pins σ H s) : s.heap.FunFrames X.base X.stack := by
  rcases I.ok.stk with e | ⟨e, hf⟩
  · rw [e]; exact I.funs
  · rw [e]
    obtain ⟨m, hn, _⟩ := I.loc
    refine .cons (by rw [I.ok.kind]; decide) hf hn ?_ I.funs
    exact Heap.get?_none_of_le (Nat.le_trans I.ok.bsz I.ok.above)
theorem Inv.stkSub (I : Inv X pins σ H s) : ∀ b ∈ frs X.stack, b ∈ X.env.locals :: X.fs := fun b hb => by
  rcases I.ok.stk with e | ⟨e, hf⟩
  · rw [e] at hb; exact List.mem_cons_of_mem _ hb
  · rw [e] at hb
    unfold frs at hb
    rw [List.filterMap_cons, hf] at hb
    exact hb
theorem Inv.stkFree (I : Inv X pins σ H s) : ∀ b ∈ frs X.stack, H b = none := fun b hb => by
  rcases List.mem_cons.mp (I.stkSub b hb) with e | hb
  · rw [e]; exact I.free
  · obtain ⟨_, o, ho, _⟩ := I.ok.funs.mem hb
    exact I.base.free b o ho (I.ok.frf b hb) fun z => I.ok.exfs b z hb

/-- THE STEP: the untracked objects but the frame and the records at ch are kept (the callers' frames up to slots), the frame's map is kept, the new abstract heap is held -/
theorem Inv.step {g' : Array GenState} {t' : Nat} {d' : Drawn} {ch : List Addr} (I : Inv X pins σ H s)
    (hch : ∀ b ∈ ch, (b ∈ X.ex ∨ X.s₀.heap.objs.size ≤ b) ∧ b ≠ X.env.locals ∧ (∀ x c, X.env.cells.lookup x = some c → c ≠ b) ∧ ∀ p ∈ X.pn ++ pins, p.1 ≠ b)
    (keep : ∀ b o, b ≠ X.env.locals → b ∉ X.fs → b ∉ ch → s.heap.get? b = some o → H b = none → h'.get? b = some o)
    (slot : ∀ b o, b ≠ X.env.locals → b ∈ X.fs → b ∉ ch → s.heap.get? b = some o → H b = none → ∃ sl, h'.get? b = some { o with slots := sl }) (free : ∀ b o, b ∉ ch → s.heap.get? b = some o → H b = none → H' b = none)
    (there : ∀ b o, b ∉ ch → s.heap.get? b = some o → ∃ o', h'.get? b = some o')
    (tups : ∀ b xs, H b = some (.tup xs) → H' b = some (.tup xs)) (frzs : ∀ b o u, H b = some (.frz o u) → H' b = some (.frz o u)) (tbls : ∀ b ps, H b = some (.tbl ps) → ∃ more, H' b = some (.tbl (ps ++ more)))
    (ns : ∀ m, s.heap.Ns X.env.locals m → h'.Ns X.env.locals m) (hok : HOk X.prog X.w H' h') (hg : AllBare g') :
    Inv X pins σ H' { s with heap := h', gens := g', drawn := d', toks := t' } := by
  have neL : ∀ b o, X.s₀.heap.get? b = some o → b ≠ X.env.locals := fun b o e => Nat.ne_of_lt (Nat.lt_of_lt_of_le (Heap.lt_size e) I.ok.above)
  have neC : ∀ b o, X.s₀.heap.get? b = some o → b ∉ X.ex → b ∉ ch := fun b o e hx hb => by
    rcases (hch b hb).1 with z | z
    · exact hx z
    · exact absurd (Nat.lt_of_lt_of_le (Heap.lt_size e) z) (Nat.lt_irrefl _)
  have cellK : ∀ x c, X.env.cells.lookup x = some c → ∀ v, s.heap.IsCell c v → h'.IsCell c v := fun x c e v ⟨o, ho, hd⟩ => by
    have nch : c ∉ ch := fun z => (hch c z).2.2.1 x c e rfl
    by_cases hc : c ∈ X.fs
    · obtain ⟨sl, q⟩ := slot c o (I.cne x c e) hc nch ho (I.freeC x c e)
      exact ⟨_, q, hd⟩
    · exact ⟨o, keep c o (I.cne x c e) hc nch ho (I.freeC x c e), hd⟩
  refine ⟨I.ok, I.os, hg, ⟨fun b o e n hb hx => ?_, fun b o e n hb hx => ?_, fun b o e n hx => ?_, fun b o e hx => ?_, fun b xs e => tups b xs (I.base.tups b xs e), fun b o xs e => frzs b o xs (I.base.frzs b o xs e), fun b ps e => ?_⟩, ?_, fun x c e => ?_, ?_, fun x c e => ?_, fun p hp => ?_, hok, I.len⟩
  · exact keep b o (neL b o e) hb (neC b o e hx) (I.base.keep b o e n hb hx) (I.base.free b o e n hx)
  · obtain ⟨sl, e1⟩ := I.base.slot b o e n hb hx
    obtain ⟨sl', e2⟩ := slot b _ (neL b o e) hb (neC b o e hx) e1 (I.base.free b o e n hx)
    exact ⟨sl', e2⟩
  · obtain ⟨o', e1⟩ := I.base.there b o e hx
    exact free b o' (neC b o e hx) e1 (I.base.free b o e n hx)
  · obtain ⟨o', e1⟩ := I.base.there b o e hx
    exact there b o' (neC b o e hx) e1
  · obtain ⟨m1, e1⟩ := I.base.tbls b ps e
    obtain ⟨m2, e2⟩ := tbls b _ e1
    exact ⟨m1 ++ m2, by rw [e2, Array.append_assoc]⟩
  · obtain ⟨m, hn, hl⟩ := I.loc
    refine ⟨m, ns m hn, fun i x v e1 e2 e3 => ?_⟩
    obtain ⟨u, r, l⟩ := hl i x v e1 e2 e3
    refine ⟨u, r, ?_⟩
    rcases l with l | ⟨k, c, e, z⟩
    · exact .inl l
    · exact .inr ⟨k, c, e, cellK x c e _ z⟩
  · obtain ⟨v, z⟩ := I.cell x c e
    exact ⟨v, cellK x c e v z⟩
  · obtain ⟨m, ⟨o, _, _, ho, _⟩, _⟩ := I.loc
    exact free _ o (fun z => (hch _ z).2.1 rfl) ho I.free
  · obtain ⟨v, o, ho, hd⟩ := I.cell x c e
    exact free c o (fun z => (hch c z).2.2.1 x c e rfl) ho (I.freeC x c e)
  · obtain ⟨e, n, ne, nf, d⟩ := I.pin p hp
    have nch : p.1 ∉ ch := fun z => (hch p.1 z).2.2.2 p hp rfl
    exact ⟨keep p.1 p.2 ne nf nch e n, free p.1 p.2 nch e n, ne, nf, d⟩
/-- .. where the frame's own object is kept too -/
theorem Inv.un {t' : Nat} (I : Inv X pins σ H s) (u : Un X.fs [] H H' s.heap h') (hok : HOk X.prog X.w H' h') : Inv X pins σ H' { s with heap := h', toks := t' } := by
  obtain ⟨m, ⟨o, es, ep, ho, r⟩, _⟩ := id I.loc
  obtain ⟨sl, hL⟩ := u.any ho I.free (by simp)
  exact I.step (g' := s.gens) (d' := s.drawn) (ch := []) (fun _ z => nomatch z) (fun b o _ hb _ e n => u.keep b o e n hb (by simp)) (fun b o _ hb _ e n => u.slot b o e n hb (by simp)) (fun b o _ e n => u.free b o e n (by simp)) (fun b o _ e => u.there b o e (by simp)) u.tups u.frzs u.tbls (fun m' hm => by
    obtain ⟨o', es', ep', ho', r'⟩ := hm
    rw [ho] at ho'; cases ho'
    exact ⟨_, es', ep', hL, r'⟩) hok I.bare
/-- behind a call (or a comprehension's block): the slots of this frame may have changed too, the records at ch may have turned -/
theorem Inv.call {g' : Array GenState} {t' : Nat} {d' : Drawn} {ch : List Addr} (I : Inv X pins σ H s) (u : Un (frs X.stack) ch H H' s.heap h') (hok : HOk X.prog X.w H' h') (hg : AllBare g')
    (hch : ∀ b ∈ ch, (b ∈ X.ex ∨ X.s₀.heap.objs.size ≤ b) ∧ b ≠ X.env.locals ∧ (∀ x c, X.env.cells.lookup x = some c → c ≠ b) ∧ ∀ p ∈ X.pn ++ pins, p.1 ≠ b) :
    Inv X pins σ H' { s with heap := h', gens := g', drawn := d', toks := t' } := by
  obtain ⟨m, ⟨o, es, ep, ho, r⟩, _⟩ := id I.loc
  obtain ⟨sl, hL⟩ := u.any ho I.free fun z => (hch _ z).2.1 rfl
  exact I.step (ch := ch) hch (fun b o hL hb hc e n => u.keep b o e n (fun z => (List.mem_cons.mp (I.stkSub b z)).elim hL hb) hc) (fun b o _ _ hc e n => u.any e n hc) (fun b o hc e n => u.free b o e n hc) (fun b o hc e => u.there b o e hc) u.tups u.frzs u.tbls (fun m' hm => by
    obtain ⟨o', es', ep', ho', r'⟩ := hm
    rw [ho] at ho'; cases ho'
    exact ⟨_, es', ep', hL, r'⟩) hok hg
/-- an untracked record of ours (an iterator) has turned -/
theorem Inv.turned {t' : Nat} {it : Addr} (I : Inv X pins σ H s) (k : ∀ b o, b ≠ it → s.heap.get? b = some o → h'.get? b = some o) (hn : H it = none) (hL : it ≠ X.env.locals)
    (h1 : it ∈ X.ex ∨ X.s₀.heap.objs.size ≤ it) (h2 : ∀ x c, X.env.cells.lookup x = some c → c ≠ it) (h3 : ∀ p ∈ X.pn ++ pins, p.1 ≠ it) : Inv X pins σ H { s with heap := h', toks := t' } := by
  have nit : ∀ b u, H b = some u → b ≠ it := fun b u e z => by rw [z, hn] at e; cases e
  refine I.step (g' := s.gens) (d' := s.drawn) (ch := [it]) (fun b hb => ?_) (fun b o _ _ hc e _ => k b o (fun z => hc (by simp [z])) e) (fun b o _ _ hc e _ => ⟨o.slots, k b o (fun z => hc (by simp [z])) e⟩) (fun _ _ _ _ n => n)
    (fun b o hc e => ⟨o, k b o (fun z => hc (by simp [z])) e⟩) (fun _ _ e => e) (fun _ _ _ e => e) (fun b ps e => ⟨#[], by rw [e]; simp⟩) (fun m hm => ?_) (fun b u e => ?_) I.bare
  · have e : b = it := by simpa using hb
    subst e
    exact ⟨h1, hL, h2, h3⟩
  · obtain ⟨o, es, ep, ho, r⟩ := hm
    exact ⟨o, es, ep, k _ o (Ne.symm hL) ho, r⟩
  · refine (I.hok b u e).stay (fun c v hc q => k c v ?_ q) (fun _ q => q) fun _ _ q => q
    rcases hc with z | z
    · rw [z]; exact nit b u e
    · exact nit c _ z
theorem Inv.tok (I : Inv X pins σ H s) (t : Nat) : Inv X pins σ H { s with toks := t } := I.un (h' := s.heap) (t' := t) Un.refl I.hok
/-- all objects kept -/
theorem Inv.kept {t' : Nat} (I : Inv X pins σ H s) (k : ∀ b u, s.heap.get? b = some u → h'.get? b = some u) : Inv X pins σ H { s with heap := h', toks := t' } := I.un (Un.kept k) (I.hok.kept k)
/-- a new object laid and tracked -/
theorem Inv.laid {a : Addr} {o : HO} {t' : Nat} (I : Inv X pins σ H s) (k : ∀ b u, s.heap.get? b = some u → h'.get? b = some u) (hp : s.heap.objs.size ≤ a) (new : ObjOk X.prog X.w (upd H a o) h' a o) :
    Inv X pins σ (upd H a o) { s with heap := h', toks := t' } := I.un (Un.laid k hp (I.hok.fresh hp)) (I.hok.laid k hp new)
/-- an object written -/
theorem Inv.write {x e : Addr} {o : HO} {t' : Nat} (I : Inv X pins σ H s) (mu : Mut (H x)) (he : e = x ∨ H e = some (.own x)) (k : ∀ b u, b ≠ e → s.heap.get? b = some u → h'.get? b = some u) (heo : ∃ u, h'.get? e = some u)
    (new : ObjOk X.prog X.w (upd H x o) h' x o) : Inv X pins σ (upd H x o) { s with heap := h', toks := t' } := I.un (Un.write mu he k heo) (I.hok.write mu he k heo new)
theorem Inv.pins_of {pins' : List (Addr × Obj)} (I : Inv X pins σ H s) (h : ∀ p ∈ pins', s.heap.get? p.1 = some p.2 ∧ H p.1 = none ∧ p.1 ≠ X.env.locals ∧ p.1 ∉ X.fs ∧ ∀ v, p.2.data ≠ .cell v) : Inv X pins' σ H s :=
  ⟨I.ok, I.os, I.bare, I.base, I.loc, I.cell, I.free, I.freeC, fun p hp => (List.mem_append.mp hp).elim (fun z => I.pin p (List.mem_append_left _ z)) (h p), I.hok, I.len⟩

theorem nodup_ix {N : List Str} (hN : N.Nodup) {i j : Nat} {x : Str} (a : N[i]? = some x) (b : N[j]? = some x) : i = j := by
  obtain ⟨h1, e1⟩ := List.getElem?_eq_some_iff.mp a
  obtain ⟨h2, e2⟩ := List.getElem?_eq_some_iff.mp b
  exact (List.getElem_inj hN).mp (e1.trans e2.symm)

/-- a name is stored; what changed -/
theorem store_ok2 {M : Model} {A : Around} {E : Value → Shared → Prop} {i : Nat} {x : Str} {v : V} {u : Value} {Q : Unit → Shared → Prop} (I : Inv X pins σ H s) (hN : X.N.Nodup) (hi : X.N[i]? = some x) (hx : Loc X.env.scope x) (r : RelV v u)
    (h : ∀ s', Inv X pins (σ.set i (some v)) H s' → (∃ a, Heap.SameBut a s.heap s'.heap ∧ (a = X.env.locals ∨ X.env.cells.lookup x = some a)) → Q () s') (hf : X.fn x = true ∨ X.env.scope.names.lookup x = some .local := by first | exact .inl rfl | exact .inr rfl | assumption) : wpAny M A (storeName X.env x u) Q E s := by
  obtain ⟨m, hn, hl⟩ := id I.loc
  have hcls : (X.env.scope.kind == .class || (X.env.scope.kind == .module && X.env.locals != X.env.globals)) = false := by rw [I.ok.kind]; rfl
  have hiσ : i < σ.length := by rw [I.len]; exact (List.getElem?_eq_some_iff.mp hi).1
  have cne := I.cne
  have tracked : ∀ {a : Addr} {h' : Heap}, (∃ o, s.heap.get? a = some o ∧ H a = none) → Heap.SameBut a s.heap h' → HOk X.prog X.w H h' := fun {a h'} ha hs b ob e => by
    obtain ⟨_, _, hfree⟩ := ha
    refine (I.hok b ob e).stay (fun c w' hc q => (hs.2 c ?_).trans q) (fun _ q => q) fun _ _ q => q
    rintro rfl
    rcases hc with rfl | hc
    · rw [hfree] at e; cases e
    · rw [hfree] at hc; cases hc
  rcases hx with hk | hk
  · refine wpAny_storeName_local hk hn (fun h' hn' hs => ?_) hcls
    obtain ⟨oL, _, _, hoL, _⟩ := id hn
    refine h _ ⟨I.ok, I.os, I.bare, ⟨fun b o e n hb hx => ?_, fun b o e n hb hx => ?_, I.base.free, fun b o e hx => ?_, I.base.tups, I.base.frzs, I.base.tbls⟩, ⟨_, hn', fun j y v' e1 e2 e3 => ?_⟩, fun y c e => ?_, I.free, I.freeC, fun p hp => ?_, tracked ⟨oL, hoL, I.free⟩ hs, by simpa using I.len⟩ ⟨_, hs, .inl rfl⟩
    · exact (hs.2 b (Nat.ne_of_lt (Nat.lt_of_lt_of_le (Heap.lt_size e) I.ok.above))).trans (I.base.keep b o e n hb hx)
    · obtain ⟨sl, e1⟩ := I.base.slot b o e n hb hx
      exact ⟨sl, (hs.2 b (Nat.ne_of_lt (Nat.lt_of_lt_of_le (Heap.lt_size e) I.ok.above))).trans e1⟩
    · obtain ⟨o', e1⟩ := I.base.there b o e hx
      exact ⟨o', (hs.2 b (Nat.ne_of_lt (Nat.lt_of_lt_of_le (Heap.lt_size e) I.ok.above))).trans e1⟩
    · by_cases hj : j = i
      · subst hj
        rw [hi] at e1; cases e1
        rw [List.getElem?_set_self hiσ] at e2
        cases e2
        exact ⟨u, r, .inl ⟨hk, by simp⟩⟩
      · rw [List.getElem?_set_ne (Ne.symm hj)] at e2
        obtain ⟨u', r', q⟩ := hl j y v' e1 e2 e3
        refine ⟨u', r', ?_⟩
        rcases q with ⟨k, e⟩ | ⟨k, c, e, z⟩
        · refine .inl ⟨k, ?_⟩
          have : y ≠ x := fun e => hj (nodup_ix hN e1 (e ▸ hi))
          simp [this, e]
        · exact .inr ⟨k, c, e, z.sameBut hs (cne y c e)⟩
    · obtain ⟨w', z⟩ := I.cell y c e
      exact ⟨w', z.sameBut hs (cne y c e)⟩
    · obtain ⟨e, n, ne, nf, d⟩ := I.pin p hp
      exact ⟨(hs.2 p.1 ne).trans e, n, ne, nf, d⟩
  · have hfn : X.fn x = true := by
      rcases hf with z | z
      · exact z
      · rw [z] at hk; cases hk
    obtain ⟨c, hc⟩ := I.ok.has x (.inl hk)
    obtain ⟨w', z⟩ := I.cell x c hc
    refine wpAny_storeName_cell I.ok.kind hk hc z (fun h' hc' hs => ?_)
    obtain ⟨oc, hoc, hocd⟩ := id z
    refine h { s with heap := h' } ⟨I.ok, I.os, I.bare, ⟨fun b o e n hb hx => ?_, fun b o e n hb hx => ?_, I.base.free, fun b o e hx => ?_, I.base.tups, I.base.frzs, I.base.tbls⟩, ⟨m, hn.sameBut hs (Ne.symm (cne x c hc)), fun j y v' e1 e2 e3 => ?_⟩, fun y c' e => ?_, I.free, I.freeC, fun p hp => ?_, tracked ⟨oc, hoc, I.freeC x c hc⟩ hs, by simpa using I.len⟩ ⟨c, hs, .inr hc⟩
    · exact (hs.2 b (Nat.ne_of_lt (Nat.lt_of_lt_of_le (Heap.lt_size e) (I.ok.cab x c hfn hc)))).trans (I.base.keep b o e n hb hx)
    · obtain ⟨sl, e1⟩ := I.base.slot b o e n hb hx
      exact ⟨sl, (hs.2 b (Nat.ne_of_lt (Nat.lt_of_lt_of_le (Heap.lt_size e) (I.ok.cab x c hfn hc)))).trans e1⟩
    · obtain ⟨o', e1⟩ := I.base.there b o e hx
      exact ⟨o', (hs.2 b (Nat.ne_of_lt (Nat.lt_of_lt_of_le (Heap.lt_size e) (I.ok.cab x c hfn hc)))).trans e1⟩
    · by_cases hj : j = i
      · subst hj
        rw [hi] at e1; cases e1
        rw [List.getElem?_set_self hiσ] at e2
        cases e2
        exact ⟨u, r, .inr ⟨.inl hk, c, hc, hc'⟩⟩
      · rw [List.getElem?_set_ne (Ne.symm hj)] at e2
        obtain ⟨u', r', q⟩ := hl j y v' e1 e2 e3
        refine ⟨u', r', ?_⟩
        rcases q with q | ⟨k, c', e, z'⟩
        · exact .inl q
        · refine .inr ⟨k, c', e, z'.sameBut hs ?_⟩
          rintro rfl
          exact hj (nodup_ix hN e1 (I.ok.inj _ _ _ e hc ▸ hi))
    · by_cases hcc : c' = c
      · subst hcc; exact ⟨_, hc'⟩
      · obtain ⟨w2, z2⟩ := I.cell y c' e
        exact ⟨w2, z2.sameBut hs hcc⟩
    · obtain ⟨e, n, ne, nf, d⟩ := I.pin p hp
      refine ⟨(hs.2 p.1 ?_).trans e, n, ne, nf, d⟩
      intro q
      rw [q, hoc] at e
      have q' : oc = p.2 := Option.some.inj e
      exact d w' (by rw [← q']; exact hocd)
theorem store_ok {M : Model} {A : Around} {E : Value → Shared → Prop} {i : Nat} {x : Str} {v : V} {u : Value} {Q : Unit → Shared → Prop} (I : Inv X pins σ H s) (hN : X.N.Nodup) (hi : X.N[i]? = some x) (hx : Loc X.env.scope x) (r : RelV v u)
    (h : ∀ s', Inv X pins (σ.set i (some v)) H s' → Q () s') (hf : X.fn x = true ∨ X.env.scope.names.lookup x = some .local := by first | exact .inl rfl | exact .inr rfl | assumption) : wpAny M A (storeName X.env x u) Q E s :=
  store_ok2 I hN hi hx r (fun s' I' _ => h s' I') hf
/-- behind a call or a block, the state as it is -/
theorem Inv.call' {s' : Shared} {ch : List Addr} (I : Inv X pins σ H s) (ho : s'.os = s.os) (u : Un (frs X.stack) ch H H' s.heap s'.heap) (hok : HOk X.prog X.w H' s'.heap) (hg : AllBare s'.gens)
    (hch : ∀ b ∈ ch, (b ∈ X.ex ∨ X.s₀.heap.objs.size ≤ b) ∧ b ≠ X.env.locals ∧ (∀ x c, X.env.cells.lookup x = some c → c ≠ b) ∧ ∀ p ∈ X.pn ++ pins, p.1 ≠ b) : Inv X pins σ H' s' := by
  obtain ⟨h', g', d', t', o'⟩ := s'
  have e : o' = s.os := ho
  subst e
  exact I.call (g' := g') (t' := t') (d' := d') u hok hg hch
end

/-! ### the judgements -/
/-- an exception: its class, its own dict's address (where it has one), the abstract heap behind it -/
abbrev XK := Value → Option Addr → Hp → Prop
abbrev St := List (Option V)
abbrev VK := V → Hp → Prop
/-- an expression's reading; a test's; an argument list's -/
abbrev TE := St → Hp → VK → Prop
abbrev TT := St → Hp → (Bool → Hp → Prop) → Prop
abbrev TA := St → Hp → (List V → Hp → Prop) → Prop
/-- what is wanted behind a statement -/
structure Ends where
  nx : St → Hp → Prop
  rt : VK
  bk : St → Hp → Prop := fun _ _ => False
  ct : St → Hp → Prop := fun _ _ => False
abbrev TS := Ends → St → Hp → Prop

def EP (X : Cx) (pins : List (Addr × Obj)) (σ : St) (Q : VK) (u : Value) (s' : Shared) : Prop := ∃ v H', Inv X pins σ H' s' ∧ RelV v u ∧ Q v H'
def TP (X : Cx) (pins : List (Addr × Obj)) (σ : St) (Q : Bool → Hp → Prop) (b : Bool) (s' : Shared) : Prop := ∃ H', Inv X pins σ H' s' ∧ Q b H'
def AP (X : Cx) (pins : List (Addr × Obj)) (σ : St) (Q : List V → Hp → Prop) (us : List Value) (s' : Shared) : Prop := ∃ vs H', Inv X pins σ H' s' ∧ Vals vs us ∧ Q vs H'
def SP (X : Cx) (pins : List (Addr × Obj)) (D : Ends) (f : Flow) (s' : Shared) : Prop :=
  match f with
  | .next => ∃ σ' H', Inv X pins σ' H' s' ∧ D.nx σ' H'
  | .brk => ∃ σ' H', Inv X pins σ' H' s' ∧ D.bk σ' H'
  | .cont => ∃ σ' H', Inv X pins σ' H' s' ∧ D.ct σ' H'
  | .ret u => ∃ v σ' H', Inv X pins σ' H' s' ∧ RelV v u ∧ D.rt v H'

def PE (X : Cx) (e : Expr) (t : TE) : Prop :=
  ∀ (pins : List (Addr × Obj)) (s : Shared) (σ : St) (H : Hp) (Q : VK), Inv X pins σ H s → t σ H Q → wpAny (model X.prog X.w) X.A (eval e X.env) (EP X pins σ Q) X.xe s
def PT (X : Cx) (e : Expr) (t : TT) : Prop :=
  ∀ (pins : List (Addr × Obj)) (s : Shared) (σ : St) (H : Hp) (Q : Bool → Hp → Prop), Inv X pins σ H s → t σ H Q → wpAny (model X.prog X.w) X.A (isTrue e X.env (eval e X.env)) (TP X pins σ Q) X.xe s
/-- a test whatever its 'whole' is (and, or) -/
def PW (X : Cx) (e : Expr) (t : TT) : Prop :=
  ∀ (whole : Sem Value) (pins : List (Addr × Obj)) (s : Shared) (σ : St) (H : Hp) (Q : Bool → Hp → Prop), Inv X pins σ H s → t σ H Q → wpAny (model X.prog X.w) X.A (isTrue e X.env whole) (TP X pins σ Q) X.xe s
theorem PW.pt {X : Cx} {e : Expr} {t : TT} (h : PW X e t) : PT X e t := h _
/-- an argument list (no star), from the left -/
def PA (X : Cx) (es : List Expr) (t : TA) : Prop :=
  ∀ (pos : Pos) (pins : List (Addr × Obj)) (s : Shared) (σ : St) (H : Hp) (Q : List V → Hp → Prop), Inv X pins σ H s → t σ H Q → wpAny (model X.prog X.w) X.A (spliced (backTo pos (starEach es X.env))) (AP X pins σ Q) X.xe s
def PS (X : Cx) (st : Stmt) (t : TS) : Prop :=
  ∀ (pins : List (Addr × Obj)) (s : Shared) (σ : St) (H : Hp) (D : Ends), Inv X pins σ H s → t D σ H → wpAny (model X.prog X.w) X.A (exec st X.env) (SP X pins D) X.xe s
def PSs (X : Cx) (st : List Stmt) (t : TS) : Prop :=
  ∀ (pins : List (Addr × Obj)) (s : Shared) (σ : St) (H : Hp) (D : Ends), Inv X pins σ H s → t D σ H → wpAny (model X.prog X.w) X.A (execs st X.env) (SP X pins D) X.xe s
/-- weaken the end -/
theorem thn {α : Type} {t : Sem α} {Q Q' : α → Shared → Prop} {M : Model} {A : Around} {E : Value → Shared → Prop} {s : Shared} (h : wpAny M A t Q E s) (hQ : ∀ a s, Q a s → Q' a s) : wpAny M A t Q' E s := wpAny_mono h hQ fun _ _ x => x
end L2

namespace L2
open PySem PySem.Spec PyProof.Rows
section
variable {X : Cx}

/-- two expressions in a row -/
theorem bin {a b : Expr} {ta tb : TE} (ha : PE X a ta) (hb : PE X b tb) {pins : List (Addr × Obj)} {s : Shared} {σ : St} {H : Hp} {R : V → V → Hp → Prop} (I : Inv X pins σ H s) (h : ta σ H fun x H1 => tb σ H1 fun y H2 => R x y H2)
    {α : Type} {Q : α → Shared → Prop} {f : Value → Value → Sem α}
    (hf : ∀ v u s2 x y H2, Inv X pins σ H2 s2 → RelV x v → RelV y u → R x y H2 → wpAny (model X.prog X.w) X.A (f v u) Q X.xe s2) :
    wpAny (model X.prog X.w) X.A (eval a X.env) (fun v s₁ => wpAny (model X.prog X.w) X.A (eval b X.env) (fun u s₂ => wpAny (model X.prog X.w) X.A (f v u) Q X.xe s₂) X.xe s₁) X.xe s := by
  refine thn (ha pins s σ H _ I h) fun v s1 ⟨x, H1, I1, r1, q1⟩ => ?_
  refine thn (hb pins s1 σ H1 _ I1 q1) fun u s2 ⟨y, H2, I2, r2, q2⟩ => ?_
  exact hf v u s2 x y H2 I2 r1 r2 q2

/-! ### names and constants -/
def tVar (i : Nat) : TE := fun σ H Q => ∃ v, σ[i]? = some (some v) ∧ Q v H
def tC (v : V) : TE := fun _ H Q => Q v H
theorem pe_var {i : Nat} {x : Str} {pos : Pos} (hN : X.N[i]? = some x) (hv : Vis X.env.scope x) (hd : (x == ("__debug__" : Str)) = false := by decide) (hcd : (x == ("__classdict__" : Str)) = false := by decide) : PE X (.Name x pos) (tVar i) := by
  intro pins s σ H Q I h
  obtain ⟨v, e, h⟩ := h
  obtain ⟨m, hn, hl⟩ := I.loc
  obtain ⟨u, r, l⟩ := hl i x v hN e hv
  have fin : EP X pins σ Q u s := ⟨v, H, I, r, h⟩
  rcases l with ⟨hk, hm⟩ | ⟨hk, c, hc, hcell⟩
  · exact wpAny_Name (wpAny_loadName_local I.ok.kind hk hn hm fin) hd
  · rcases hk with hk | hk
    · exact wpAny_Name (wpAny_loadName_cell I.ok.kind hk hc hcell fin) hd
    · exact wpAny_Name (wpAny_loadName_free I.ok.kind hk hc hcell fin hcd) hd
theorem pe_int {i j pos} : PE X (.Constant (.int i) j pos) (tC (.int i)) := fun _ _ _ H _ I h => wpAny_Constant_int ⟨.int i, H, I.tok _, ⟨_, rfl⟩, h⟩
theorem pe_bl {b j pos} : PE X (.Constant (.bool b) j pos) (tC (.bl b)) := fun _ _ _ H _ I h => Constant_bool ⟨.bl b, H, I, rfl, h⟩
/-- a global name of the def -/
def Gl (X : Cx) (x : Str) : Prop := X.env.kindOf x = some .globalImplicit
theorem ld_glob {E : Value → Shared → Prop} {pins : List (Addr × Obj)} {s : Shared} {σ : St} {H : Hp} {x : Str} {u : Value} {pos : Pos} {Q : Value → Shared → Prop} (I : Inv X pins σ H s) (hg : Gl X x) (hm : X.mg x = some u) (h : Q u s)
    (hd : (x == ("__debug__" : Str)) = false := by decide) : wpAny (model X.prog X.w) X.A (eval (.Name x pos) X.env) Q E s :=
  Calls.Name_function_global I.ok.kind hg (Calls.loadGlobal_global (by rw [I.ok.glob]; exact I.mod.glob.keeps I.bk) hm h) hd
theorem ld_blt {E : Value → Shared → Prop} {pins : List (Addr × Obj)} {s : Shared} {σ : St} {H : Hp} {x : Str} {u : Value} {pos : Pos} {Q : Value → Shared → Prop} (I : Inv X pins σ H s) (hg : Gl X x) (hm : X.mg x = none) (hv : bootBuiltins x = some u) (h : Q u s)
    (hn : x ≠ "__name__" := by decide) (hd : (x == ("__debug__" : Str)) = false := by decide) : wpAny (model X.prog X.w) X.A (eval (.Name x pos) X.env) Q E s := by
  obtain ⟨mb, h1, h2⟩ := I.mod.blt
  exact Calls.Name_function_global I.ok.kind hg (Calls.loadGlobal_builtin (by rw [I.ok.glob]; exact I.mod.glob.keeps I.bk) hm (by rw [I.ok.blt]; exact h1.keeps I.bk) ((h2 x hn).trans hv) h) hd
/-- a module's constant, a class, a function, as a value -/
theorem pe_glob {x : Str} {v : V} {u : Value} {pos : Pos} (hg : Gl X x) (hm : X.mg x = some u) (r : RelV v u) (hd : (x == ("__debug__" : Str)) = false := by decide) : PE X (.Name x pos) (tC v) :=
  fun _ _ _ H _ I h => ld_glob I hg hm ⟨v, H, I, r, h⟩ hd
theorem pe_bltn {x : Str} {v : V} {u : Value} {pos : Pos} (hg : Gl X x) (hm : X.mg x = none) (hv : bootBuiltins x = some u) (r : RelV v u) (hn : x ≠ "__name__" := by decide) (hd : (x == ("__debug__" : Str)) = false := by decide) : PE X (.Name x pos) (tC v) :=
  fun _ _ _ H _ I h => ld_blt I hg hm hv ⟨v, H, I, r, h⟩ hn hd

/-! ### arithmetic -/
variable {a b : Expr} {ta tb : TE} {pos : Pos}
/-! ### comparisons -/
def PC (X : Cx) (op : CmpOp) (a b : Expr) (t : TE) : Prop :=
  ∀ (pins : List (Addr × Obj)) (s : Shared) (σ : St) (H : Hp) (Q : VK), Inv X pins σ H s → t σ H Q →
    wpAny (model X.prog X.w) X.A (eval a X.env) (fun v s₁ => wpAny (model X.prog X.w) X.A (eval b X.env) (fun u s₂ => wpAny (model X.prog X.w) X.A (compareOp op v u) (EP X pins σ Q) X.xe s₂) X.xe s₁) X.xe s
/-- a comparison as a value, as a test -/
def tB (t : TE) : TT := fun σ H Q => t σ H fun x H1 => ∃ c, x = .bl c ∧ Q c H1
theorem pt_cmp {op : CmpOp} {t : TE} (h : PC X op a b t) (h1 : behindInMarks op b = false := by first | exact nobehind _ (by decide) (by decide) | rfl) : PT X (.Compare a [op] [b] pos) (tB t) := by
  intro pins s σ H Q I hw
  refine wpAny_isTrue_Compare1 (thn (h pins s σ H _ I hw) fun v s1 h1 => thn h1 fun u s2 h2 => thn h2 fun c s3 ⟨x, H1, I1, r1, q1⟩ => ?_) h1
  obtain ⟨d, rfl, q⟩ := q1
  cases r1
  exact wpAny_truthy_bool ⟨H1, I1, q⟩
/-- an expression whose value is a bool, as a test -/
theorem pt_val {e : Expr} {t : TE} (h : PE X e t) (he : ∀ whole, isTrue e X.env whole = (do let v ← whole; standAt e.pos; holding [v] (truthy v)) := by intro _; rfl) : PT X e (tB t) := by
  intro pins s σ H Q I hw
  refine isTrue_plain (thn (h pins s σ H _ I hw) fun v s1 ⟨x, H1, I1, r1, q1⟩ => ?_) (he _)
  obtain ⟨d, rfl, q⟩ := q1
  cases r1
  exact wpAny_truthy_bool ⟨H1, I1, q⟩

/-! ### and, or, not -/
variable {tA tB' : TT} {rest : List Expr}
def tAnd (t u : TT) : TT := fun σ H Q => t σ H fun c H1 => if c = true then u σ H1 Q else Q false H1
def tOr (t u : TT) : TT := fun σ H Q => t σ H fun c H1 => if c = true then Q true H1 else u σ H1 Q
def tNot (t : TT) : TT := fun σ H Q => t σ H fun c H1 => Q (!c) H1
theorem pw_and1 (ha : PT X a tA) : PW X (.BoolOp .And [a] pos) tA := by
  intro wh pins s σ H Q I h
  refine isTrue_and (thn (ha pins s σ H Q I h) fun c s1 e => ?_)
  cases c with
  | true => exact isTrue_and_nil e
  | false => exact e
theorem pw_or1 (ha : PT X a tA) : PW X (.BoolOp .Or [a] pos) tA := by
  intro wh pins s σ H Q I h
  refine isTrue_or (thn (ha pins s σ H Q I h) fun c s1 e => ?_)
  cases c with
  | false => exact isTrue_or_nil e
  | true => exact e
theorem pw_and (ha : PT X a tA) (hb : PW X (.BoolOp .And (b :: rest) pos) tB') : PW X (.BoolOp .And (a :: b :: rest) pos) (tAnd tA tB') := by
  intro wh pins s σ H Q I h
  refine isTrue_and (thn (ha pins s σ H _ I h) fun c s1 ⟨H1, I1, q1⟩ => ?_)
  cases c with
  | true => exact hb wh pins s1 σ H1 Q I1 q1
  | false => exact ⟨H1, I1, q1⟩
theorem pw_or (ha : PT X a tA) (hb : PW X (.BoolOp .Or (b :: rest) pos) tB') : PW X (.BoolOp .Or (a :: b :: rest) pos) (tOr tA tB') := by
  intro wh pins s σ H Q I h
  refine isTrue_or (thn (ha pins s σ H _ I h) fun c s1 ⟨H1, I1, q1⟩ => ?_)
  cases c with
  | true => exact ⟨H1, I1, q1⟩
  | false => exact hb wh pins s1 σ H1 Q I1 q1
theorem pt_not (ha : PT X a tA) : PT X (.UnaryOp .Not a pos) (tNot tA) := by
  intro pins s σ H Q I h
  exact isTrue_not (ha pins s σ H (fun c H1 => Q (!c) H1) I h)
/-- .. as values (bools) -/
def tAndV (ta tb : TE) : TE := fun σ H Q => ta σ H fun x H1 => ∃ c, x = .bl c ∧ if c = true then tb σ H1 Q else Q (.bl false) H1
def tOrV (ta tb : TE) : TE := fun σ H Q => ta σ H fun x H1 => ∃ c, x = .bl c ∧ if c = true then Q (.bl true) H1 else tb σ H1 Q
def tNotV (ta : TE) : TE := fun σ H Q => ta σ H fun x H1 => ∃ c, x = .bl c ∧ Q (.bl (!c)) H1
theorem pe_one {op} {t : TE} (h : PE X a t) : PE X (.BoolOp op [a] pos) t := fun pins s σ H Q I hw => BoolOp_one (h pins s σ H Q I hw)
theorem pe_and (ha : PE X a ta) (hb : PE X (.BoolOp .And (b :: rest) pos) tb) : PE X (.BoolOp .And (a :: b :: rest) pos) (tAndV ta tb) := by
  intro pins s σ H Q I h
  refine BoolOp_and (thn (ha pins s σ H _ I h) fun v s1 ⟨x, H1, I1, r1, q1⟩ => ?_)
  obtain ⟨c, rfl, q1⟩ := q1
  cases r1
  refine wpAny_truthy_bool ?_
  cases c with
  | true => exact hb pins s1 σ H1 Q I1 q1
  | false => exact ⟨.bl false, H1, I1, rfl, q1⟩
theorem pe_or (ha : PE X a ta) (hb : PE X (.BoolOp .Or (b :: rest) pos) tb) : PE X (.BoolOp .Or (a :: b :: rest) pos) (tOrV ta tb) := by
  intro pins s σ H Q I h
  refine BoolOp_or (thn (ha pins s σ H _ I h) fun v s1 ⟨x, H1, I1, r1, q1⟩ => ?_)
  obtain ⟨c, rfl, q1⟩ := q1
  cases r1
  refine wpAny_truthy_bool ?_
  cases c with
  | false => exact hb pins s1 σ H1 Q I1 q1
  | true => exact ⟨.bl true, H1, I1, rfl, q1⟩
theorem pe_not (ha : PE X a ta) : PE X (.UnaryOp .Not a pos) (tNotV ta) := by
  intro pins s σ H Q I h
  refine UnaryOp_ (thn (ha pins s σ H _ I h) fun v s1 ⟨x, H1, I1, r1, q1⟩ => ?_)
  obtain ⟨c, rfl, q1⟩ := q1
  cases r1
  exact not_of (wpAny_truthy_bool ⟨.bl (!c), H1, I1, rfl, q1⟩)
/-- a if t else b -/
def tIf (t : TT) (ta tb : TE) : TE := fun σ H Q => t σ H fun c H1 => if c = true then ta σ H1 Q else tb σ H1 Q
theorem pe_ifExp {c : Expr} (hc : PT X c tA) (ha : PE X a ta) (hb : PE X b tb) : PE X (.IfExp c a b pos) (tIf tA ta tb) := by
  intro pins s σ H Q I h
  refine wpAny_IfExp (thn (hc pins s σ H _ I h) fun d s1 ⟨H1, I1, q1⟩ => ?_)
  cases d with
  | true => exact ha pins s1 σ H1 Q I1 q1
  | false => exact hb pins s1 σ H1 Q I1 q1
end
end L2

namespace L2
open PySem PySem.Spec PyProof.Rows

/-! ### a list, a tuple that is read: tracked, frozen, or an object of the module -/
def SqL (K : PySem.W.Frag) (H : Hp) (a : Addr) (xs : List V) : Prop :=
  Rd H a (.lst xs) ∨
    ∃ (o : Obj) (its : Array Value) (n : Nat), K.lookup a = some o ∧ o.cls = .type "list" ∧ o.dict = none ∧ o.data = .seq its n ∧ its.size ≤ sizeLine ∧ Vals xs its.toList
def SqT (K : PySem.W.Frag) (H : Hp) (a : Addr) (xs : List V) : Prop :=
  Rd H a (.tup xs) ∨
    ∃ (o : Obj) (its : Array Value) (n : Nat), K.lookup a = some o ∧ o.cls = .type "tuple" ∧ o.data = .seq its n ∧ its.size ≤ sizeLine ∧ Vals xs its.toList
def absV : Value → Option V
  | .none => some .non
  | .bool b => some (.bl b)
  | .int i _ => some (.int i)
  | .str x _ => some (.str x)
  | .bytes b _ => some (.byt b)
  | .float b _ => some (.flt b)
  | .ref a => some (.ref a)
  | .type n => some (.ty n)
  | _ => none
theorem RelV.abs {x : V} {u : Value} (r : RelV x u) : absV u = some x := by
  cases x with
  | non => cases r; rfl
  | bl _ => cases r; rfl
  | int _ => obtain ⟨t, rfl⟩ := r; rfl
  | str _ => obtain ⟨t, rfl⟩ := r; rfl
  | byt _ => obtain ⟨t, rfl⟩ := r; rfl
  | flt _ => obtain ⟨t, rfl⟩ := r; rfl
  | ref _ => cases r; rfl
  | ty _ => cases r; rfl
theorem RelV.inj {x y : V} {u : Value} (r : RelV x u) (q : RelV y u) : x = y := Option.some.inj (r.abs.symm.trans q.abs)
theorem Vals.inj : ∀ {xs ys : List V} {us : List Value}, Vals xs us → Vals ys us → xs = ys
  | _, _, _, .nil, .nil => rfl
  | _, _, _, .cons r t, .cons r' t' => by rw [r.inj r', Vals.inj t t']
section
variable {X : Cx} {pins : List (Addr × Obj)} {σ : St} {H : Hp} {s : Shared} {a : Addr} {xs ys : List V}
theorem SqL.of {K : PySem.W.Frag} (h : H a = some (.lst xs)) : SqL K H a xs := .inl (.inl h)
theorem SqT.of {K : PySem.W.Frag} (h : H a = some (.tup xs)) : SqT K H a xs := .inl (.inl h)
theorem Inv.list (I : Inv X pins σ H s) (h : SqL X.K H a xs) : ∃ its : List Value, Vals xs its ∧ PlainL s.heap a its.toArray ∧ xs.length ≤ sizeLine := by
  rcases h with h | ⟨o, its, n, hk, hc, hd, hs, hz, r⟩
  · obtain ⟨z, its, n, r, e⟩ := h.ok I.hok
    exact ⟨its, r, ⟨_, n, e, rfl, rfl, rfl⟩, z⟩
  · refine ⟨its.toList, r, ⟨o, n, I.kIn a o hk, hc, hd, by simpa using hs⟩, ?_⟩
    have e := r.length
    simp only [Array.length_toList] at e
    omega
theorem Inv.tuple (I : Inv X pins σ H s) (h : SqT X.K H a xs) : ∃ its : List Value, Vals xs its ∧ IsTup s.heap a its.toArray ∧ xs.length ≤ sizeLine := by
  rcases h with h | ⟨o, its, n, hk, hc, hs, hz, r⟩
  · obtain ⟨z, its, r, p⟩ := h.ok I.hok
    exact ⟨its, r, p, z⟩
  · refine ⟨its.toList, r, ⟨o, I.kIn a o hk, hc, n, by simpa using hs⟩, ?_⟩
    have e := r.length
    simp only [Array.length_toList] at e
    omega
theorem Inv.list_inj (I : Inv X pins σ H s) (h : SqL X.K H a xs) (h' : SqL X.K H a ys) : xs = ys := by
  obtain ⟨its, r, ⟨o, n, e, _, _, d⟩, _⟩ := I.list h
  obtain ⟨its', r', ⟨o', n', e', _, _, d'⟩, _⟩ := I.list h'
  rw [e] at e'; cases e'
  rw [d] at d'
  injection d' with d1 _
  have : its = its' := by simpa using congrArg Array.toList d1
  subst this
  exact r.inj r'
theorem Inv.tuple_inj (I : Inv X pins σ H s) (h : SqT X.K H a xs) (h' : SqT X.K H a ys) : xs = ys := by
  obtain ⟨its, r, ⟨o, e, _, n, d⟩, _⟩ := I.tuple h
  obtain ⟨its', r', ⟨o', e', _, n', d'⟩, _⟩ := I.tuple h'
  rw [e] at e'; cases e'
  rw [d] at d'
  injection d' with d1 _
  have : its = its' := by simpa using congrArg Array.toList d1
  subst this
  exact r.inj r'
end

/-! ### another wish about exceptions -/
abbrev Cx.wish (X : Cx) (E : Value → Shared → Prop) : Cx := { X with xe := E }
/-- no exception leaves -/
abbrev Cx.nox (X : Cx) : Cx := X.wish fun _ _ => False
theorem Cx.Ok.wish {X : Cx} (ok : X.Ok) (E : Value → Shared → Prop) : (X.wish E).Ok :=
  ⟨ok.mod, ok.kind, ok.glob, ok.blt, ok.above, ok.inj, ok.has, ok.cab, ok.hd, ok.frames, ok.stk, ok.exf, ok.bs, ok.bsz, ok.noex, ok.exfs, ok.funs, ok.frf⟩
theorem Cx.Ok.unwish {X : Cx} {E : Value → Shared → Prop} (ok : (X.wish E).Ok) : X.Ok :=
  ⟨ok.mod, ok.kind, ok.glob, ok.blt, ok.above, ok.inj, ok.has, ok.cab, ok.hd, ok.frames, ok.stk, ok.exf, ok.bs, ok.bsz, ok.noex, ok.exfs, ok.funs, ok.frf⟩
section
variable {X : Cx} {pins : List (Addr × Obj)} {σ : St} {H : Hp} {s : Shared} {E : Value → Shared → Prop}
theorem Inv.wish (I : Inv X pins σ H s) (E : Value → Shared → Prop) : Inv (X.wish E) pins σ H s := ⟨I.ok.wish E, I.os, I.bare, I.base, I.loc, I.cell, I.free, I.freeC, I.pin, I.hok, I.len⟩
theorem Inv.unwish (I : Inv (X.wish E) pins σ H s) : Inv X pins σ H s := ⟨I.ok.unwish, I.os, I.bare, I.base, I.loc, I.cell, I.free, I.freeC, I.pin, I.hok, I.len⟩
theorem SP.unwish {D : Ends} {f : Flow} {s' : Shared} (h : SP (X.wish E) pins D f s') : SP X pins D f s' := by
  cases f with
  | next => obtain ⟨σ', H', I, q⟩ := h; exact ⟨σ', H', I.unwish, q⟩
  | brk => obtain ⟨σ', H', I, q⟩ := h; exact ⟨σ', H', I.unwish, q⟩
  | cont => obtain ⟨σ', H', I, q⟩ := h; exact ⟨σ', H', I.unwish, q⟩
  | ret u => obtain ⟨v, σ', H', I, r, q⟩ := h; exact ⟨v, σ', H', I.unwish, r, q⟩
theorem PSs.nox {st : List Stmt} {t : TS} (h : PSs X.nox st t) : PSs X st t := fun pins s σ H D I hw =>
  wpAny_mono (h pins s σ H D (I.wish _) hw) (fun _ _ q => q.unwish) fun _ _ z => False.elim z
end

/-! ### blocks and small statements -/
section
variable {X : Cx} {st : Stmt} {rest : List Stmt} {t u : TS} {e : Expr} {te : TE} {pos : Pos}
def tNext : TS := fun D σ H => D.nx σ H
def tSeq (t u : TS) : TS := fun D σ H => t { D with nx := u D } σ H
theorem pss_nil : PSs X [] tNext := fun _ _ σ H _ I h => wpAny_execs_nil ⟨σ, H, I, h⟩
theorem pss_cons (h1 : PS X st t) (h2 : PSs X rest u) : PSs X (st :: rest) (tSeq t u) := by
  intro pins s σ H D I h
  refine wpAny_execs_cons (thn (h1 pins s σ H { D with nx := u D } I h) fun f s1 q => ?_)
  cases f with
  | next =>
    obtain ⟨σ', H', I', q⟩ := q
    exact h2 pins s1 σ' H' D I' q
  | ret v => exact q
  | brk => exact q
  | cont => exact q
/-- in a def's body nothing is shown -/
theorem Inv.quiet {pins : List (Addr × Obj)} {σ : St} {H : Hp} {s : Shared} (I : Inv X pins σ H s) : interactive X.env = false := by simp [interactive, I.ok.kind]
/-- an expression whose value is dropped -/
def tDrop (te : TE) : TS := fun D σ H => te σ H fun _ H1 => D.nx σ H1
theorem ps_expr (he : PE X e te) (hs : swapsWith e none pos.line X.env = pure false := by rfl) : PS X (.Expr e pos) (tDrop te) := by
  intro pins s σ H D I h
  exact wpAny_Expr_any (thn (he pins s σ H _ I h) fun v s1 ⟨x, H1, I1, r1, q1⟩ => ⟨σ, H1, I1, q1⟩) I.quiet hs
def tRet (te : TE) : TS := fun D σ H => te σ H D.rt
theorem ps_ret (he : PE X e te) : PS X (.Return (some e) pos) (tRet te) := by
  intro pins s σ H D I h
  exact wpAny_Return_some (thn (he pins s σ H _ I h) fun v s1 ⟨x, H1, I1, r1, q1⟩ => ⟨x, σ, H1, I1, r1, q1⟩)
def tIfS (c : TT) (t u : TS) : TS := fun D σ H => c σ H fun b H1 => if b = true then t D σ H1 else u D σ H1
theorem ps_if {c : Expr} {a b : List Stmt} {tc : TT} (hc : PT X c tc) (ha : PSs X a t) (hb : PSs X b u) : PS X (.If c a b pos) (tIfS tc t u) := by
  intro pins s σ H D I h
  refine wpAny_If (thn (hc pins s σ H _ I h) fun d s1 ⟨H1, I1, q1⟩ => ?_)
  cases d with
  | true => exact ha pins s1 σ H1 D I1 q1
  | false => exact hb pins s1 σ H1 D I1 q1
/-- code that the proof never comes to -/
def tNever : TS := fun _ _ _ => False
theorem pss_never {sts : List Stmt} : PSs X sts tNever := fun _ _ _ _ _ _ h => h.elim
end

/-! ### targets -/
abbrev TG := V → St → Hp → (St → Hp → Prop) → Prop
def PG (X : Cx) (target : Expr) (t : TG) : Prop :=
  ∀ (pins : List (Addr × Obj)) (s : Shared) (σ : St) (H : Hp) (v : V) (u : Value) (Q : St → Hp → Prop), Inv X pins σ H s → RelV v u → t v σ H Q →
    wpAny (model X.prog X.w) X.A (assign target X.env u) (fun _ s' => ∃ σ' H', Inv X pins σ' H' s' ∧ Q σ' H') X.xe s
/-- a op= b, by values -/
abbrev TIp := V → V → Hp → VK → Prop
def PIp (X : Cx) (op : Operator) (t : TIp) : Prop :=
  ∀ (pins : List (Addr × Obj)) (s : Shared) (σ : St) (H : Hp) (x y : V) (v u : Value) (Q : VK), Inv X pins σ H s → RelV x v → RelV y u → t x y H Q →
    wpAny (model X.prog X.w) X.A (inplaceOp op v u) (EP X pins σ Q) X.xe s
section
variable {X : Cx} {pos : Pos}
def gName (i : Nat) : TG := fun v σ H Q => Q (σ.set i (some v)) H
theorem pg_name {i : Nat} {x : Str} (hN : X.N.Nodup) (hi : X.N[i]? = some x) (hx : Loc X.env.scope x) (hf : X.fn x = true ∨ X.env.scope.names.lookup x = some .local := by first | exact .inl rfl | exact .inr rfl | assumption) : PG X (.Name x pos) (gName i) := by
  intro pins s σ H v u Q I r h
  exact wpAny_assign_Name (store_ok I hN hi hx r (fun s' I' => ⟨_, H, I', h⟩) hf)
/-- target = value -/
def tAsg (te : TE) (g : TG) : TS := fun D σ H => te σ H fun x H1 => g x σ H1 D.nx
/-- name = value -/
theorem ps_set {i : Nat} {x : Str} {e : Expr} {te : TE} {pos' : Pos} (hN : X.N.Nodup) (hi : X.N[i]? = some x) (hx : Loc X.env.scope x) (he : PE X e te) (hs : swapsWith e (some (.Name x pos')) pos.line X.env = pure false := by rfl) (hf : X.fn x = true ∨ X.env.scope.names.lookup x = some .local := by first | exact .inl rfl | exact .inr rfl | assumption) :
    PS X (.Assign [.Name x pos'] e pos) (tAsg te (gName i)) := by
  intro pins s σ H D I h
  refine wpAny_Assign_Name (thn (he pins s σ H _ I h) fun v s1 ⟨y, H1, I1, r1, q1⟩ => ?_) hs
  exact store_ok I1 hN hi hx r1 (fun s2 I2 => ⟨_, H1, I2, q1⟩) hf
/-- name op= e -/
def tAug (i : Nat) (te : TE) (ti : TIp) : TS := fun D σ H => ∃ x, σ[i]? = some (some x) ∧ te σ H fun y H1 => ti x y H1 fun z H2 => D.nx (σ.set i (some z)) H2
theorem ps_aug {i : Nat} {x : Str} {e : Expr} {te : TE} {op : Operator} {ti : TIp} {pos' : Pos} (hN : X.N.Nodup) (hi : X.N[i]? = some x) (hx : Loc X.env.scope x) (he : PE X e te) (ho : PIp X op ti) (hf : X.fn x = true ∨ X.env.scope.names.lookup x = some .local := by first | exact .inl rfl | exact .inr rfl | assumption) :
    PS X (.AugAssign (.Name x pos') op e pos) (tAug i te ti) := by
  intro pins s σ H D I h
  obtain ⟨v, e1, h⟩ := h
  obtain ⟨m, hn, hl⟩ := I.loc
  have vis : Vis X.env.scope x := by rcases hx with k | k; exact .inl k; exact .inr (.inl k)
  obtain ⟨u, r, l⟩ := hl i x v hi e1 vis
  refine wpAny_AugAssign_Name ?_
  have go : wpAny (model X.prog X.w) X.A (eval e X.env) (fun w s₂ => wpAny (model X.prog X.w) X.A (inplaceOp op u w) (fun r s₃ => wpAny (model X.prog X.w) X.A (storeName X.env x r) (fun _ => SP X pins D .next) X.xe s₃) X.xe s₂) X.xe s := by
    refine thn (he pins s σ H _ I h) fun w s1 ⟨y, H1, I1, r1, q1⟩ => ?_
    refine thn (ho pins s1 σ H1 v y u w _ I1 r r1 q1) fun z s2 ⟨zv, H2, I2, r2, q2⟩ => ?_
    exact store_ok I2 hN hi hx r2 (fun s3 I3 => ⟨_, H2, I3, q2⟩) hf
  rcases l with ⟨hk, hm⟩ | ⟨hk, c, hc, hcell⟩
  · exact wpAny_loadName_local I.ok.kind hk hn hm go
  · rcases hk with hk | hk
    · exact wpAny_loadName_cell I.ok.kind hk hc hcell go
    · rcases hx with k | k
      · have : X.env.scope.names.lookup x = some .free := hk
        rw [k] at this; cases this
      · have : X.env.scope.names.lookup x = some .free := hk
        rw [k] at this; cases this
/-- ints -/
def ipI (f : Int → Int → Int) : TIp := fun x y H Q => ∃ i j, x = .int i ∧ y = .int j ∧ Q (.int (f i j)) H
theorem ip_add : PIp X .Add (ipI fun i j => i + j) := by
  intro pins s σ H x y v u Q I r1 r2 h
  obtain ⟨i, j, e1, e2, q⟩ := h
  subst e1; subst e2
  obtain ⟨t, rfl⟩ := r1
  obtain ⟨t', rfl⟩ := r2
  exact iadd_int ⟨.int _, H, I.tok _, ⟨_, rfl⟩, q⟩
end

/-! ### while -/
section
variable {X : Cx} {pos : Pos}
/-- the invariant W with its measure -/
def tWhile (c : TT) (tb : TS) : TS := fun D σ H => ∃ W : Nat → St → Hp → Prop, (∃ m, W m σ H) ∧ ∀ m σ H, W m σ H →
  c σ H fun b H1 => if b = true then ∃ N : St → Hp → Prop, (∀ σ' H', N σ' H' → ∃ m', m' < m ∧ W m' σ' H') ∧ tb { D with nx := N, ct := N, bk := D.nx } σ H1 else D.nx σ H1
theorem ps_while {c : Expr} {body : List Stmt} {tc : TT} {tb : TS} (hp : PassesOwn (model X.prog X.w) X.A X.env X.xe) (hc : PT X c tc) (hb : PSs X body tb) : PS X (.While c body [] pos) (tWhile tc tb) := by
  intro pins s σ H D I h
  obtain ⟨W, ⟨m0, w0⟩, turn⟩ := h
  refine wpAny_While (codeAny_whileLoop (fun n s' => ∃ σ' H', Inv X pins σ' H' s' ∧ W n σ' H') ?_ m0 ⟨σ, H, I, w0⟩)
  rintro n s1 ⟨σ1, H1, I1, w1⟩
  refine wpAny_passesOwn hp (thn (hc pins s1 σ1 H1 _ I1 (turn n σ1 H1 w1)) fun b s2 ⟨H2, I2, q2⟩ => ?_)
  cases b with
  | true =>
    obtain ⟨N, hN, q2⟩ := q2
    rw [if_pos rfl]
    refine wpAny_passesOwn hp (thn (hb pins s2 σ1 H2 _ I2 q2) fun f s3 q3 => ?_)
    cases f with
    | next =>
      obtain ⟨σ3, H3, I3, n3⟩ := q3
      obtain ⟨m', hm, w3⟩ := hN σ3 H3 n3
      exact ⟨m', hm, σ3, H3, I3, w3⟩
    | cont =>
      obtain ⟨σ3, H3, I3, n3⟩ := q3
      obtain ⟨m', hm, w3⟩ := hN σ3 H3 n3
      exact ⟨m', hm, σ3, H3, I3, w3⟩
    | brk => exact q3
    | ret v => exact q3
  | false =>
    rw [if_neg Bool.false_ne_true]
    exact wpAny_execs_nil ⟨σ1, H2, I2, q2⟩
end

/-! ### what a loop or a comprehension walks -/
/-- at turn i: it yields x (the heap may grow), or it stops -/
structure It where
  go : Nat → Hp → Prop
  yld : Nat → Hp → V → Hp → Prop
  stop : Nat → Hp → Prop
/-- the iterator's own objects may turn: they are not the frame's, not pinned, younger than the entry (or a comprehension's own) -/
def FpOk (X : Cx) (pins : List (Addr × Obj)) (H : Hp) (b : Addr) : Prop :=
  H b = none ∧ b ≠ X.env.locals ∧ b ∉ X.fs ∧ (b ∈ X.ex ∨ X.s₀.heap.objs.size ≤ b) ∧ (∀ x c, X.env.cells.lookup x = some c → c ≠ b) ∧ ∀ p ∈ X.pn ++ pins, p.1 ≠ b
theorem Inv.fpOk {X : Cx} {pins : List (Addr × Obj)} {σ : St} {H H' : Hp} {s : Shared} {b : Addr} (I : Inv X pins σ H s) (hb : s.heap.objs.size ≤ b) (hn : H' b = none) : FpOk X pins H' b := by
  refine ⟨hn, Nat.ne_of_gt (Nat.lt_of_lt_of_le I.lt hb), I.nofs hb, .inr (Nat.le_trans I.sz hb), fun x c e z => ?_, fun p hp z => ?_⟩
  · obtain ⟨v, q⟩ := I.cell x c e
    exact absurd (Nat.lt_of_lt_of_le q.lt (by rw [z]; exact hb)) (Nat.lt_irrefl _)
  · exact absurd (Nat.lt_of_lt_of_le (Heap.lt_size (I.pin p hp).1) (by rw [z]; exact hb)) (Nat.lt_irrefl _)
structure Turn (P : Program) (w : World) (K : PySem.W.Frag) (tg : Expr) (J : It) (fp : List Addr) (it : Addr) (tn : Nat → Heap → Prop) : Prop where
  mem : it ∈ fp
  obj : ∀ i h, tn i h → ∀ b ∈ fp, ∃ o, h.get? b = some o ∧ ∀ v, o.data ≠ .cell v
  keep : ∀ i h h', tn i h → (∀ b ∈ fp, ∀ o, h.get? b = some o → h'.get? b = some o) → tn i h'
  item : ∀ (X : Cx), X.prog = P → X.w = w → X.K = K → X.calm = true → ∀ (i : Nat) (pins : List (Addr × Obj)) (s : Shared) (σ : St) (H : Hp) (E : Value → Shared → Prop), Inv X pins σ H s → (∀ b ∈ fp, FpOk X pins H b) → tn i s.heap → J.go i H →
    wpAny (model P w) X.A (pyNext (.ref it)) (fun r s1 => ∃ u, r = some u ∧
      wpAny (model P w) X.A (letOwnedTupleGo tg (.ref it) u) (fun _ s2 => ∃ x H', Inv X pins σ H' s2 ∧ RelV x u ∧ J.yld i H x H' ∧ tn (i + 1) s2.heap ∧ ∀ b ∈ fp, H' b = none) E s1) E s
  done : ∀ (X : Cx), X.prog = P → X.w = w → X.K = K → X.calm = true → ∀ (i : Nat) (pins : List (Addr × Obj)) (s : Shared) (σ : St) (H : Hp) (E : Value → Shared → Prop), Inv X pins σ H s → (∀ b ∈ fp, FpOk X pins H b) → tn i s.heap → J.stop i H →
    wpAny (model P w) X.A (pyNext (.ref it)) (fun r s1 => r = none ∧ Inv X pins σ H s1) E s
  self : ∀ (A : Around) (i : Nat) (s : Shared) (Q : Value → Shared → Prop) (E : Value → Shared → Prop), tn i s.heap → Q (.ref it) s → wpAny (model P w) A (pyIter (.ref it)) Q E s
abbrev TI := St → Hp → (It → Hp → Prop) → Prop
/-- an iterator has come -/
def PIE (X : Cx) (pins : List (Addr × Obj)) (σ : St) (tg : Expr) (R : It → Hp → Prop) (itv : Value) (s2 : Shared) : Prop :=
  ∃ (it : Addr) (fp : List Addr) (tn : Nat → Heap → Prop) (J : It) (H' : Hp), itv = .ref it ∧ Inv X pins σ H' s2 ∧ Turn X.prog X.w X.K tg J fp it tn ∧ tn 0 s2.heap ∧ (∀ b ∈ fp, FpOk X pins H' b) ∧ R J H'
def PI (X : Cx) (tg iter : Expr) (wi : TI) : Prop :=
  ∀ (pins : List (Addr × Obj)) (s : Shared) (σ : St) (H : Hp) (R : It → Hp → Prop), Inv X pins σ H s → wi σ H R →
    wpAny (model X.prog X.w) X.A (eval iter X.env) (fun v s1 => wpAny (model X.prog X.w) X.A (pyIter v) (PIE X pins σ tg R) X.xe s1) X.xe s

/-- the step ahead of the store is nothing for an iterator that keeps no tuple -/
theorem go_of {M : Model} {A : Around} {E : Value → Shared → Prop} {s : Shared} {tg : Expr} {it : Addr} {u : Value} {o : Obj} {n : String} {vs : Array Value} {Q : Unit → Shared → Prop} (ho : s.heap.get? it = some o) (hc : o.cls = .type n) (hd : o.data = .fields vs)
    (hn : ["enumerate", "zip", "dict_itemiterator", "dict_reverseitemiterator", "odict_iterator", "itertools.zip_longest", "itertools.pairwise"].contains n = false) (hQ : Q () s) : wpAny M A (letOwnedTupleGo tg (.ref it) u) Q E s := by
  unfold letOwnedTupleGo
  cases tg <;> first
    | exact wpAny_pure hQ
    | (cases u <;> first
        | exact wpAny_pure hQ
        | (refine wpAny_bind (wpAny_load ho ?_)
           rw [hc, hd]
           show wpAny M A (if (["enumerate", "zip", "dict_itemiterator", "dict_reverseitemiterator", "odict_iterator", "itertools.zip_longest", "itertools.pairwise"].contains n && vs[0]? == some (rawInt _)) = true then _ else _) Q E s
           rw [if_neg (by intro h; rw [hn, Bool.false_and] at h; cases h)]
           exact wpAny_pure hQ))

/-- the list at a, as it stands at each turn (a loop may append to it) -/
def Itl (K : PySem.W.Frag) (a : Addr) : It :=
  ⟨fun i H => ∃ xs x, SqL K H a xs ∧ xs[i]? = some x, fun i H x H' => H' = H ∧ ∀ xs, SqL K H a xs → xs[i]? = some x, fun i H => ∃ xs, SqL K H a xs ∧ xs.length ≤ i⟩
def Itt (K : PySem.W.Frag) (a : Addr) : It :=
  ⟨fun i H => ∃ xs x, SqT K H a xs ∧ xs[i]? = some x, fun i H x H' => H' = H ∧ ∀ xs, SqT K H a xs → xs[i]? = some x, fun i H => ∃ xs, SqT K H a xs ∧ xs.length ≤ i⟩
/-- lo, lo + 1, .. (n of them) -/
def Itr (lo : Int) (n : Nat) : It := ⟨fun i _ => i < n, fun i H x H' => H' = H ∧ x = .int (lo + i), fun i _ => n ≤ i⟩
theorem turn_list {P : Program} {w : World} {K : PySem.W.Frag} {tg : Expr} (a it : Addr) : Turn P w K tg (Itl K a) [it] it (fun i h => h.IsListIter it a i) where
  mem := by simp
  obj := fun i h st b hb => by
    have e : b = it := by simpa using hb
    subst e
    obtain ⟨o, e, c, d⟩ := st
    exact ⟨o, e, fun v z => by rw [d] at z; cases z⟩
  keep := fun i h h' st k => st.at fun o e => k it (by simp) o e
  item := by
    intro X hP hw hK hc i pins s σ H E I hf st hg
    subst hP hw hK
    obtain ⟨xs, x, hq, hx⟩ := hg
    obtain ⟨its, rv, p, hz⟩ := I.list hq
    obtain ⟨u, hu, ru⟩ := rv.get hx
    obtain ⟨f0, f1, f2, f3, f4, f5⟩ := hf it (by simp)
    refine wpAny_pyNext_list_item st p.isList (x := u) (by simpa using hu) fun h' st' sb => ?_
    have I1 : Inv X pins σ H { s with heap := h' } := I.turned (t' := s.toks) (fun b o hb e => (sb.2 b hb).trans e) f0 f1 f3 f4 f5
    obtain ⟨o, e, c, d⟩ := id st'
    exact ⟨u, rfl, go_of (s := { s with heap := h' }) e c d (by decide) ⟨x, H, I1, ru, ⟨rfl, fun ys hy => by rw [I.list_inj hy hq]; exact hx⟩, st', fun b hb => (hf b hb).1⟩⟩
  done := by
    intro X hP hw hK hc i pins s σ H E I hf st hg
    subst hP hw hK
    obtain ⟨xs, hq, hx⟩ := hg
    obtain ⟨its, rv, p, hz⟩ := I.list hq
    obtain ⟨f0, f1, f2, f3, f4, f5⟩ := hf it (by simp)
    have hl := rv.length
    exact wpAny_pyNext_list_end (I.ok.hd hc) st p.isList (by simp; omega) fun h' eb => ⟨rfl, I.turned (t' := s.toks) (fun b o hb e => eb b o hb e) f0 f1 f3 f4 f5⟩
  self := fun _ _ _ _ _ st h => wpAny_pyIter_listiter st h
theorem turn_tuple {P : Program} {w : World} {K : PySem.W.Frag} {tg : Expr} (a it : Addr) : Turn P w K tg (Itt K a) [it] it (fun i h => h.IsTupleIter it a i) where
  mem := by simp
  obj := fun i h st b hb => by
    have e : b = it := by simpa using hb
    subst e
    obtain ⟨o, e, c, d⟩ := st
    exact ⟨o, e, fun v z => by rw [d] at z; cases z⟩
  keep := fun i h h' st k => st.at fun o e => k it (by simp) o e
  item := by
    intro X hP hw hK hc i pins s σ H E I hf st hg
    subst hP hw hK
    obtain ⟨xs, x, hq, hx⟩ := hg
    obtain ⟨its, rv, p, hz⟩ := I.tuple hq
    obtain ⟨u, hu, ru⟩ := rv.get hx
    obtain ⟨f0, f1, f2, f3, f4, f5⟩ := hf it (by simp)
    refine wpAny_pyNext_tuple_item st (show s.heap.IsTuple a its.toArray from p) (x := u) (by simpa using hu) fun h' st' sb => ?_
    have I1 : Inv X pins σ H { s with heap := h' } := I.turned (t' := s.toks) (fun b o hb e => (sb.2 b hb).trans e) f0 f1 f3 f4 f5
    obtain ⟨o, e, c, d⟩ := id st'
    exact ⟨u, rfl, go_of (s := { s with heap := h' }) e c d (by decide) ⟨x, H, I1, ru, ⟨rfl, fun ys hy => by rw [I.tuple_inj hy hq]; exact hx⟩, st', fun b hb => (hf b hb).1⟩⟩
  done := by
    intro X hP hw hK hc i pins s σ H E I hf st hg
    subst hP hw hK
    obtain ⟨xs, hq, hx⟩ := hg
    obtain ⟨its, rv, p, hz⟩ := I.tuple hq
    obtain ⟨f0, f1, f2, f3, f4, f5⟩ := hf it (by simp)
    have hl := rv.length
    exact wpAny_pyNext_tuple_end (I.ok.hd hc) st (show s.heap.IsTuple a its.toArray from p) (by simp; omega) fun h' eb => ⟨rfl, I.turned (t' := s.toks) (fun b o hb e => eb b o hb e) f0 f1 f3 f4 f5⟩
  self := fun _ _ _ _ _ st h => wpAny_pyIter_tupleiter st h
theorem turn_range {P : Program} {w : World} {K : PySem.W.Frag} {tg : Expr} (it : Addr) (lo : Int) (n : Nat) : Turn P w K tg (Itr lo n) [it] it (fun i h => IsRangeIter h it (lo + (i : Nat) * 1) ((n : Int) - (i : Nat)) 1) where
  mem := by simp
  obj := fun i h st b hb => by
    have e : b = it := by simpa using hb
    subst e
    exact ⟨_, st, fun v z => by
      have z' : Data.fields _ = Data.cell v := z
      cases z'⟩
  keep := fun i h h' st k => k it (by simp) _ st
  item := by
    intro X hP hw hK hc i pins s σ H E I hf st hg
    subst hP hw hK
    obtain ⟨f0, f1, f2, f3, f4, f5⟩ := hf it (by simp)
    have W := Walks.range (prog := X.prog) (w := X.w) (I.ok.hd hc) it lo 1 n
    refine W.item i s _ _ hg st fun v h' tk hv st' kk => ?_
    obtain ⟨t, rfl⟩ := hv
    have I1 : Inv X pins σ H { s with heap := h', toks := tk } := I.turned (fun b o hb e => kk b o (by simpa using hb) e) f0 f1 f3 f4 f5
    refine ⟨_, rfl, go_of (s := { s with heap := h', toks := tk }) (n := "range_iterator") st' rfl rfl (by decide) ⟨.int (lo + i), H, I1, ⟨t, ?_⟩, ⟨rfl, rfl⟩, st', fun b hb => (hf b hb).1⟩⟩
    rw [Int.mul_one]
  done := by
    intro X hP hw hK hc i pins s σ H E I hf st hg
    subst hP hw hK
    obtain ⟨f0, f1, f2, f3, f4, f5⟩ := hf it (by simp)
    exact wpAny_pyNext_range_end (I.ok.hd hc) st (by have : n ≤ i := hg; omega) fun h' eb => ⟨rfl, I.turned (t' := s.toks) (fun b o hb e => eb b o hb e) f0 f1 f3 f4 f5⟩
  self := fun _ _ _ _ _ st h => wpAny_pyIter_rangeiter st h
end L2

namespace L2
open PySem PySem.Spec PyProof.Rows
section
variable {X : Cx} {tg : Expr}
def iList (K : PySem.W.Frag) (tl : TE) : TI := fun σ H R => tl σ H fun x H1 => ∃ a, x = .ref a ∧ (∃ xs, SqL K H1 a xs) ∧ R (Itl K a) H1
def iTup (K : PySem.W.Frag) (tl : TE) : TI := fun σ H R => tl σ H fun x H1 => ∃ a, x = .ref a ∧ (∃ xs, SqT K H1 a xs) ∧ R (Itt K a) H1
theorem pi_list {l : Expr} {tl : TE} (hl : PE X l tl) : PI X tg l (iList X.K tl) := by
  intro pins s σ H R I h
  refine thn (hl pins s σ H _ I h) fun v s1 ⟨x, H1, I1, r1, q1⟩ => ?_
  obtain ⟨a, e, ⟨xs, hq⟩, q⟩ := q1
  subst e
  cases r1
  obtain ⟨its, rv, p, hz⟩ := I1.list hq
  refine wpAny_pyIter_list p.isList ?_
  refine ⟨s1.heap.objs.size, [s1.heap.objs.size], _, _, H1, rfl, I1.kept (t' := s1.toks) fun b o e => Heap.get?_push_of_some _ e, turn_list a _, ⟨_, Heap.get?_push_size _ rfl, rfl, rfl⟩, fun b hb => ?_, q⟩
  have e : b = s1.heap.objs.size := by simpa using hb
  subst e
  exact I1.fpOk (Nat.le_refl _) (I1.hok.fresh (Nat.le_refl _))
theorem pi_tup {l : Expr} {tl : TE} (hl : PE X l tl) : PI X tg l (iTup X.K tl) := by
  intro pins s σ H R I h
  refine thn (hl pins s σ H _ I h) fun v s1 ⟨x, H1, I1, r1, q1⟩ => ?_
  obtain ⟨a, e, ⟨xs, hq⟩, q⟩ := q1
  subst e
  cases r1
  obtain ⟨its, rv, p, hz⟩ := I1.tuple hq
  refine wpAny_pyIter_tuple (show s1.heap.IsTuple a its.toArray from p) ?_
  refine ⟨s1.heap.objs.size, [s1.heap.objs.size], _, _, H1, rfl, I1.kept (t' := s1.toks) fun b o e => Heap.get?_push_of_some _ e, turn_tuple a _, ⟨_, Heap.get?_push_size _ rfl, rfl, rfl⟩, fun b hb => ?_, q⟩
  have e : b = s1.heap.objs.size := by simpa using hb
  subst e
  exact I1.fpOk (Nat.le_refl _) (I1.hok.fresh (Nat.le_refl _))
/-- a range object just made, walked -/
theorem range_it {pins : List (Addr × Obj)} {σ : St} {H : Hp} {s : Shared} {R : It → Hp → Prop} {E : Value → Shared → Prop} {lo hi : Int} {t u v : Tok} {tk : Nat} (I : Inv X pins σ H s) (h1 : -(2 ^ 62) ≤ lo) (h2 : lo < 2 ^ 62) (h3 : -(2 ^ 62) ≤ hi) (h4 : hi < 2 ^ 62)
    (q : R (Itr lo (hi - lo).toNat) H) : wpAny (model X.prog X.w) X.A (pyIter (.ref s.heap.objs.size)) (PIE X pins σ tg R) E { s with heap := s.heap.push { cls := .type "range", data := .fields #[.int lo t, .int hi u, .int 1 v] }, toks := tk } := by
  refine wpAny_pyIter_range (IsRange.new ..) (small_one h1 h2 h3 h4) ?_
  have I1 : Inv X pins σ H { s with heap := s.heap.push { cls := .type "range", data := .fields #[.int lo t, .int hi u, .int 1 v] }, toks := tk } := I.kept fun b o e => Heap.get?_push_of_some _ e
  refine ⟨(s.heap.push { cls := .type "range", data := .fields #[.int lo t, .int hi u, .int 1 v] }).objs.size, [(s.heap.push { cls := .type "range", data := .fields #[.int lo t, .int hi u, .int 1 v] }).objs.size], _, _, H, rfl,
    I1.kept (t' := tk) fun b o e => Heap.get?_push_of_some _ e, turn_range _ lo (hi - lo).toNat, ?_, fun b hb => ?_, q⟩
  · have e1 : lo + ((0 : Nat) : Int) * 1 = lo := by simp
    have e2 : (((hi - lo).toNat : Nat) : Int) - ((0 : Nat) : Int) = Builtin.Range.rangeSize lo hi 1 := by rw [rangeSize_one]; split <;> omega
    show IsRangeIter _ _ (lo + ((0 : Nat) : Int) * 1) ((((hi - lo).toNat : Nat) : Int) - ((0 : Nat) : Int)) 1
    rw [e1, e2]
    exact Heap.get?_push_size _ rfl
  · have e : b = (s.heap.push { cls := .type "range", data := .fields #[.int lo t, .int hi u, .int 1 v] }).objs.size := by simpa using hb
    subst e
    exact I1.fpOk (Nat.le_refl _) (I1.hok.fresh (Nat.le_refl _))
def iRng1 (ta : TA) : TI := fun σ H R => ta σ H fun vs H1 => ∃ j : Int, vs = [.int j] ∧ -(2 ^ 62) ≤ j ∧ j < 2 ^ 62 ∧ R (Itr 0 j.toNat) H1
def iRng2 (ta : TA) : TI := fun σ H R => ta σ H fun vs H1 => ∃ i j : Int, vs = [.int i, .int j] ∧ (-(2 ^ 62) ≤ i ∧ i < 2 ^ 62 ∧ -(2 ^ 62) ≤ j ∧ j < 2 ^ 62) ∧ R (Itr i (j - i).toNat) H1
theorem pi_range1 {a : Expr} {ta : TA} {p pos : Pos} (hg : Gl X "range") (hm : X.mg "range" = none) (ha : PA X [a] ta) (hs : starEach [a] X.env = [(false, eval a X.env)] := by rfl) : PI X tg (.Call (.Name "range" p) [a] [] pos) (iRng1 ta) := by
  intro pins s σ H R I h
  refine Call_ (ld_blt I hg hm boot_range (PyProof.Rows.callWith_type1 (thn (ha pos pins s σ H _ I h) fun us s1 ⟨vs, H1, I1, r1, q1⟩ => ?_) hs rfl))
  obtain ⟨j, e, q1, q2, q⟩ := q1
  subst e
  cases r1 with
  | cons r rr =>
    cases rr
    obtain ⟨t, rfl⟩ := r
    exact call_range_1 (range_it I1 (by omega) (by omega) q1 q2 (by simpa using q))
theorem pi_range2 {a b : Expr} {ta : TA} {p pos : Pos} (hg : Gl X "range") (hm : X.mg "range" = none) (ha : PA X [a, b] ta) (hs : starEach [a, b] X.env = [(false, eval a X.env), (false, eval b X.env)] := by rfl) (hs2 : starEach [b] X.env = [(false, eval b X.env)] := by rfl) :
    PI X tg (.Call (.Name "range" p) [a, b] [] pos) (iRng2 ta) := by
  intro pins s σ H R I h
  refine Call_ (ld_blt I hg hm boot_range (PyProof.Rows.callWith_type1 (thn (ha pos pins s σ H _ I h) fun us s1 ⟨vs, H1, I1, r1, q1⟩ => ?_) (by rw [hs, hs2]) (by rw [hs2]; rfl)))
  obtain ⟨i, j, e, ⟨q1, q2, q3, q4⟩, q⟩ := q1
  subst e
  cases r1 with
  | cons r rr =>
    cases rr with
    | cons r' rr =>
      cases rr
      obtain ⟨t, rfl⟩ := r
      obtain ⟨t', rfl⟩ := r'
      exact call_range_2 (range_it I1 q1 q2 q3 q4 q)

/-! ### for -/
/-- W: the invariant by the turn and a measure; N: what the body is to reach -/
def tFor (wi : TI) (g : TG) (tb : TS) : TS := fun D σ H => wi σ H fun J H1 => ∃ W : Nat → Nat → St → Hp → Prop, (∃ m, W 0 m σ H1) ∧ ∀ i m σ H, W i m σ H →
  (J.stop i H ∧ D.nx σ H) ∨ (J.go i H ∧ ∃ N : St → Hp → Prop, (∀ σ' H', N σ' H' → ∃ m', m' < m ∧ W (i + 1) m' σ' H') ∧ ∀ x H', J.yld i H x H' → g x σ H' fun σ2 H2 => tb { D with nx := N, ct := N, bk := D.nx } σ2 H2)
/-- the records at fp as they stand -/
def pinsAt (fp : List Addr) (h : Heap) : List (Addr × Obj) := fp.filterMap fun b => (h.get? b).map fun o => (b, o)
theorem mem_pinsAt {fp : List Addr} {h : Heap} {b : Addr} {o : Obj} (hb : b ∈ fp) (e : h.get? b = some o) : (b, o) ∈ pinsAt fp h := List.mem_filterMap.mpr ⟨b, hb, by rw [e]; rfl⟩
theorem of_pinsAt {fp : List Addr} {h : Heap} {p : Addr × Obj} (hp : p ∈ pinsAt fp h) : p.1 ∈ fp ∧ h.get? p.1 = some p.2 := by
  obtain ⟨b, hb, e⟩ := List.mem_filterMap.mp hp
  cases q : h.get? b with
  | none => rw [q] at e; cases e
  | some o =>
    rw [q] at e
    have e' : (b, o) = p := Option.some.inj e
    subst e'
    exact ⟨hb, q⟩
theorem Inv.pinned {pins : List (Addr × Obj)} {σ : St} {H : Hp} {s : Shared} {fp : List Addr} (I : Inv X pins σ H s) (hf : ∀ b ∈ fp, FpOk X pins H b) (ho : ∀ b ∈ fp, ∃ o, s.heap.get? b = some o ∧ ∀ v, o.data ≠ .cell v) : Inv X (pins ++ pinsAt fp s.heap) σ H s :=
  I.pins_of fun p hp => (List.mem_append.mp hp).elim (fun z => I.pin p (List.mem_append_right _ z)) fun z => by
    obtain ⟨hb, e⟩ := of_pinsAt z
    obtain ⟨f0, f1, f2, _⟩ := hf p.1 hb
    obtain ⟨o, e', d⟩ := ho p.1 hb
    rw [e] at e'; cases e'
    exact ⟨e, f0, f1, f2, d⟩
theorem Inv.unpinned {pins pl : List (Addr × Obj)} {σ : St} {H : Hp} {s : Shared} (I : Inv X (pins ++ pl) σ H s) : Inv X pins σ H s := I.pins_of fun p hp => I.pin p (List.mem_append_right _ (List.mem_append_left _ hp))
theorem ps_for {iter : Expr} {body : List Stmt} {wi : TI} {g : TG} {tb : TS} {pos : Pos} (hp : PassesOwn (model X.prog X.w) X.A X.env X.xe) (hc : X.calm = true) (hi : PI X tg iter wi) (hg : PG X tg g) (hb : PSs X body tb)
    (hs : ∀ x, foldedSetIterable iter X.env x = pure x := by intro _; rfl) : PS X (.For tg iter body [] pos) (tFor wi g tb) := by
  intro pins s σ H D I h
  refine wpAny_For (thn (hi pins s σ H _ I h) fun v s1 h1 => thn h1 fun itv s2 h2 => ?_) hs
  obtain ⟨it, fp, tn, J, H2, e, I2, T, st2, f2, W, ⟨m0, w0⟩, turn⟩ := h2
  subst e
  -- what stays true of the iterator's objects through the loop
  have stat : ∀ {H' : Hp}, (∀ b ∈ fp, H' b = none) → ∀ b ∈ fp, FpOk X pins H' b := fun hn b hb => ⟨hn b hb, (f2 b hb).2⟩
  refine codeAny_forLoop_any (fun n s' => ∃ i σ' H', Inv X pins σ' H' s' ∧ tn i s'.heap ∧ (∀ b ∈ fp, H' b = none) ∧ W i n σ' H') ?_ m0 ⟨0, σ, H2, I2, st2, fun b hb => (f2 b hb).1, w0⟩
  rintro n s3 ⟨i, σ3, H3, I3, st3, fr3, w3⟩
  rcases turn i n σ3 H3 w3 with ⟨stop, qn⟩ | ⟨go, N, hN, step⟩
  · refine wpAny_passesOwn hp (thn (T.done X rfl rfl rfl hc i pins s3 σ3 H3 X.xe I3 (stat fr3) st3 stop) fun r s4 ⟨hr, I4⟩ => ?_)
    subst hr
    exact wpAny_execs_nil ⟨σ3, H3, I4, qn⟩
  · refine wpAny_passesOwn hp (thn (T.item X rfl rfl rfl hc i pins s3 σ3 H3 X.xe I3 (stat fr3) st3 go) fun r s4 ⟨u, hr, h4⟩ => ?_)
    subst hr
    refine wpAny_passesOwn hp (thn h4 fun _ s5 ⟨x, H5, I5, r5, y5, st5, fr5⟩ => ?_)
    have I5' := I5.pinned (stat fr5) (T.obj _ _ st5)
    refine wpAny_passesOwn hp (thn (hg _ s5 σ3 H5 x u _ I5' r5 (step x H5 y5)) fun _ s6 ⟨σ6, H6, I6, q6⟩ => ?_)
    refine wpAny_passesOwn hp (thn (hb _ s6 σ6 H6 _ I6 q6) fun f s7 q7 => ?_)
    have again : ∀ {σ7 : St} {H7 : Hp}, Inv X (pins ++ pinsAt fp s5.heap) σ7 H7 s7 → N σ7 H7 → ∃ m, m < n ∧ ∃ i σ' H', Inv X pins σ' H' s7 ∧ tn i s7.heap ∧ (∀ b ∈ fp, H' b = none) ∧ W i m σ' H' := fun {σ7 H7} I7 n7 => by
      obtain ⟨m', hm, w7⟩ := hN σ7 H7 n7
      refine ⟨m', hm, i + 1, σ7, H7, I7.unpinned, T.keep _ _ _ st5 fun b hb o e => (I7.pin (b, o) (List.mem_append_right _ (List.mem_append_right _ (mem_pinsAt hb e)))).1, fun b hb => ?_, w7⟩
      obtain ⟨o, e, d⟩ := T.obj _ _ st5 b hb
      exact (I7.pin (b, o) (List.mem_append_right _ (List.mem_append_right _ (mem_pinsAt hb e)))).2.1
    cases f with
    | next => obtain ⟨σ7, H7, I7, n7⟩ := q7; exact again I7 n7
    | cont => obtain ⟨σ7, H7, I7, n7⟩ := q7; exact again I7 n7
    | brk => obtain ⟨σ7, H7, I7, q7⟩ := q7; exact ⟨σ7, H7, I7.unpinned, q7⟩
    | ret v => obtain ⟨x7, σ7, H7, I7, r7, q7⟩ := q7; exact ⟨x7, σ7, H7, I7.unpinned, r7, q7⟩
end

/-! ### the forms one uses -/
end L2

namespace L2
open PySem PySem.Spec PyProof.Rows

abbrev R2 := V → V → Hp → VK → Prop
/-- a two-place operation on values: f is binaryOp op, inplaceOp op or compareOp op -/
def OpR (X : Cx) (f : Value → Value → Sem Value) (r : R2) : Prop :=
  ∀ (pins : List (Addr × Obj)) (s : Shared) (σ : St) (H : Hp) (x y : V) (v u : Value) (Q : VK), Inv X pins σ H s → RelV x v → RelV y u → r x y H Q →
    wpAny (model X.prog X.w) X.A (f v u) (EP X pins σ Q) X.xe s
/-- a one-place operation -/
def UnR (X : Cx) (f : Value → Sem Value) (r : V → Hp → VK → Prop) : Prop :=
  ∀ (pins : List (Addr × Obj)) (s : Shared) (σ : St) (H : Hp) (x : V) (v : Value) (Q : VK), Inv X pins σ H s → RelV x v → r x H Q →
    wpAny (model X.prog X.w) X.A (f v) (EP X pins σ Q) X.xe s
/-- a call of a value that is known (a builtin, a type) with values -/
def CallR (X : Cx) (f : Value) (r : List V → Hp → VK → Prop) : Prop :=
  ∀ (pins : List (Addr × Obj)) (s : Shared) (σ : St) (H : Hp) (xs : List V) (us : List Value) (Q : VK), Inv X pins σ H s → Vals xs us → r xs H Q →
    wpAny (model X.prog X.w) X.A (call f us) (EP X pins σ Q) X.xe s
/-- a value's truth -/
def TruR (X : Cx) (r : V → Hp → (Bool → Hp → Prop) → Prop) : Prop :=
  ∀ (pins : List (Addr × Obj)) (s : Shared) (σ : St) (H : Hp) (x : V) (v : Value) (Q : Bool → Hp → Prop), Inv X pins σ H s → RelV x v → r x H Q →
    wpAny (model X.prog X.w) X.A (truthy v) (TP X pins σ Q) X.xe s

def tOp (r : R2) (ta tb : TE) : TE := fun σ H Q => ta σ H fun x H1 => tb σ H1 fun y H2 => r x y H2 Q
def tUn (r : V → Hp → VK → Prop) (ta : TE) : TE := fun σ H Q => ta σ H fun x H1 => r x H1 Q
/-- ints in, under C, and a value out -/
def rI (C : Int → Int → Prop) (g : Int → Int → V) : R2 := fun x y H Q => ∃ i j, x = .int i ∧ y = .int j ∧ C i j ∧ Q (g i j) H
def rI0 (g : Int → Int → V) : R2 := fun x y H Q => ∃ i j, x = .int i ∧ y = .int j ∧ Q (g i j) H
def rU (g : Int → V) : V → Hp → VK → Prop := fun x H Q => ∃ i, x = .int i ∧ Q (g i) H

section
variable {X : Cx} {a b c : Expr} {ta tb tc : TE} {pos : Pos}

theorem binT (ha : PE X a ta) (hb : PE X b tb) {pins : List (Addr × Obj)} {s : Shared} {σ : St} {H : Hp} {R : V → V → Hp → Prop} (I : Inv X pins σ H s)
    (h : ta σ H fun x H1 => tb σ H1 fun y H2 => R x y H2) {Q : Value → Shared → Prop} {f : Value → Value → Sem Value}
    (hf : ∀ v u s2 x y H2, Inv X pins σ H2 s2 → RelV x v → RelV y u → R x y H2 → wpAny (model X.prog X.w) X.A (f v u) Q X.xe s2) :
    wpAny (model X.prog X.w) X.A (eval a X.env) (fun v s₁ => wpAny (model X.prog X.w) X.A (eval b X.env) (fun u s₂ => wpAny (model X.prog X.w) X.A (f v u) Q X.xe s₂) X.xe s₁) X.xe s := by
  refine thn (ha pins s σ H _ I h) fun v s1 ⟨x, H1, I1, r1, q1⟩ => ?_
  refine thn (hb pins s1 σ H1 _ I1 q1) fun u s2 ⟨y, H2, I2, r2, q2⟩ => ?_
  exact hf v u s2 x y H2 I2 r1 r2 q2

theorem pe_op {op : Operator} {r : R2} (ho : OpR X (binaryOp op) r) (ha : PE X a ta) (hb : PE X b tb) : PE X (.BinOp a op b pos) (tOp r ta tb) := by
  intro pins s σ H Q I h
  exact wpAny_BinOp (binT ha hb I h fun v u s2 x y H2 I2 rx ry q => ho pins s2 σ H2 x y v u Q I2 rx ry q)
theorem pe_un {op : UnaryOp} {r : V → Hp → VK → Prop} (ho : UnR X (unaryOp op) r) (ha : PE X a ta) : PE X (.UnaryOp op a pos) (tUn r ta) := by
  intro pins s σ H Q I h
  exact UnaryOp_ (thn (ha pins s σ H _ I h) fun v s1 ⟨x, H1, I1, r1, q1⟩ => ho pins s1 σ H1 x v Q I1 r1 q1)
/-! ### ints -/
theorem opI {f : Value → Value → Sem Value} {C : Int → Int → Prop} {g : Int → Int → Int}
    (rule : ∀ (i j : Int) (t u : Tok) (s : Shared) (Q : Value → Shared → Prop) (E : Value → Shared → Prop), C i j → Q (.int (g i j) s.toks) { s with toks := s.toks + 1 } → wpAny (model X.prog X.w) X.A (f (.int i t) (.int j u)) Q E s) :
    OpR X f (rI C fun i j => .int (g i j)) := by
  intro pins s σ H x y v u Q I rx ry h
  obtain ⟨i, j, rfl, rfl, hc, q⟩ := h
  obtain ⟨t, rfl⟩ := rx
  obtain ⟨t', rfl⟩ := ry
  exact rule i j t t' s _ _ hc ⟨.int (g i j), H, I.tok _, ⟨_, rfl⟩, q⟩
theorem opI0 {f : Value → Value → Sem Value} {g : Int → Int → Int}
    (rule : ∀ (i j : Int) (t u : Tok) (s : Shared) (Q : Value → Shared → Prop) (E : Value → Shared → Prop), Q (.int (g i j) s.toks) { s with toks := s.toks + 1 } → wpAny (model X.prog X.w) X.A (f (.int i t) (.int j u)) Q E s) :
    OpR X f (rI0 fun i j => .int (g i j)) := by
  intro pins s σ H x y v u Q I rx ry h
  obtain ⟨i, j, rfl, rfl, q⟩ := h
  obtain ⟨t, rfl⟩ := rx
  obtain ⟨t', rfl⟩ := ry
  exact rule i j t t' s _ _ ⟨.int (g i j), H, I.tok _, ⟨_, rfl⟩, q⟩
theorem opB0 {f : Value → Value → Sem Value} {g : Int → Int → Bool}
    (rule : ∀ (i j : Int) (t u : Tok) (s : Shared) (Q : Value → Shared → Prop) (E : Value → Shared → Prop), Q (.bool (g i j)) s → wpAny (model X.prog X.w) X.A (f (.int i t) (.int j u)) Q E s) :
    OpR X f (rI0 fun i j => .bl (g i j)) := by
  intro pins s σ H x y v u Q I rx ry h
  obtain ⟨i, j, rfl, rfl, q⟩ := h
  obtain ⟨t, rfl⟩ := rx
  obtain ⟨t', rfl⟩ := ry
  exact rule i j t t' s _ _ ⟨.bl (g i j), H, I, rfl, q⟩

theorem op_add : OpR X (binaryOp .Add) (rI0 fun i j => .int (i + j)) := opI0 fun _ _ _ _ _ _ _ q => add_int q
theorem op_sub : OpR X (binaryOp .Sub) (rI0 fun i j => .int (i - j)) := opI0 fun _ _ _ _ _ _ _ q => sub_int q
/-- % by a positive divisor of any size -/
theorem op_mod : OpR X (binaryOp .Mod) (rI (fun _ j => 0 < j) fun i j => .int (i % j)) := opI fun i j _ _ _ _ _ hc q => by
  have h1 : (0 : Int) < j := hc
  exact mod_int' (by omega) (by rw [Int.fmod_eq_emod_of_nonneg i (by omega)]; exact q)
theorem op_modN : OpR X (binaryOp .Mod) (rI (fun _ j => j ≠ 0) fun i j => .int (i.fmod j)) := opI fun _ _ _ _ _ _ _ hc q => mod_int' hc q
theorem unI {f : Value → Sem Value} {g : Int → Int}
    (rule : ∀ (i : Int) (t : Tok) (s : Shared) (Q : Value → Shared → Prop) (E : Value → Shared → Prop), Q (.int (g i) s.toks) { s with toks := s.toks + 1 } → wpAny (model X.prog X.w) X.A (f (.int i t)) Q E s) :
    UnR X f (rU fun i => .int (g i)) := by
  intro pins s σ H x v Q I rx h
  obtain ⟨i, rfl, q⟩ := h
  obtain ⟨t, rfl⟩ := rx
  exact rule i t s _ _ ⟨.int (g i), H, I.tok _, ⟨_, rfl⟩, q⟩
theorem un_neg : UnR X (unaryOp .USub) (rU fun i => .int (-i)) := unI fun _ _ _ _ _ q => neg_int q
/-! ### bools among ints: n += (a < b) -/
end

/-! ### comparisons -/
/-- the scalars that == tells apart as data does -/
def scal : V → V → Bool
  | .non, .non => true | .non, .int _ => true | .int _, .non => true | .non, .bl _ => true | .bl _, .non => true | .non, .str _ => true | .str _, .non => true
  | .int _, .int _ => true | .bl _, .bl _ => true | .str _, .str _ => true | .byt _, .byt _ => true
  | .int _, .str _ => true | .str _, .int _ => true | .bl _, .str _ => true | .str _, .bl _ => true
  | _, _ => false
def rEq : R2 := fun x y H Q => scal x y = true ∧ Q (.bl (decide (x = y))) H
def rNe : R2 := fun x y H Q => scal x y = true ∧ Q (.bl (!decide (x = y))) H

theorem dec_int {i j : Int} : decide (V.int i = V.int j) = (i == j) := by
  rw [Bool.eq_iff_iff]
  simp
theorem dec_bl {i j : Bool} : decide (V.bl i = V.bl j) = (i == j) := by
  rw [Bool.eq_iff_iff]
  simp
theorem dec_str {i j : Str} : decide (V.str i = V.str j) = (i == j) := by
  rw [Bool.eq_iff_iff]
  simp
theorem dec_byt {i j : Array UInt8} : decide (V.byt i = V.byt j) = (i.toList == j.toList) := by
  rw [Bool.eq_iff_iff]
  cases i
  cases j
  simp

section
variable {X : Cx} {a b c : Expr} {ta tb tc : TE} {pos : Pos}
theorem fin_bl {pins : List (Addr × Obj)} {σ : St} {H : Hp} {s : Shared} {Q : VK} {k k' : Bool} (I : Inv X pins σ H s) (q : Q (.bl k) H) (e : k = k') : EP X pins σ Q (.bool k') s := by
  subst e
  exact ⟨.bl k, H, I, rfl, q⟩
theorem op_eq : OpR X (compareOp .Eq) rEq := by
  intro pins s σ H x y v u Q I rx ry h
  obtain ⟨hs, q⟩ := h
  cases x with
  | non =>
    cases rx
    cases y with
    | non => cases ry; exact PySem.EqNone.eq_none_none (fin_bl I q (by simp))
    | bl j => cases ry; exact PySem.EqNone.eq_none_bool (fin_bl I q (by simp))
    | int j => obtain ⟨t', rfl⟩ := ry; exact PySem.EqNone.eq_none_int (fin_bl I q (by simp))
    | str j => obtain ⟨t', rfl⟩ := ry; exact PySem.EqNone.eq_none_str (fin_bl I q (by simp))
    | _ => exact absurd (show false = true from hs) Bool.false_ne_true
  | bl i =>
    cases rx
    cases y with
    | non => cases ry; exact PySem.EqNone.eq_bool_none (fin_bl I q (by simp))
    | bl j => cases ry; exact eq_bool (fin_bl I q dec_bl)
    | str j => obtain ⟨t', rfl⟩ := ry; exact PySem.EqMixed.eq_bool_str (fin_bl I q (by simp))
    | _ => exact absurd (show false = true from hs) Bool.false_ne_true
  | int i =>
    obtain ⟨t, rfl⟩ := rx
    cases y with
    | non => cases ry; exact PySem.EqNone.eq_int_none (fin_bl I q (by simp))
    | int j => obtain ⟨t', rfl⟩ := ry; exact eq_int (fin_bl I q dec_int)
    | str j => obtain ⟨t', rfl⟩ := ry; exact PySem.EqMixed.eq_int_str (fin_bl I q (by simp))
    | _ => exact absurd (show false = true from hs) Bool.false_ne_true
  | str i =>
    obtain ⟨t, rfl⟩ := rx
    cases y with
    | non => cases ry; exact PySem.EqNone.eq_str_none (fin_bl I q (by simp))
    | bl j => cases ry; exact PySem.EqMixed.eq_str_bool (fin_bl I q (by simp))
    | int j => obtain ⟨t', rfl⟩ := ry; exact PySem.EqMixed.eq_str_int (fin_bl I q (by simp))
    | str j => obtain ⟨t', rfl⟩ := ry; exact eq_str (fin_bl I q dec_str)
    | _ => exact absurd (show false = true from hs) Bool.false_ne_true
  | byt i =>
    obtain ⟨t, rfl⟩ := rx
    cases y with
    | byt j => obtain ⟨t', rfl⟩ := ry; exact PySem.W.eq_bytes (fin_bl I q dec_byt)
    | _ => exact absurd (show false = true from hs) Bool.false_ne_true
  | _ => cases y <;> exact absurd (show false = true from hs) Bool.false_ne_true
theorem op_ne : OpR X (compareOp .NotEq) rNe := by
  intro pins s σ H x y v u Q I rx ry h
  obtain ⟨hs, q⟩ := h
  cases x with
  | non =>
    cases rx
    cases y with
    | non => cases ry; exact PySem.EqNone.ne_none_none (fin_bl I q (by simp))
    | bl j => cases ry; exact PySem.EqNone.ne_none_bool (fin_bl I q (by simp))
    | int j => obtain ⟨t', rfl⟩ := ry; exact PySem.EqNone.ne_none_int (fin_bl I q (by simp))
    | str j => obtain ⟨t', rfl⟩ := ry; exact PySem.EqNone.ne_none_str (fin_bl I q (by simp))
    | _ => exact absurd (show false = true from hs) Bool.false_ne_true
  | bl i =>
    cases rx
    cases y with
    | non => cases ry; exact PySem.EqNone.ne_bool_none (fin_bl I q (by simp))
    | bl j => cases ry; exact ne_bool (fin_bl I q (congrArg not dec_bl))
    | str j => obtain ⟨t', rfl⟩ := ry; exact PySem.EqMixed.ne_bool_str (fin_bl I q (by simp))
    | _ => exact absurd (show false = true from hs) Bool.false_ne_true
  | int i =>
    obtain ⟨t, rfl⟩ := rx
    cases y with
    | non => cases ry; exact PySem.EqNone.ne_int_none (fin_bl I q (by simp))
    | int j => obtain ⟨t', rfl⟩ := ry; exact ne_int (fin_bl I q (congrArg not dec_int))
    | str j => obtain ⟨t', rfl⟩ := ry; exact PySem.EqMixed.ne_int_str (fin_bl I q (by simp))
    | _ => exact absurd (show false = true from hs) Bool.false_ne_true
  | str i =>
    obtain ⟨t, rfl⟩ := rx
    cases y with
    | non => cases ry; exact PySem.EqNone.ne_str_none (fin_bl I q (by simp))
    | bl j => cases ry; exact PySem.EqMixed.ne_str_bool (fin_bl I q (by simp))
    | int j => obtain ⟨t', rfl⟩ := ry; exact PySem.EqMixed.ne_str_int (fin_bl I q (by simp))
    | str j => obtain ⟨t', rfl⟩ := ry; exact ne_str (fin_bl I q (congrArg not dec_str))
    | _ => exact absurd (show false = true from hs) Bool.false_ne_true
  | byt i =>
    obtain ⟨t, rfl⟩ := rx
    cases y with
    | byt j => obtain ⟨t', rfl⟩ := ry; exact PySem.W.ne_bytes (fin_bl I q (congrArg not dec_byt))
    | _ => exact absurd (show false = true from hs) Bool.false_ne_true
  | _ => cases y <;> exact absurd (show false = true from hs) Bool.false_ne_true

theorem op_lt : OpR X (compareOp .Lt) (rI0 fun i j => .bl (decide (i < j))) := opB0 fun _ _ _ _ _ _ _ q => lt_int q
theorem op_le : OpR X (compareOp .LtE) (rI0 fun i j => .bl (decide (i ≤ j))) := opB0 fun _ _ _ _ _ _ _ q => le_int q
theorem op_gt : OpR X (compareOp .Gt) (rI0 fun i j => .bl (decide (j < i))) := opB0 fun _ _ _ _ _ _ _ q => gt_int q
theorem op_ge : OpR X (compareOp .GtE) (rI0 fun i j => .bl (decide (j ≤ i))) := opB0 fun _ _ _ _ _ _ _ q => ge_int q
theorem nomark (b : Expr) {op : CmpOp} (h : op ≠ .In := by decide) (h2 : op ≠ .NotIn := by decide) : behindInMarks op b = false := by
  have e1 : (op == CmpOp.In) = false := by cases op <;> first | rfl | exact absurd rfl h
  have e2 : (op == CmpOp.NotIn) = false := by cases op <;> first | rfl | exact absurd rfl h2
  cases b <;> simp [behindInMarks, e1, e2]
/-- a comparison as a value; hm: nomark b, or (for in, not in) by with_unfolding_all rfl -/
theorem pe_cmpR {op : CmpOp} {r : R2} (ho : OpR X (compareOp op) r) (ha : PE X a ta) (hb : PE X b tb) (hm : behindInMarks op b = false) : PE X (.Compare a [op] [b] pos) (tOp r ta tb) := by
  intro pins s σ H Q I h
  exact wpAny_Compare1 (binT ha hb I h fun v u s2 x y H2 I2 rx ry q => ho pins s2 σ H2 x y v u Q I2 rx ry q) hm
/-- a reading of a value as a test -/
def tTest (t : TE) : TT := fun σ H Q => t σ H fun x H' => ∃ k, x = .bl k ∧ Q k H'
theorem pt_cmpR {op : CmpOp} {r : R2} (ho : OpR X (compareOp op) r) (ha : PE X a ta) (hb : PE X b tb) (hm : behindInMarks op b = false) : PT X (.Compare a [op] [b] pos) (tTest (tOp r ta tb)) := by
  intro pins s σ H Q I h
  refine wpAny_isTrue_Compare1 (thn (ha pins s σ H _ I h) fun v s1 ⟨x, H1, I1, r1, q1⟩ => thn (hb pins s1 σ H1 _ I1 q1) fun u s2 ⟨y, H2, I2, r2, q2⟩ =>
    thn (ho pins s2 σ H2 x y v u _ I2 r1 r2 q2) fun c s3 ⟨z, H3, I3, r3, k, e, q3⟩ => ?_) hm
  subst e
  cases r3
  exact wpAny_truthy_bool ⟨H3, I3, q3⟩
/-- a op1 b op2 c -/
def tChain (r r' : R2) (ta tb tc : TE) : TE := fun σ H Q => ta σ H fun x H1 => tb σ H1 fun y H2 => r x y H2 fun z H3 => ∃ k, z = .bl k ∧
  (if k = true then tc σ H3 fun w' H4 => r' y w' H4 Q else Q (.bl false) H3)
theorem pt_chain {op op' : CmpOp} {r r' : R2} (ho : OpR X (compareOp op) r) (ho' : OpR X (compareOp op') r') (ha : PE X a ta) (hb : PE X b tb) (hc : PE X c tc)
    (hm : lastMarks [op, op'] [b, c] = false := by with_unfolding_all rfl) : PT X (.Compare a [op, op'] [b, c] pos) (tTest (tChain r r' ta tb tc)) := by
  intro pins s σ H Q I h
  refine isTrue_chain (thn (ha pins s σ H _ I h) fun v s1 ⟨x, H1, I1, r1, q1⟩ => test_link (thn (hb pins s1 σ H1 _ I1 q1) fun u s2 ⟨y, H2, I2, r2, q2⟩ =>
    thn (ho pins s2 σ H2 x y v u _ I2 r1 r2 q2) fun d s3 ⟨z, H3, I3, r3, k, e, q3⟩ => ?_)) hm
  subst e
  cases r3
  refine wpAny_truthy_bool ?_
  cases k with
  | false =>
    obtain ⟨k', e', q'⟩ := q3
    cases e'
    exact ite_ff ⟨H3, I3, q'⟩
  | true =>
    refine ite_tt (test_last (thn (hc pins s3 σ H3 _ I3 q3) fun w' s4 ⟨z', H4, I4, r4, q4⟩ => thn (ho' pins s4 σ H4 y z' u w' _ I4 r2 r4 q4) fun d' s5 ⟨z2, H5, I5, r5, k2, e2, q5⟩ => ?_))
    subst e2
    cases r5
    exact wpAny_truthy_bool ⟨H5, I5, q5⟩

/-! ### truth -/
/-- a value's truth by the abstract heap -/
def TruV (K : PySem.W.Frag) (x : V) (H : Hp) (k : Bool) : Prop :=
  match x with
  | .non => k = false
  | .bl b => k = b
  | .int i => k = (i != 0)
  | .str y => y.length ≤ sizeLine ∧ k = ((y.length : Int) != 0)
  | .byt y => y.size ≤ sizeLine ∧ k = ((y.size : Int) != 0)
  | .ref p => (∃ xs, SqL K H p xs ∧ k = !xs.isEmpty) ∨ (∃ xs, SqT K H p xs ∧ k = !xs.isEmpty) ∨ ∃ kvs, H p = some (.dK kvs) ∧ k = !kvs.isEmpty
  | _ => False
theorem isEmpty_kv {κ : Type} {kvs : List (κ × V)} {vs : List (κ × Value)} (r : KV kvs vs) : (!vs.isEmpty) = !kvs.isEmpty := by
  cases r <;> rfl
theorem isEmpty_of {xs : List V} {its : List Value} (r : Vals xs its) : (!its.toArray.isEmpty) = !xs.isEmpty := by
  cases r <;> simp
theorem line63 : (sizeLine : Nat) < 2 ^ 63 := by rw [sizeLine_eq]; decide
theorem tru_ok : TruR X (fun x H Q => ∃ k, TruV X.K x H k ∧ Q k H) := by
  intro pins s σ H x v Q I rx h
  obtain ⟨k, e, q⟩ := h
  have hl := line63
  have hs : sizeLine = 16777216 := sizeLine_eq
  cases x with
  | non =>
    cases rx
    have e' : k = false := e
    subst e'
    exact truthy_none ⟨H, I, q⟩
  | bl b =>
    cases rx
    have e' : k = b := e
    subst e'
    exact wpAny_truthy_bool ⟨H, I, q⟩
  | int i =>
    obtain ⟨t, rfl⟩ := rx
    have e' : k = (i != 0) := e
    subst e'
    exact PySem.P.truthy_int ⟨H, I, q⟩
  | str y =>
    obtain ⟨t, rfl⟩ := rx
    obtain ⟨hy, e'⟩ : y.length ≤ sizeLine ∧ k = ((y.length : Int) != 0) := e
    subst e'
    exact PySem.P.truthy_str (by omega) ⟨H, I.tok _, q⟩
  | byt y =>
    obtain ⟨t, rfl⟩ := rx
    obtain ⟨hy, e'⟩ : y.size ≤ sizeLine ∧ k = ((y.size : Int) != 0) := e
    subst e'
    exact PySem.W.truthy_bytes (by omega) ⟨H, I.tok _, q⟩
  | ref p =>
    cases rx
    have e' : (∃ xs, SqL X.K H p xs ∧ k = !xs.isEmpty) ∨ (∃ xs, SqT X.K H p xs ∧ k = !xs.isEmpty) ∨ ∃ kvs, H p = some (.dK kvs) ∧ k = !kvs.isEmpty := e
    rcases e' with ⟨xs, hx, e'⟩ | ⟨xs, hx, e'⟩ | ⟨kvs, hx, e'⟩
    · subst e'
      obtain ⟨its, r, pl, hz⟩ := I.list hx
      have hlen := r.length
      exact wpAny_truthy_list pl.isList (by simp only [List.size_toArray]; omega) ⟨H, I.tok _, by rw [isEmpty_of r]; exact q⟩
    · subst e'
      obtain ⟨its, r, pl, hz⟩ := I.tuple hx
      have hlen := r.length
      exact truthy_tuple pl (by simp only [List.size_toArray]; omega) ⟨H, I.tok _, by rw [isEmpty_of r]; exact q⟩
    · subst e'
      obtain ⟨hz, hS, vs, r, m⟩ : kvs.length ≤ sizeLine ∧ (p == sysModules) = false ∧ ∃ vs, KV kvs vs ∧ s.heap.DictOf (mixKind X.prog X.w) p vs := I.hok p _ hx
      have hlen : kvs.length = vs.length := Paired.length r
      exact wpAny_truthy_dict hS m (by omega) ⟨H, I.tok _, by rw [isEmpty_kv r]; exact q⟩
  | _ => exact (show False from e).elim
/-! ### strs and bytes -/
/-! ### scalar builtins, by CallR -/
theorem vals1 {x : V} {us : List Value} (r : Vals [x] us) : ∃ u, us = [u] ∧ RelV x u := by
  cases r with
  | cons r1 r2 => cases r2; exact ⟨_, rfl, r1⟩
theorem vals2 {x y : V} {us : List Value} (r : Vals [x, y] us) : ∃ u w', us = [u, w'] ∧ RelV x u ∧ RelV y w' := by
  cases r with
  | cons r1 r2 =>
    cases r2 with
    | cons r3 r4 => cases r4; exact ⟨_, _, rfl, r1, r3⟩
theorem call_abs : CallR X (.builtin "abs") (fun xs H Q => ∃ i, xs = [.int i] ∧ Q (.int (if i < 0 then -i else i)) H) := by
  intro pins s σ H xs us Q I r h
  obtain ⟨i, rfl, q⟩ := h
  obtain ⟨u, rfl, t, rfl⟩ := vals1 r
  exact call_abs_int fun u tk => ⟨.int (if i < 0 then -i else i), H, I.tok _, ⟨_, rfl⟩, q⟩
/-- len of a str, a bytes, a list, a tuple -/
def LenV (K : PySem.W.Frag) (x : V) (H : Hp) (n : Nat) : Prop :=
  match x with
  | .str y => y.length ≤ sizeLine ∧ n = y.length
  | .byt y => y.size ≤ sizeLine ∧ n = y.size
  | .ref p => (∃ xs, SqL K H p xs ∧ n = xs.length) ∨ ∃ xs, SqT K H p xs ∧ n = xs.length
  | _ => False
theorem call_len : CallR X (.builtin "len") (fun xs H Q => ∃ x n, xs = [x] ∧ LenV X.K x H n ∧ Q (.int n) H) := by
  intro pins s σ H xs us Q I r h
  obtain ⟨x, n, rfl, e, q⟩ := h
  obtain ⟨u, rfl, rx⟩ := vals1 r
  have hl := line63
  have hs : sizeLine = 16777216 := sizeLine_eq
  cases x with
  | str y =>
    obtain ⟨t, rfl⟩ := rx
    obtain ⟨hy, e'⟩ : y.length ≤ sizeLine ∧ n = y.length := e
    subst e'
    exact len_str (by omega) ⟨.int _, H, I.tok _, ⟨_, rfl⟩, q⟩
  | byt y =>
    obtain ⟨t, rfl⟩ := rx
    obtain ⟨hy, e'⟩ : y.size ≤ sizeLine ∧ n = y.size := e
    subst e'
    exact PySem.W.len_bytes (by omega) ⟨.int _, H, I.tok _, ⟨_, rfl⟩, q⟩
  | ref p =>
    cases rx
    have e' : (∃ xs, SqL X.K H p xs ∧ n = xs.length) ∨ ∃ xs, SqT X.K H p xs ∧ n = xs.length := e
    rcases e' with ⟨xs, hx, e'⟩ | ⟨xs, hx, e'⟩
    · subst e'
      obtain ⟨its, r', pl, hz⟩ := I.list hx
      have hlen := r'.length
      exact Calls.call_len_list pl.isList (by simp only [List.size_toArray]; omega) ⟨.int xs.length, H, I.tok _, ⟨_, by simp only [List.size_toArray]; rw [hlen]⟩, q⟩
    · subst e'
      obtain ⟨its, r', pl, hz⟩ := I.tuple hx
      have hlen := r'.length
      exact len_tuple pl (by simp only [List.size_toArray]; omega) ⟨.int xs.length, H, I.tok _, ⟨_, by simp only [List.size_toArray]; rw [hlen]⟩, q⟩
  | _ => exact (show False from e).elim
end
end L2

namespace L2
open PySem PySem.Spec PyProof.Rows

/-! ### an instance, its attributes a map -/
structure ObjM (h : Heap) (x dx C : Addr) (mA : Str → Option Value) : Prop where
  obj : h.get? x = some (PySem.W.instObj C dx)
  ns : h.Ns1 dx mA
  ne : dx ≠ x

theorem lookIn_ns {h : Heap} {dx : Addr} {mA : Str → Option Value} (n : h.Ns1 dx mA) : ∃ od, h.get? dx = some od ∧ ∀ name, PySem.W.lookIn name od = some (mA name) := by
  obtain ⟨o, es, ep, ho, hd, hk, _, hm⟩ := n
  refine ⟨o, ho, fun name => ?_⟩
  have e := hm name
  unfold nsFind findBy at e
  rw [← Array.find?_toList] at e
  unfold PySem.W.lookIn
  rw [hd]
  dsimp only
  split
  · rename_i y q
    rw [q] at e
    exact congrArg some e
  · rename_i q
    rw [q] at e
    have a : es.toList.any (·.refKey) = false := by
      rw [List.any_eq_false]
      intro y hy
      obtain ⟨z, t, hkey⟩ := hk y (Array.mem_toList_iff.mp hy)
      simp [DictEntry.refKey, hkey]
    have a' : ¬ es.toList.any (·.refKey) = true := by rw [a]; exact Bool.false_ne_true
    rw [if_neg a']
    exact congrArg some e

theorem ObjM.look {h : Heap} {x dx C : Addr} {mA : Str → Option Value} (I : ObjM h x dx C mA) : ∃ od, PySem.W.InstAt h x (PySem.W.instObj C dx) C (some od) ∧ ∀ name, PySem.W.lookIn name od = some (mA name) :=
  let ⟨od, ho, hl⟩ := lookIn_ns I.ns
  ⟨od, ⟨I.obj, rfl, rfl, ho⟩, hl⟩

section
variable {prog : Program} {w : World} {A : Around} {E : Value → Shared → Prop} {s : Shared} {K : PySem.W.Frag} {x dx C f : Addr} {mA : Str → Option Value} {name : Str} {v : Value}

end

/-! ### the attributes as a list of pairs -/
section
variable {P : Program} {w : World} {H H' : Hp} {h h' : Heap} {a C dx : Addr} {fs fs' : List (Str × V)}
theorem ins_get (hok : HOk P w H h) (e : H a = some (.ins C dx fs)) : ∃ mA, ObjM h a dx C mA ∧ (∀ f, RelO (fs.lookup f) (mA f)) ∧ PySem.Within mA (fs.map (·.1)) ∧ fs.length ≤ 1000 ∧ H dx = some (.own a) := by
  obtain ⟨d, z, ne, ob, mA, n, r, q⟩ := (show ObjOk P w H h a (.ins C dx fs) from hok a _ e)
  exact ⟨mA, ⟨ob, n, ne⟩, r, q, z, d⟩
end

/-! ### what of the text a class must have -/
structure Cls (K : PySem.W.Frag) (C : Addr) : Prop where
  pg : PySem.W.plainGet K C Str.empty = true
  hd : PySem.W.hasDictIn K C = true
  po : PySem.W.plainOver K C = true
  sa : PySem.W.findIn K (.ref C) "__setattr__" = some (some (.builtin "object.__setattr__"))
theorem Cls.get {K : PySem.W.Frag} {C : Addr} (c : Cls K C) (f : Str) : PySem.W.plainGet K C f = true := c.pg
section
variable {X : Cx} {pins : List (Addr × Obj)} {σ : St} {H : Hp} {s : Shared} {a C dx : Addr} {fs : List (Str × V)} {f : Str} {v : V} {A : Around} {E : Value → Shared → Prop}

end

/-! ### readings and rules -/
section
variable {X : Cx} {o e value : Expr} {f : Str} {pos pos' tpos : Pos} {ta tv : TE}
end

/-! ### isinstance -/
section
variable {X : Cx} {pins : List (Addr × Obj)} {σ : St} {H : Hp} {s : Shared} {A : Around} {E : Value → Shared → Prop} {Q : Value → Shared → Prop} {c : Value} {b : Bool}
/-- the type of a value, as the fragment's deciders take it; for an instance its class -/
inductive TyOf (K : PySem.W.Frag) (H : Hp) : V → Value → Prop where
  | non : TyOf K H .non (.type "NoneType")
  | bl (x : Bool) : TyOf K H (.bl x) (.type "bool")
  | int (i : Int) : TyOf K H (.int i) (.type "int")
  | str (x : Str) : TyOf K H (.str x) (.type "str")
  | flt (x : UInt64) : TyOf K H (.flt x) (.type "float")
  | lst {a : Addr} {xs : List V} (e : H a = some (.lst xs)) : TyOf K H (.ref a) (.type "list")
  | frz {a : Addr} {o : Obj} {xs : List V} (e : H a = some (.frz o (.lst xs))) : TyOf K H (.ref a) (.type "list")
  | tup {a : Addr} {xs : List V} (e : H a = some (.tup xs)) : TyOf K H (.ref a) (.type "tuple")
  | dK {a : Addr} {kvs : List (Key × V)} (e : H a = some (.dK kvs)) : TyOf K H (.ref a) (.type "dict")
  | dT {a : Addr} {kvs : List (List Key × V)} (e : H a = some (.dT kvs)) : TyOf K H (.ref a) (.type "dict")
  | ins {a C dx : Addr} {fs : List (Str × V)} (e : H a = some (.ins C dx fs)) (cl : Cls K C) (ha : PySem.W.findIn K (.ref C) "__class__" = some (some (.builtin "object.__class__")))
      (hn : PySem.W.specialIn K (.builtin "object.__class__") "__get__" = some (some (.builtin "getset_descriptor.__get__"))) (htk : PySem.W.takesIn K (.builtin "object.__class__") = some true)
      (hm : PySem.W.mroIn K C (.type "object") = some true) : TyOf K H (.ref a) (.ref C)
/-- isinstance(x, c) for one class c, a built-in or an own one: kitOne's answer -/
theorem isinst_ok {x : V} {u t : Value} (I : Inv X pins σ H s) (rx : RelV x u) (ty : TyOf X.K H x t) (e : PySem.W.kitOne X.K t c = some b) (h : ∀ tk, Q (.bool b) { s with toks := tk }) :
    wpAny (model X.prog X.w) A (call (.builtin "isinstance") [u, c]) Q E s := by
  cases ty with
  | non => cases (show u = Value.none from rx); exact PySem.W.kia_one PySem.W.kitx_none I.kIn True.intro e (fun z => nomatch z) h
  | bl y => cases (show u = Value.bool y from rx); exact PySem.W.kia_one PySem.W.kitx_bool I.kIn True.intro e (fun z => nomatch z) h
  | int i => obtain ⟨t, q⟩ := (show ∃ t, u = Value.int i t from rx); cases q; exact PySem.W.kia_one PySem.W.kitx_int I.kIn True.intro e (fun z => nomatch z) h
  | str y => obtain ⟨t, q⟩ := (show ∃ t, u = Value.str y t from rx); cases q; exact PySem.W.kia_one PySem.W.kitx_str I.kIn True.intro e (fun z => nomatch z) h
  | flt y => obtain ⟨t, q⟩ := (show ∃ t, u = Value.float y t from rx); cases q; exact PySem.W.kia_one PySem.W.kitx_float I.kIn True.intro e (fun z => nomatch z) h
  | @lst a xs ea =>
    cases (show u = Value.ref a from rx)
    obtain ⟨_, _, n, _, h1⟩ := (show ObjOk X.prog X.w H s.heap a (.lst xs) from I.hok a _ ea)
    exact PySem.W.kia_one PySem.W.kitx_list I.kIn ⟨_, h1, rfl⟩ e (fun z => nomatch z) h
  | @frz a ob xs ea =>
    cases (show u = Value.ref a from rx)
    obtain ⟨_, _, _, n, _, h1⟩ := (show ObjOk X.prog X.w H s.heap a (.frz ob (.lst xs)) from I.hok a _ ea)
    exact PySem.W.kia_one PySem.W.kitx_list I.kIn ⟨_, h1, rfl⟩ e (fun z => nomatch z) h
  | @tup a xs ea =>
    cases (show u = Value.ref a from rx)
    obtain ⟨_, _, _, p⟩ := (show ObjOk X.prog X.w H s.heap a (.tup xs) from I.hok a _ ea)
    obtain ⟨o, h1, h2, _⟩ := p
    exact PySem.W.kia_one PySem.W.kitx_tuple I.kIn ⟨o, h1, h2⟩ e (fun z => nomatch z) h
  | @dK a kvs ea =>
    cases (show u = Value.ref a from rx)
    obtain ⟨_, _, vs, _, p⟩ := (show ObjOk X.prog X.w H s.heap a (.dK kvs) from I.hok a _ ea)
    obtain ⟨o, es, ep, h1, h2, _⟩ := p
    exact PySem.W.kia_one PySem.W.kitx_dict I.kIn ⟨o, h1, h2.1⟩ e (fun z => nomatch z) h
  | @dT a kvs ea =>
    cases (show u = Value.ref a from rx)
    obtain ⟨_, _, xs, _, o, es, ep, h1, h2, _⟩ := (show ObjOk X.prog X.w H s.heap a (.dT kvs) from I.hok a _ ea)
    exact PySem.W.kia_one PySem.W.kitx_dict I.kIn ⟨o, h1, h2.1⟩ e (fun z => nomatch z) h
  | @ins a C dx fs ea cl ha hn htk hm =>
    cases (show u = Value.ref a from rx)
    obtain ⟨mA, O, _⟩ := ins_get I.hok ea
    obtain ⟨od, J, _⟩ := O.look
    exact PySem.W.kia_one (PySem.W.kitx_own (cl.get _) cl.hd ha hn htk hm) I.kIn J e (fun z => nomatch z) h
end
end L2

namespace L2
open PySem PySem.Spec PyProof.Rows

/-! ### room -/
structure Room (k : Nat) (A : Around) : Prop where
  hd : A.handled = none
  dp : A.depth + 3 * k + 5 < recursionLimit
  un : A.units + 16 * k + 200 < cLine
theorem Room.mono {j k : Nat} {A : Around} (r : Room k A) (h : j ≤ k) : Room j A := ⟨r.hd, by have := r.dp; omega, by have := r.un; omega⟩
theorem Room.deeper {k : Nat} {A : Around} (r : Room (k + 1) A) (env : Env) : Room k (A.deeper env) :=
  ⟨r.hd, by have := r.dp; show A.depth + 1 + 3 * k + 5 < _; omega, by have := r.un; show A.units + 3 + 16 * k + 200 < _; omega⟩
theorem Room.depth {k : Nat} {A : Around} (r : Room k A) : A.depth < recursionLimit := by have := r.dp; omega
theorem Room.units {k : Nat} {A : Around} (r : Room k A) : A.units + 64 < cLine := by have := r.un; omega
/-! ### argument lists and displays -/
def tNil : TA := fun _ H Q => Q [] H
def tCons (ta : TE) (tr : TA) : TA := fun σ H Q => ta σ H fun x H1 => tr σ H1 fun xs H2 => Q (x :: xs) H2
section
variable {X : Cx} {e : Expr} {es : List Expr} {te : TE} {t : TA} {pos : Pos}
theorem pa_nil : PA X [] tNil := fun _ _ _ _ H Q I h => Calls.spliced_nil ⟨[], H, I, .nil, h⟩
theorem pa_cons (ha : PE X e te) (hr : PA X es t) (hs : starEach (e :: es) X.env = (false, eval e X.env) :: starEach es X.env := by rfl) : PA X (e :: es) (tCons te t) := by
  intro pos pins s σ H Q I h
  rw [hs]
  show wpAny _ _ (spliced ((false, eval e X.env) :: backTo pos (starEach es X.env))) _ _ s
  refine Calls.spliced_cons (thn (ha pins s σ H _ I h) fun u s1 ⟨x, H1, I1, r1, q1⟩ => ?_)
  exact thn (hr pos pins s1 σ H1 _ I1 q1) fun us s2 ⟨xs, H2, I2, r2, q2⟩ => ⟨x :: xs, H2, I2, .cons r1 r2, q2⟩

/-- a tuple, a list of written items -/
def tTup (t : TA) : TE := fun σ H Q => t σ H fun xs H1 => xs.length ≤ sizeLine ∧ ∀ p, H1 p = none → Q (.ref p) (upd H1 p (.tup xs))
def tLst (t : TA) : TE := fun σ H Q => t σ H fun xs H1 => xs.length ≤ sizeLine ∧ ∀ p, H1 p = none → Q (.ref p) (upd H1 p (.lst xs))
theorem pe_tup {x1} (h : PA X es t) : PE X (.Tuple es x1 pos) (tTup t) := by
  intro pins s σ H Q I hq
  refine wpAny_Tuple_spliced (thn (h pos pins s σ H _ I hq) fun us s1 ⟨xs, H1, I1, r, z, q⟩ => ⟨by rw [← r.length]; exact z, ?_⟩)
  have hf : H1 s1.heap.objs.size = none := I1.hok.fresh (Nat.le_refl _)
  refine ⟨.ref s1.heap.objs.size, upd H1 s1.heap.objs.size (.tup xs), I1.laid (t' := s1.toks) (fun b u e => Heap.get?_push_of_some _ e) (Nat.le_refl _) ?_, rfl, q _ hf⟩
  exact ⟨z, us, r, ⟨_, Heap.get?_push_size _ rfl, rfl, _, rfl⟩⟩
theorem pe_lst (h : PA X es t) : PE X (.List es pos) (tLst t) := by
  intro pins s σ H Q I hq
  refine wpAny_List_spliced (thn (h pos pins s σ H _ I hq) fun us s1 ⟨xs, H1, I1, r, z, q⟩ => ⟨by rw [← r.length]; exact z, ?_⟩)
  have hf : H1 s1.heap.objs.size = none := I1.hok.fresh (Nat.le_refl _)
  refine ⟨.ref s1.heap.objs.size, upd H1 s1.heap.objs.size (.lst xs), I1.laid (t' := s1.toks) (fun b u e => Heap.get?_push_of_some _ e) (Nat.le_refl _) ?_, rfl, q _ hf⟩
  exact ⟨z, us, 0, r, Heap.get?_push_size _ rfl⟩
end

/-! ### what a def promises -/
/-- a def's promise: the bound arguments in the parameters' order, the heap, the wanted end, the wanted exception -/
abbrev Sp := List V → Hp → VK → XK → Prop
/-- how an exception lies behind a call (file 08 gives it): the callers' frames, abstract heap and state ahead of the call, the wish, the exception, the state -/
abbrev CXT := List Env → Hp → Shared → XK → Value → Shared → Prop

/-- the state at a call -/
structure Env0 (P : Program) (w : World) (K : PySem.W.Frag) (mg : Str → Option Value) (base : Heap) (A : Around) (outer : List Env) (s : Shared) (H : Hp) : Prop where
  frames : A.frames = some outer
  mod : Mod K mg base
  bs : ∀ b o, base.get? b = some o → s.heap.get? b = some o ∧ H b = none
  bsz : base.objs.size ≤ s.heap.objs.size
  funs : s.heap.FunFrames base outer
  frf : ∀ b ∈ frs outer, H b = none
  hok : HOk P w H s.heap
  bare : AllBare s.gens
/-- a call's end -/
def CE (outer : List Env) (P : Program) (w : World) (H : Hp) (s : Shared) (Q : VK) (u : Value) (s' : Shared) : Prop :=
  ∃ v H', s'.os = s.os ∧ AllBare s'.gens ∧ Un (frs outer) [] H H' s.heap s'.heap ∧ HOk P w H' s'.heap ∧ RelV v u ∧ Q v H'
def CR (CX : CXT) (outer : List Env) (P : Program) (w : World) (H : Hp) (s : Shared) (Q : VK) (E : XK) (r : Result) (s' : Shared) : Prop :=
  match r with
  | .ok (.ret u) => CE outer P w H s Q u s'
  | .ok _ => False
  | .error e => CX outer H s E e s'
structure FnOk (P : Program) (w : World) (K : PySem.W.Frag) (mg : Str → Option Value) (base : Heap) (CX : CXT) (k : Nat) (f : Addr) (fd : FuncData) (ps : List Str) (sp : Sp) : Prop where
  len : ∀ vs H Q E, sp vs H Q E → vs.length = ps.length
  run : ∀ (A : Around) (outer : List Env) (s : Shared) (H : Hp) (args : Args) (us : List Value) (vs : List V) (Q : VK) (E : XK), Room k A → Env0 P w K mg base A outer s H → BindsTo s fd args (ps.zip us) → Vals vs us → sp vs H Q E →
    codeAny (model P w) A (.call (.ref f) args) (CR CX outer P w H s Q E) s
section
variable {X : Cx} {pins : List (Addr × Obj)} {σ : St} {H : Hp} {s s' : Shared}
/-- from a body: what a callee wants -/
theorem Inv.env0 (I : Inv X pins σ H s) : Env0 X.prog X.w X.K X.mg X.base X.A X.stack s H :=
  ⟨I.ok.frames, I.ok.mod, I.bs, Nat.le_trans I.ok.bsz I.sz, I.stack, I.stkFree, I.hok, I.bare⟩
/-- behind a call -/
theorem Inv.after {Q : VK} {u : Value} (I : Inv X pins σ H s) (h : CE X.stack X.prog X.w H s Q u s') : EP X pins σ Q u s' := by
  obtain ⟨v, H', os, bare, un, hok, r, q⟩ := h
  obtain ⟨hh, g, d, t, os'⟩ := s'
  obtain rfl : os' = s.os := os
  exact ⟨v, H', I.call (h' := hh) (g' := g) (d' := d) (t' := t) (ch := []) un hok bare (fun b z => absurd z (by simp)), r, q⟩
end

/-! ### calls -/
/-- f(..): the written arguments, then the defaults dvs; E: what is wanted of an exception -/
def tCall (sp : Sp) (dvs : List V) (E : XK) (t : TA) : TE := fun σ H Q => t σ H fun vs H1 => sp (vs ++ dvs) H1 Q E
/-- how the parameters are bound: us the positional arguments, kw the keywords' values by name, ds the defaults that fill up -/
def Binds (K : PySem.W.Frag) (fd : FuncData) (ps : List Str) (ds : List Value) : Prop :=
  ∀ (s : Shared) (us : List Value), K.In s.heap → (us ++ ds).length = ps.length → BindsTo s fd ⟨us, []⟩ (ps.zip (us ++ ds))
/-- every parameter is given -/
theorem Binds.all {K : PySem.W.Frag} {fd : FuncData} {ps : List Str} (h : ∀ us : List Value, us.length = ps.length → bindArgs fd ⟨us, []⟩ = pure (ps.zip us)) : Binds K fd ps [] := fun s us _ hl => by
  rw [List.append_nil] at hl ⊢
  exact .of_eq (h us hl)

/-- an exception of a callee reaches what this body wants of exceptions -/
def Passes (CX : CXT) (X : Cx) (E : XK) : Prop := ∀ (pins : List (Addr × Obj)) (σ : St) (H : Hp) (s : Shared) (e : Value) (s' : Shared), Inv X pins σ H s → CX X.stack H s E e s' → X.xe e s'

section
variable {X : Cx} {CX : CXT} {k : Nat} {f C : Addr} {fd : FuncData} {ps : List Str} {sp : Sp} {dvs : List V} {ds : List Value} {E : XK} {x m : Str} {p pos apos : Pos} {e o : Expr} {es : List Expr} {ta : TE} {t : TA}

/-- the callee runs -/
theorem run_fn {pins : List (Addr × Obj)} {σ : St} {H : Hp} {s : Shared} {Q : VK} {us : List Value} {vs : List V} (F : FnOk X.prog X.w X.K X.mg X.base CX k f fd ps sp) (hr : Room k X.A) (hb : Binds X.K fd ps ds) (hd : Vals dvs ds) (hx : Passes CX X E)
    (I : Inv X pins σ H s) (r : Vals vs us) (h : sp (vs ++ dvs) H Q E) : wpAny (model X.prog X.w) X.A (call (.ref f) us) (EP X pins σ Q) X.xe s := by
  have r2 : Vals (vs ++ dvs) (us ++ ds) := r.append hd
  have hl : (us ++ ds).length = ps.length := by rw [← r2.length]; exact F.len _ _ _ _ h
  refine wpAny_call (codeAny_mono (F.run X.A X.stack s H ⟨us, []⟩ (us ++ ds) (vs ++ dvs) Q E hr I.env0 (hb s us I.kIn hl) r2 h) fun r s' hq => ?_)
  cases r with
  | error e => exact hx pins σ H s e s' I hq
  | ok fl =>
    cases fl with
    | ret u => exact I.after hq
    | next => exact False.elim hq
    | brk => exact False.elim hq
    | cont => exact False.elim hq

theorem pe_call (F : FnOk X.prog X.w X.K X.mg X.base CX k f fd ps sp) (hr : Room k X.A) (hg : Gl X x) (hm : X.mg x = some (.ref f)) (hk : PySem.W.keepIn X.K (.ref f) = true) (hb : Binds X.K fd ps ds) (hd : Vals dvs ds) (hx : Passes CX X E)
    (ha : PA X (e :: es) t) (hdb : (x == ("__debug__" : Str)) = false := by decide) (he : starEach (e :: es) X.env = (false, eval e X.env) :: starEach es X.env := by rfl) (hpl : (backTo pos (starEach es X.env)).any (·.1) = false := by rfl) :
    PE X (.Call (.Name x p) (e :: es) [] pos) (tCall sp dvs E t) := by
  intro pins s σ H Q I h
  refine wpAny_Call_Name_kw (ld_glob I hg hm ?_ hdb)
  refine PySem.W.callWith_K (h₀ := X.base) I.ok.mod.kin hk (thn (ha pos pins s σ H _ I h) fun us s1 ⟨vs, H1, I1, r, q⟩ => ⟨I1.kIn, ?_⟩) he hpl
  exact run_fn F hr hb hd hx I1 r q
end

/-! ### keywords -/
section
variable {X : Cx} {CX : CXT} {k : Nat} {f C : Addr} {fd : FuncData} {ps ks : List Str} {sp : Sp} {E : XK} {x m : Str} {p pos apos kpos : Pos} {e o : Expr} {es : List Expr} {kws : List Keyword} {te ta : TE} {t tk : TA} {nm : Option Str}
variable {g : List Value → List Value → List Value} {gV : List V → List V → List V}
end

/-! ### a def's body keeps its promise -/
/-- names: the parameters first -/
structure FnScope (N P : List Str) (sc : Scope) : Prop where
  kind : sc.kind = .function
  co : sc.isCoroutine = false
  gen : sc.isGenerator = false
  nd : N.Nodup
  pre : N.take P.length = P
  par : ∀ x ∈ P, sc.names.lookup x = some .local ∨ sc.names.lookup x = some .cell
  nofree : ∀ y ∈ sc.names, y.2 ≠ .free

theorem bindL_out {kindOf : Str → Option NameKind} {x : Str} : ∀ {binds : List (Str × Value)} {m : Str → Option Value}, (∀ v, (x, v) ∉ binds) → bindL kindOf binds m x = m x
  | [], _, _ => rfl
  | (n, v) :: r, m, h => by
    unfold bindL
    rw [bindL_out fun w hw => h w (List.mem_cons_of_mem _ hw)]
    split
    · have : x ≠ n := by rintro rfl; exact h v List.mem_cons_self
      simp [this]
    · rfl
theorem bindC_out {kindOf : Str → Option NameKind} {x : Str} : ∀ {binds : List (Str × Value)} {m : Str → Option Value}, (∀ v, (x, v) ∉ binds) → bindC kindOf binds m x = m x
  | [], _, _ => rfl
  | (n, v) :: r, m, h => by
    unfold bindC
    rw [bindC_out fun w hw => h w (List.mem_cons_of_mem _ hw)]
    split
    · rfl
    · have : x ≠ n := by rintro rfl; exact h v List.mem_cons_self
      simp [this]
theorem bindL_get {kindOf : Str → Option NameKind} {x : Str} {v : Value} : ∀ {P : List Str} {vs : List Value} {i : Nat} {m : Str → Option Value}, P.Nodup → P[i]? = some x → vs[i]? = some v → kindOf x = some .local →
    bindL kindOf (P.zip vs) m x = some v
  | [], _, _, _, _, h, _, _ => by simp at h
  | _ :: _, [], _, _, _, _, h, _ => by simp at h
  | p :: P, w :: vs, 0, m, nd, h1, h2, hk => by
    simp at h1 h2; subst h1; subst h2
    show bindL kindOf ((p, w) :: P.zip vs) m p = _
    unfold bindL
    rw [bindL_out fun v hv => (List.nodup_cons.mp nd).1 (List.of_mem_zip hv).1, if_pos hk]
    simp
  | p :: P, w :: vs, i + 1, m, nd, h1, h2, hk => by
    show bindL kindOf ((p, w) :: P.zip vs) m x = _
    unfold bindL
    exact bindL_get (i := i) (List.nodup_cons.mp nd).2 (by simpa using h1) (by simpa using h2) hk
theorem bindC_get {kindOf : Str → Option NameKind} {x : Str} {v : Value} : ∀ {P : List Str} {vs : List Value} {i : Nat} {m : Str → Option Value}, P.Nodup → P[i]? = some x → vs[i]? = some v → kindOf x ≠ some .local →
    bindC kindOf (P.zip vs) m x = some v
  | [], _, _, _, _, h, _, _ => by simp at h
  | _ :: _, [], _, _, _, _, h, _ => by simp at h
  | p :: P, w :: vs, 0, m, nd, h1, h2, hk => by
    simp at h1 h2; subst h1; subst h2
    show bindC kindOf ((p, w) :: P.zip vs) m p = _
    unfold bindC
    rw [bindC_out fun v hv => (List.nodup_cons.mp nd).1 (List.of_mem_zip hv).1, if_neg hk]
    simp
  | p :: P, w :: vs, i + 1, m, nd, h1, h2, hk => by
    show bindC kindOf ((p, w) :: P.zip vs) m x = _
    unfold bindC
    exact bindC_get (i := i) (List.nodup_cons.mp nd).2 (by simpa using h1) (by simpa using h2) hk

/-- the names' values at the entry -/
def start (N : List Str) (vs : List V) : St := vs.map some ++ List.replicate (N.length - vs.length) none

/-- the context of a def's body, at its entry; an exception leaves the frame, then lies as CX says -/
def cxOf (CX : CXT) (P : Program) (w : World) (K : PySem.W.Frag) (mg : Str → Option Value) (base : Heap) (N : List Str) (qual : Str) (scope : Scope) (f : Addr) (cd : Value) (A : Around) (outer : List Env) (s : Shared) (H : Hp) (E : XK) : Cx where
  prog := P
  w := w
  K := K
  mg := mg
  base := base
  A := A.deeper (envOfC qual scope s.heap.objs.size f cd)
  N := N
  s₀ := s
  H₀ := H
  env := envOfC qual scope s.heap.objs.size f cd
  outer := outer
  stack := envOfC qual scope s.heap.objs.size f cd :: outer
  ex := []
  calm := true
  fn := fun _ => true
  pn := []
  xe := fun e s' => wpAny (model P w) (A.deeper (envOfC qual scope s.heap.objs.size f cd)) (leaving (envOfC qual scope s.heap.objs.size f cd) e) (fun _ s'' => CX outer H s E e s'') (fun e' s'' => CX outer H s E e' s'') s'

theorem cell_has {sc : Scope} {n : Nat} {x : Str} (h : sc.names.lookup x = some .cell) : ∃ c, (cellsFrom n sc.names []).lookup x = some c := by
  have q := PySem.W.cellsFrom_some sc.names n [] (.inl h)
  exact Option.isSome_iff_exists.mp q

theorem inv_start {CX : CXT} {P : Program} {w : World} {K : PySem.W.Frag} {mg : Str → Option Value} {base : Heap} {N ps : List Str} {qual : Str} {scope : Scope} {f : Addr} {cd : Value} {A : Around} {outer : List Env} {s s1 : Shared} {H : Hp} {E : XK} {us : List Value} {vs : List V}
    (S : FnScope N ps scope) (hd : A.handled = none) (e0 : Env0 P w K mg base A outer s H) (hl : vs.length = ps.length) (r : Vals vs us)
    (x : InCallC s s.heap.objs.size (bindL (envOfC qual scope s.heap.objs.size f cd).kindOf (ps.zip us) fun _ => none) (cellsFrom (s.heap.objs.size + 1) scope.names []) (bindC (envOfC qual scope s.heap.objs.size f cd).kindOf (ps.zip us) fun _ => none) s1) :
    Inv (cxOf CX P w K mg base N qual scope f cd A outer s H E) [] (start N vs) H s1 := by
  have hpl : ps.length ≤ N.length := by have := congrArg List.length S.pre; rw [List.length_take] at this; omega
  obtain ⟨h1, tk, rfl, hk⟩ := x.done
  have noA : ∀ b : Addr, b ∉ (cxOf CX P w K mg base N qual scope f cd A outer s H E).ex := fun b z => absurd (show b ∈ ([] : List Addr) from z) (by simp)
  refine ⟨⟨e0.mod, S.kind, rfl, rfl, Nat.le_refl _, fun y z c h1 h2 => ?_, fun y hy => ?_, fun y c _ h => ?_, fun _ => hd, Around.frames_deeper e0.frames, .inr ⟨rfl, rfl⟩, fun b z => absurd z (noA b), e0.bs, e0.bsz, fun b _ _ => noA b, fun b z => absurd z (noA b), e0.funs, e0.frf⟩,
    rfl, e0.bare, Un.kept hk, ⟨_, x.toInCall.ns, fun i y v h1 h2 h3 => ?_⟩, fun y c h => ⟨_, x.cell y c h⟩, e0.hok.fresh (Nat.le_refl _), fun y c h => ?_, fun p hp => absurd (show p ∈ ([] : List (Addr × Obj)) from hp) (by simp), e0.hok.kept hk, ?_⟩
  · exact name_of_addr x.apart (PySem.mem_of_lookup h1) (PySem.mem_of_lookup h2)
  · have hy : scope.names.lookup y = some .cell ∨ scope.names.lookup y = some .free := hy
    rcases hy with hy | hy
    · exact cell_has hy
    · exact absurd rfl (S.nofree _ (PySem.mem_of_lookup hy))
  · exact Nat.le_of_lt (x.above y c (PySem.mem_of_lookup h))
  · have hi : i < vs.length := by
      unfold start at h2
      by_cases hi : i < vs.length
      · exact hi
      · rw [List.getElem?_append_right (by simpa using hi)] at h2
        rw [List.getElem?_replicate] at h2
        split at h2 <;> cases h2
    have ha : vs[i]? = some v := by
      unfold start at h2
      rw [List.getElem?_append_left (by simpa using hi), List.getElem?_map] at h2
      cases e : vs[i]? with
      | none => rw [e] at h2; cases h2
      | some a => rw [e] at h2; cases h2; rfl
    obtain ⟨u, hu, rv⟩ := r.get ha
    have hp : ps[i]? = some y := by
      rw [← S.pre, List.getElem?_take_of_lt (by omega)]; exact h1
    have ndP : ps.Nodup := by rw [← S.pre]; exact S.nd.sublist (List.take_sublist _ _)
    refine ⟨u, rv, ?_⟩
    rcases S.par y (List.mem_of_getElem? hp) with k | k
    · exact .inl ⟨k, bindL_get ndP hp hu k⟩
    · obtain ⟨c, e⟩ := cell_has (n := s.heap.objs.size + 1) k
      refine .inr ⟨.inl k, c, e, ?_⟩
      have q := x.cell y c e
      rw [bindC_get ndP hp hu (by show scope.names.lookup y ≠ _; rw [k]; decide)] at q
      exact q
  · exact e0.hok.fresh (Nat.le_of_lt (x.above y c (PySem.mem_of_lookup h)))
  · unfold start
    show _ = N.length
    rw [List.length_append, List.length_map, List.length_replicate]
    omega

/-- THE RULE: a def (or a method) of the text, by its body. The body's reading t is chosen for each entry; it is run at the parameters' values -/
theorem fn_of {CX : CXT} {P : Program} {w : World} {K : PySem.W.Frag} {mg : Str → Option Value} {base : Heap} {k : Nat} {f : Addr} {name qual : Str} {params : Arguments} {body : List Stmt} {scope : Scope} {dV kV doc pm cdv ct oc : Value} {an od : Option Addr}
    {osl : Array (Option Value)} {N ps : List Str} {sp : Sp} (lk : K.lookup f = some ⟨oc, od, .func (PySem.W.fnOf name qual params body scope dV kV doc pm an cdv ct), osl⟩) (hcd : PySem.W.codeIn K cdv qual = true) (S : FnScope N ps scope)
    (len : ∀ vs H Q E, sp vs H Q E → vs.length = ps.length)
    (hbody : ∀ (A : Around) (outer : List Env) (s : Shared) (H : Hp) (vs : List V) (Q : VK) (E : XK), Room k (A.deeper (envOfC qual scope s.heap.objs.size f cdv)) → sp vs H Q E →
      ∃ t, PSs (cxOf CX P w K mg base N qual scope f cdv A outer s H E) body t ∧ t { nx := fun _ H' => Q .non H', rt := Q } (start N vs) H) :
    FnOk P w K mg base CX (k + 1) f (PySem.W.fnOf name qual params body scope dV kV doc pm an cdv ct) ps sp := by
  refine ⟨len, fun A outer s H args us vs Q E hr e0 hb r hsp => ?_⟩
  have hl := len _ _ _ _ hsp
  have KX : K.In s.heap := e0.mod.kin.keeps fun b o e => (e0.bs b o e).1
  have lim : s.heap.NoLimit := e0.mod.nolimit.keeps fun b o e => (e0.bs b o e).1
  have hkind : ∀ y ∈ ps.zip us, scope.names.lookup y.1 = some .local ∨ (scope.names.lookup y.1 = some .cell ∧ ((cellsFrom (s.heap.objs.size + 1) scope.names []).lookup y.1).isSome = true) := fun ⟨n, v⟩ hy => by
    rcases S.par n (List.of_mem_zip hy).1 with q | q
    · exact .inl q
    · exact .inr ⟨q, PySem.W.cellsFrom_some _ _ _ (.inl q)⟩
  refine codeAny_call_function hr.depth (KX _ _ lk) rfl S.co S.gen rfl (PySem.W.codeRec_of KX hcd) (hb _ _ _ _ ?_)
  refine wpAny_newFunctionEnv_cells S.kind hkind fun env he s1 x => ?_
  subst he
  refine ⟨lim.keeps x.toInCall.keep, codeAny_func ?_⟩
  obtain ⟨t, ht, hq⟩ := hbody A outer s H vs Q E (hr.deeper _) hsp
  have I : Inv (cxOf CX P w K mg base N qual scope f cdv A outer s H E) [] (start N vs) H s1 := inv_start S hr.hd e0 hl r x
  refine wpAny_mono (ht [] s1 (start N vs) H _ I hq) (fun fl s' hs => ?_) fun e s' hs => hs
  have fin : ∀ {σ' : St} {H' : Hp} {v : V} {u : Value}, Inv (cxOf CX P w K mg base N qual scope f cdv A outer s H E) [] σ' H' s' → RelV v u → Q v H' → CE outer P w H s Q u s' :=
    fun {σ' H' v u} J rv q => ⟨v, H', J.os, J.bare, J.base, J.hok, rv, q⟩
  cases fl with
  | ret u =>
    obtain ⟨v, σ', H', J, rv, q⟩ := hs
    exact fin J rv q
  | next =>
    obtain ⟨σ', H', J, q⟩ := hs
    exact fin (v := V.non) (u := Value.none) J rfl q
  | brk =>
    obtain ⟨_, _, _, q⟩ := hs
    exact False.elim q
  | cont =>
    obtain ⟨_, _, _, q⟩ := hs
    exact False.elim q
end L2

namespace L2
open PySem PySem.Spec PyProof.Rows
section
variable {X : Cx} {x : Str} {p pos : Pos} {e : Expr} {es : List Expr} {t : TA} {id T : String} {r : List V → Hp → VK → Prop}

def tCB (r : List V → Hp → VK → Prop) (t : TA) : TE := fun σ H Q => t σ H fun vs H1 => r vs H1 Q
/-- f(e, ..), f a built-in function -/
theorem pe_callB (hc : CallR X (.builtin id) r) (hg : Gl X x) (hm : X.mg x = none) (hv : bootBuiltins x = some (.builtin id)) (ha : PA X (e :: es) t) (hn : x ≠ "__name__" := by decide) (hdb : (x == ("__debug__" : Str)) = false := by decide)
    (he : starEach (e :: es) X.env = (false, eval e X.env) :: starEach es X.env := by rfl) (hpl : (backTo pos (starEach es X.env)).any (·.1) = false := by rfl) : PE X (.Call (.Name x p) (e :: es) [] pos) (tCB r t) := by
  intro pins s σ H Q I h
  refine wpAny_Call_Name_kw (ld_blt I hg hm hv ?_ hn hdb)
  exact PyProof.Rows.callWith_builtin1 (thn (ha pos pins s σ H _ I h) fun us s1 ⟨vs, H1, I1, r1, q1⟩ => hc pins s1 σ H1 vs us Q I1 r1 q1) he hpl
end
end L2

namespace HT
open PySem PyProof.Rows

section
open PySem.SeqAt
open PySem.AutoSeq1 (wpAny_loadPart')
open PySem.MeetsSeq PySem.MeetsSeq2 PySem.MeetsSeq3

end

section
variable {prog : Program} {w : World} {A : Around} {E : Value → Shared → Prop} {s : Shared}

/-! ### t[a:b], not the whole -/
/-- a slice's bound as a place among n (d where it is left out) -/
def sIx (n d : Nat) : Option Int → Nat
  | none => d
  | some v => if v < 0 then (v + (n : Int)).toNat else min v.toNat n
end
end HT

namespace L2
open PySem PySem.Spec PyProof.Rows

/-! ### the parts of a slice -/
abbrev TO := St → Hp → (Option Int → Hp → Prop) → Prop
/-- a slice's part (left out, or an int) -/
def PO (X : Cx) (e : Option Expr) (t : TO) : Prop :=
  ∀ (pins : List (Addr × Obj)) (s : Shared) (σ : St) (H : Hp) (Q : Option Int → Hp → Prop), Inv X pins σ H s → t σ H Q →
    wpAny (model X.prog X.w) X.A (evalPart e X.env) (fun u s' => ∃ o H', Inv X pins σ H' s' ∧ IsPart u o ∧ Q o H') X.xe s
def tNoPart : TO := fun _ H Q => Q none H
def tPart (t : TE) : TO := fun σ H Q => t σ H fun x H1 => ∃ i, x = .int i ∧ Q (some i) H1

section
variable {X : Cx} {e : Expr} {te : TE} {lo hi : Option Expr} {tl th : TO} {pos p2 : Pos}

theorem po_none : PO X none tNoPart := by
  intro pins s σ H Q I h
  rw [evalPart_none]
  exact wpAny_pure ⟨none, H, I, .none, h⟩
theorem po_some (h : PE X e te) : PO X (some e) (tPart te) := by
  intro pins s σ H Q I hw
  rw [evalPart_some]
  refine thn (h pins s σ H _ I hw) fun u s1 ⟨x, H1, I1, r1, q1⟩ => ?_
  obtain ⟨i, rfl, q⟩ := q1
  obtain ⟨t, rfl⟩ := r1
  exact ⟨some i, H1, I1, .int i t, q⟩

/-- what a slice of a value is, by values: the slice object stands at sl -/
def SlR (X : Cx) (r : V → Option Int → Option Int → Hp → VK → Prop) : Prop :=
  ∀ (pins : List (Addr × Obj)) (s : Shared) (σ : St) (H : Hp) (x : V) (v vl vu : Value) (lo hi : Option Int) (sl : Addr) (Q : VK), Inv X pins σ H s → RelV x v → s.heap.IsSliceOf sl vl vu .none → IsPart vl lo → IsPart vu hi → r x lo hi H Q →
    ∃ T id, typeLookup (.type T) "__getitem__" = pure (some (.builtin id)) ∧ s.TypeIs v T ∧ wpAny (model X.prog X.w) X.A (getItem v (.ref sl)) (EP X pins σ Q) X.xe s
def tSl (r : V → Option Int → Option Int → Hp → VK → Prop) (te : TE) (tl th : TO) : TE := fun σ H Q => te σ H fun x H1 => tl σ H1 fun l H2 => th σ H2 fun u H3 => r x l u H3 Q
/-- a[lo:hi], any a -/
theorem pe_slice {r : V → Option Int → Option Int → Hp → VK → Prop} (hr : SlR X r) (he : PE X e te) (hl : PO X lo tl) (hu : PO X hi th) : PE X (.Subscript e (.Slice lo hi none p2) pos) (tSl r te tl th) := by
  intro pins s σ H Q I h
  refine Subscript_ (thn (he pins s σ H _ I h) fun v s1 ⟨x, H1, I1, r1, q1⟩ => ?_)
  refine wpAny_Slice (thn (hl pins s1 σ H1 _ I1 q1) fun vl s2 ⟨l, H2, I2, pl, q2⟩ => thn (hu pins s2 σ H2 _ I2 q2) fun vu s3 ⟨u, H3, I3, pu, q3⟩ => ?_)
  rw [evalPart_none]
  refine wpAny_pure ?_
  have I4 : Inv X pins σ H3 { s3 with heap := s3.heap.push { cls := .type "slice", data := .fields #[vl, vu, .none] } } := I3.kept (t' := s3.toks) fun b ob q => Heap.get?_push_of_some _ q
  obtain ⟨T, id, hT, ht, hg⟩ := hr pins { s3 with heap := s3.heap.push { cls := .type "slice", data := .fields #[vl, vu, .none] } } σ H3 x v vl vu l u s3.heap.objs.size Q I4 r1 (Heap.IsSliceOf.new ..) pl pu q3
  show wpAny (model X.prog X.w) X.A (subscriptTail e (.Slice lo hi none p2) v (.ref s3.heap.objs.size)) (EP X pins σ Q) X.xe { s3 with heap := s3.heap.push { cls := .type "slice", data := .fields #[vl, vu, .none] } }
  exact tail_any (ops := [.ref s3.heap.objs.size, v]) ht hT hg (by with_unfolding_all rfl)

/-- the items of xs[lo:hi] -/
def cutV (xs : List V) (lo hi : Option Int) : List V := (xs.drop (HT.sIx xs.length 0 lo)).take (HT.sIx xs.length xs.length hi - HT.sIx xs.length 0 lo)
theorem cutV_length (xs : List V) (lo hi : Option Int) : (cutV xs lo hi).length ≤ xs.length := by
  unfold cutV
  rw [List.length_take, List.length_drop]
  omega
/-! ### t < u, t + u -/
end
end L2

namespace L2
open PySem PySem.Spec PyProof.Rows

/-! ### places -/
/-- the place that an index of any sign means -/
def ixN (n : Nat) (i : Int) : Option Nat := if 0 ≤ i then (if i < n then some i.toNat else none) else if -(n : Int) ≤ i then some (i + n).toNat else none
def atI {α : Type} (xs : List α) (i : Int) : Option α := (ixN xs.length i).bind fun j => xs[j]?
theorem ixN_seq {n : Nat} {i : Int} {j : Nat} (h : ixN n i = some j) : seqIndex? i n = some j ∧ j < n ∧ -(n : Int) ≤ i ∧ i < n := by
  unfold ixN at h
  by_cases h0 : 0 ≤ i
  · rw [if_pos h0] at h
    by_cases h1 : i < n
    · rw [if_pos h1] at h
      have e : i.toNat = j := Option.some.inj h
      exact ⟨by rw [seqIndex_of h0 h1, e], by omega, by omega, h1⟩
    · rw [if_neg h1] at h; cases h
  · rw [if_neg h0] at h
    by_cases h1 : -(n : Int) ≤ i
    · rw [if_pos h1] at h
      have e : (i + n).toNat = j := Option.some.inj h
      exact ⟨by rw [seqIndex_neg (by omega) h1, e], by omega, h1, by omega⟩
    · rw [if_neg h1] at h; cases h
theorem atI_get {α : Type} {xs : List α} {i : Int} {v : α} (h : atI xs i = some v) : ∃ j, seqIndex? i xs.length = some j ∧ xs[j]? = some v ∧ j < xs.length ∧ -(xs.length : Int) ≤ i ∧ i < xs.length := by
  unfold atI at h
  cases e : ixN xs.length i with
  | none => rw [e] at h; cases h
  | some j =>
    rw [e] at h
    obtain ⟨h1, h2, h3, h4⟩ := ixN_seq e
    exact ⟨j, h1, h, h2, h3, h4⟩
theorem atI_nat {α : Type} {xs : List α} {j : Nat} {v : α} (h : xs[j]? = some v) : atI xs (j : Int) = some v := by
  have hj : j < xs.length := (List.getElem?_eq_some_iff.mp h).1
  have e : ixN xs.length (j : Int) = some j := by
    unfold ixN
    rw [if_pos (by omega), if_pos (by omega)]; simp
  unfold atI; rw [e]; exact h
/-! ### what may be subscripted -/
/-- what stands as an index of a plain subscript -/
def PlainIx (b : Expr) : Prop := ∀ o i, subscripted b false o i = operate [o, i] (getItem o i)
/-- a subscript by values -/
def IxR (X : Cx) (r : R2) : Prop :=
  ∀ (value slice : Expr) (pins : List (Addr × Obj)) (s : Shared) (σ : St) (H : Hp) (x y : V) (v u : Value) (Q : VK), Inv X pins σ H s → RelV x v → RelV y u → r x y H Q →
    subscripted slice false v u = operate [v, u] (getItem v u) → wpAny (model X.prog X.w) X.A (subscriptTail value slice v u) (EP X pins σ Q) X.xe s
/-- a call of a builtin's method by values: the receiver, the arguments -/
def MtR (X : Cx) (id : String) (r : V → List V → Hp → VK → Prop) : Prop :=
  ∀ (pins : List (Addr × Obj)) (s : Shared) (σ : St) (H : Hp) (x : V) (xs : List V) (v : Value) (us : List Value) (Q : VK), Inv X pins σ H s → RelV x v → Vals xs us → r x xs H Q →
    wpAny (model X.prog X.w) X.A (call (.builtin id) (v :: us)) (EP X pins σ Q) X.xe s
section
variable {X : Cx} {a b : Expr} {ta tb : TE} {pos : Pos}
/-- a[b] -/
theorem pe_ix {r : R2} (hr : IxR X r) (ha : PE X a ta) (hb : PE X b tb) (hs : PlainIx b) : PE X (.Subscript a b pos) (tOp r ta tb) := by
  intro pins s σ H Q I h
  exact Subscript_ (binT ha hb I h fun v u s2 x y H2 I2 rx ry q => hr a b pins s2 σ H2 x y v u Q I2 rx ry q (hs _ _))

def rIxL (K : PySem.W.Frag) : R2 := fun x y H Q => ∃ p xs i v, x = .ref p ∧ y = .int i ∧ SqL K H p xs ∧ atI xs i = some v ∧ Q v H
def rIxT (K : PySem.W.Frag) : R2 := fun x y H Q => ∃ p xs i v, x = .ref p ∧ y = .int i ∧ SqT K H p xs ∧ atI xs i = some v ∧ Q v H
theorem ix_list : IxR X (rIxL X.K) := by
  intro value slice pins s σ H x y v u Q I rx ry h hs
  obtain ⟨p, xs, i, z, rfl, rfl, hq, he, q⟩ := h
  cases rx
  obtain ⟨t, rfl⟩ := ry
  obtain ⟨its, r, pl, hz⟩ := I.list hq
  obtain ⟨j, h1, h2, h3, h4, h5⟩ := atI_get he
  obtain ⟨w, ew, rw'⟩ := r.get h2
  have hl := r.length
  have hn := line63
  have fin : EP X pins σ Q w s := ⟨z, H, I, rw', q⟩
  by_cases h0 : 0 ≤ i
  · have hj : i.toNat = j := by
      rw [seqIndex_of h0 h5] at h1
      exact Option.some.inj h1
    exact item_listR pl.isList h0 (by omega) (by rw [hj]; simpa using ew) fin hs
  · have hj : (i + (its.toArray.size : Int)).toNat = j := by
      rw [seqIndex_neg (by omega) h4] at h1
      rw [List.size_toArray, ← hl]
      exact Option.some.inj h1
    exact subscriptTail_builtinR (x := w) pl.isList.typeIs slot_list_getitem.lookup
      (wpAny_getItem_list_neg (Q := fun r s' => r = w ∧ EP X pins σ Q r s') pl.isList (by omega) (by rw [List.size_toArray] <;> omega) (by omega) (by rw [hj]; simpa using ew) ⟨rfl, fin⟩) hs
theorem ix_tup : IxR X (rIxT X.K) := by
  intro value slice pins s σ H x y v u Q I rx ry h hs
  obtain ⟨p, xs, i, z, rfl, rfl, hq, he, q⟩ := h
  cases rx
  obtain ⟨t, rfl⟩ := ry
  obtain ⟨its, r, pl, hz⟩ := I.tuple hq
  obtain ⟨j, h1, h2, h3, h4, h5⟩ := atI_get he
  obtain ⟨w, ew, rw'⟩ := r.get h2
  have hl := r.length
  have hn := line63
  have fin : EP X pins σ Q w s := ⟨z, H, I, rw', q⟩
  exact subscriptTail_builtinR (x := w) pl.typeIs slot_tuple_getitem.lookup
    (getItem_tuple (j := j) (Q := fun r s' => r = w ∧ EP X pins σ Q r s') pl (by omega) (by omega) (by rw [List.size_toArray, ← hl]; exact h1) (by simpa using ew) ⟨rfl, fin⟩) hs
/-! ### xs[i] = v, any sign -/
/-! ### slices -/
theorem slice_bounds (lo hi : Option Int) (n : Nat) : (sliceBounds lo hi none n).1 = ((HT.sIx n 0 lo : Nat) : Int) ∧ (sliceBounds lo hi none n).2.1 = ((HT.sIx n n hi : Nat) : Int) ∧ (sliceBounds lo hi none n).2.2 = 1 := by
  refine ⟨?_, ?_, rfl⟩
  · cases lo with
    | none => simp [sliceBounds, HT.sIx]
    | some i =>
      simp only [sliceBounds, HT.sIx, Option.getD_none, show (1 : Int) > 0 by decide, if_true]
      by_cases h : i < 0
      · simp only [h, if_true] <;> omega
      · simp only [h, if_false] <;> omega
  · cases hi with
    | none => simp [sliceBounds, HT.sIx]
    | some i =>
      simp only [sliceBounds, HT.sIx, Option.getD_none, show (1 : Int) > 0 by decide, if_true]
      by_cases h : i < 0
      · simp only [h, if_true] <;> omega
      · simp only [h, if_false] <;> omega
theorem slicePick_cut (its : List Value) (lo hi : Option Int) : slicePick its.toArray lo hi none = ((its.drop (HT.sIx its.length 0 lo)).take (HT.sIx its.length its.length hi - HT.sIx its.length 0 lo)).toArray := by
  obtain ⟨h1, h2, h3⟩ := slice_bounds lo hi its.toArray.size
  unfold slicePick
  rw [h1, h2, h3]
  simp only [sliceRange_one, pick_run, List.size_toArray] <;> rfl
/-- xs[lo:hi] of a list: a new list -/
def rSlL (K : PySem.W.Frag) : V → Option Int → Option Int → Hp → VK → Prop := fun x lo hi H Q => ∃ a xs, x = .ref a ∧ SqL K H a xs ∧ ∀ p, H p = none → Q (.ref p) (upd H p (.lst (cutV xs lo hi)))
theorem sl_list : SlR X (rSlL X.K) := by
  intro pins s σ H x v vl vu lo hi sl Q I rx hs pl pu h
  obtain ⟨a, xs, rfl, hx, q⟩ := h
  cases rx
  obtain ⟨its, r, ht, hz⟩ := I.list hx
  have hlen := r.length
  refine ⟨"list", _, slot_list_getitem.lookup, ht.isList.typeIs, ?_⟩
  refine wpAny_getItem_list_slice ht.isList hs pl pu .none (by simp) ?_ (by rw [List.size_toArray] <;> omega)
  rw [slicePick_cut, ← hlen]
  refine ⟨.ref s.heap.objs.size, _, I.laid (t' := s.toks) (o := .lst (cutV xs lo hi)) (fun b ob q => Heap.get?_push_of_some _ q) (Nat.le_refl _) ?_, rfl, q _ (I.hok.fresh (Nat.le_refl _))⟩
  exact ⟨Nat.le_trans (cutV_length xs lo hi) hz, _, 0, (r.drop (HT.sIx xs.length 0 lo)).take (HT.sIx xs.length xs.length hi - HT.sIx xs.length 0 lo), Heap.get?_push_size _ rfl⟩

/-! ### in, not in: flat items -/
def flatV : V → Bool
  | .non => true
  | .bl _ => true
  | .int _ => true
  | .str _ => true
  | _ => false
/-- == of flat values -/
def eqV : V → V → Bool
  | .non, .non => true
  | .bl a, .bl b => a == b
  | .bl a, .int b => (if a then 1 else 0) == b
  | .int a, .bl b => a == (if b then 1 else 0)
  | .int a, .int b => a == b
  | .str a, .str b => a == b
  | _, _ => false
theorem eqAt_V {A : Around} {s : Shared} {y x : V} {u v : Value} (ry : RelV y u) (rx : RelV x v) (fy : flatV y = true) (fx : flatV x = true) : SeqAt.EqAt A s u v (eqV y x) := by
  cases y with
  | non =>
    cases ry
    cases x with
    | non => cases rx; exact SeqAt.EqAt.same _
    | bl b => cases rx; exact SeqAt.EqAt.none_bool b
    | int b => obtain ⟨t, rfl⟩ := rx; exact SeqAt.EqAt.none_int b t
    | str b => obtain ⟨t, rfl⟩ := rx; exact SeqAt.EqAt.none_str b t
    | _ => exact absurd (show false = true from fx) Bool.false_ne_true
  | bl a =>
    cases ry
    cases x with
    | non => cases rx; exact SeqAt.EqAt.bool_none a
    | bl b => cases rx; exact SeqAt.EqAt.bool_bool a b
    | int b => obtain ⟨t, rfl⟩ := rx; exact SeqAt.EqAt.bool_int a b t
    | str b => obtain ⟨t, rfl⟩ := rx; exact SeqAt.EqAt.bool_str a b t
    | _ => exact absurd (show false = true from fx) Bool.false_ne_true
  | int a =>
    obtain ⟨t', rfl⟩ := ry
    cases x with
    | non => cases rx; exact SeqAt.EqAt.int_none a t'
    | bl b => cases rx; exact SeqAt.EqAt.int_bool a t' b
    | int b => obtain ⟨t, rfl⟩ := rx; exact SeqAt.EqAt.int_int a t' b t
    | str b => obtain ⟨t, rfl⟩ := rx; exact SeqAt.EqAt.int_str a t' b t
    | _ => exact absurd (show false = true from fx) Bool.false_ne_true
  | str a =>
    obtain ⟨t', rfl⟩ := ry
    cases x with
    | non => cases rx; exact SeqAt.EqAt.str_none a t'
    | bl b => cases rx; exact SeqAt.EqAt.str_bool a t' b
    | int b => obtain ⟨t, rfl⟩ := rx; exact SeqAt.EqAt.str_int a t' b t
    | str b => obtain ⟨t, rfl⟩ := rx; exact SeqAt.EqAt.str_str a t' b t
    | _ => exact absurd (show false = true from fx) Bool.false_ne_true
  | _ => exact absurd (show false = true from fy) Bool.false_ne_true
/-! ### len, list(x), tuple(x) of any list or tuple that is read -/
/-! ### the call of a builtin's method: o.m(..) -/
/-- the value is of that builtin type -/
def tyV (K : PySem.W.Frag) (T : String) (x : V) (H : Hp) : Prop := match x with
  | .str _ => T = "str"
  | .int _ => T = "int"
  | .ref p => (T = "list" ∧ ∃ xs, SqL K H p xs) ∨ (T = "tuple" ∧ ∃ o, K.lookup p = some o ∧ o.cls = .type "tuple" ∧ o.dict = none) ∨
      (T = "dict" ∧ ((∃ kvs, H p = some (.dK kvs)) ∨ ∃ kvs, H p = some (.dT kvs))) ∨ (T = "set" ∧ ∃ S n, H p = some (.set S n))
  | _ => False
theorem tyV_is {pins : List (Addr × Obj)} {σ : St} {H : Hp} {s : Shared} {T : String} {x : V} {v : Value} (I : Inv X pins σ H s) (r : RelV x v) (ty : tyV X.K T x H) :
    s.TypeIs v T ∧ ∀ a, v = .ref a → ∃ ob, s.heap.get? a = some ob ∧ ob.dict = none := by
  cases x with
  | str z =>
    obtain ⟨t, rfl⟩ := r
    cases (show T = "str" from ty)
    exact ⟨typeIs_str s z t, fun _ e => nomatch e⟩
  | int i =>
    obtain ⟨t, rfl⟩ := r
    cases (show T = "int" from ty)
    exact ⟨typeIs_int s i t, fun _ e => nomatch e⟩
  | ref p =>
    cases r
    rcases ty with ⟨rfl, xs, hq⟩ | ⟨rfl, o, hk, hc, hd⟩ | ⟨rfl, hk⟩ | ⟨rfl, S, n, hk⟩
    · obtain ⟨its, _, pl, _⟩ := I.list hq
      refine ⟨pl.isList.typeIs, fun a e => ?_⟩
      cases e
      obtain ⟨o, n, e, c, hd, _⟩ := pl
      exact ⟨o, e, hd⟩
    · refine ⟨⟨o, I.kIn p o hk, hc⟩, fun a e => ?_⟩
      cases e
      exact ⟨o, I.kIn _ o hk, hd⟩
    · have z : ∃ o, s.heap.get? p = some o ∧ o.ExactDict := by
        rcases hk with ⟨kvs, hk⟩ | ⟨kvs, hk⟩
        · obtain ⟨_, _, _, _, o, _, _, e, ex, _⟩ := I.hok p _ hk
          exact ⟨o, e, ex⟩
        · obtain ⟨_, _, _, _, o, _, _, e, ex, _⟩ := I.hok p _ hk
          exact ⟨o, e, ex⟩
      obtain ⟨o, e, ex⟩ := z
      refine ⟨⟨o, e, ex.1⟩, fun a e2 => ?_⟩
      cases e2
      exact ⟨o, e, ex.2.1⟩
    · obtain ⟨o, _, _, _, e, ex, _⟩ := I.hok p _ hk
      refine ⟨⟨o, e, ex.1⟩, fun a e2 => ?_⟩
      cases e2
      exact ⟨o, e, ex.2.1⟩
  | _ => exact False.elim ty
def tBM (K : PySem.W.Frag) (T : String) (r : V → List V → Hp → VK → Prop) (to : TE) (t : TA) : TE := fun σ H Q => to σ H fun x H1 => tyV K T x H1 ∧ t σ H1 fun xs H2 => r x xs H2 Q
variable {o e : Expr} {es : List Expr} {to : TE} {t : TA} {name : Str} {apos cpos : Pos} {T id : String} {r : V → List V → Hp → VK → Prop}
theorem pe_bm (pa : PlainAttrs T) (slot : Slot T name id) (hty : typeOf (.builtin id) = pure (.type "method_descriptor")) (hm : MtR X id r) (ho : PE X o to) (ha : PA X (e :: es) t)
    (hbase : attributeBase o name X.env (eval o X.env) = eval o X.env := by rfl)
    (hfew : ((backTo cpos (starEach (e :: es) X.env)).all (fun x => !x.1) && (backToKw cpos (keywordEach [] X.env)).all (fun x => x.1.isSome)
      && decide ((e :: es).length + ([] : List Keyword).length + (if ([] : List Keyword).isEmpty then 0 else 1) < 30)) = true := by rfl)
    (hline : (apos.endLine == cpos.line) = true := by rfl) (hs : starEach (e :: es) X.env = (false, eval e X.env) :: starEach es X.env := by rfl) (hplain : (backTo cpos (starEach es X.env)).any (·.1) = false := by rfl) :
    PE X (.Call (.Attribute o name apos) (e :: es) [] cpos) (tBM X.K T r to t) := by
  intro pins s σ H Q I h
  refine wpAny_Call_method_late hbase hfew hline rfl (thn (ho pins s σ H _ I h) fun v s1 ⟨x, H1, I1, r1, ty, q1⟩ => ?_)
  obtain ⟨h1, h2⟩ := tyV_is I1 r1 ty
  refine ⟨T, id, pa, slot, hty, h1, h2, ?_⟩
  have hA := ha cpos pins s1 σ H1 _ I1 q1
  rw [hs] at hA ⊢
  refine Calls.callWith_builtin (by show (false || (backTo cpos (starEach es X.env)).any (·.1)) = false; rw [hplain] <;> rfl) (Calls.evalArgs_plain ?_)
  exact thn hA fun us s2 ⟨vs, H2, I2, r2, q2⟩ => hm pins s2 σ H2 x vs v us Q I2 r1 r2 q2
/- xs.append(e), list.index on a module's tuple .. are MtR facts of 06m -/
end
end L2

namespace L2
open PySem PySem.Spec PyProof.Rows

def MtM (X : Cx) (id : String) (r : V → List V → Hp → VK → Prop) : Prop :=
  ∀ (pins : List (Addr × Obj)) (s : Shared) (σ : St) (H : Hp) (x : V) (xs : List V) (v : Value) (us : List Value) (Q : VK), Inv X pins σ H s → RelV x v → Vals xs us → r x xs H Q →
    wpAny (model X.prog X.w) X.A (call (.builtin id) (v :: us)) (EP X pins σ Q) X.xe s

/-! ### lists of values -/
theorem Vals.one : ∀ {x : V} {us : List Value}, Vals [x] us → ∃ u, us = [u] ∧ RelV x u
  | _, _, .cons r .nil => ⟨_, rfl, r⟩
section
variable {X : Cx} {pins : List (Addr × Obj)} {σ : St} {H : Hp} {s : Shared} {l b : Addr} {xs ys zs : List V}

/-! ### the two steps: a tracked list is rewritten, a new list is laid -/
theorem Inv.lset {its its' : List Value} {n : Nat} {f : Array Value → Array Value} {t' : Nat} (I : Inv X pins σ H s) (hH : H l = some (.lst xs))
    (e : s.heap.get? l = some { cls := .type "list", data := .seq its.toArray n }) (hf : f its.toArray = its'.toArray) (hv : Vals ys its') (hz : ys.length ≤ sizeLine) :
    Inv X pins σ (upd H l (.lst ys)) { s with heap := s.heap.update l (Obj.mapSeq f), toks := t' } := by
  have q := PySem.IsL.update e f
  rw [hf] at q
  refine I.write (x := l) (e := l) (by rw [hH]; exact trivial) (.inl rfl) (fun b' u hb hu => (Heap.get?_update_other s.heap (Obj.mapSeq f) (Ne.symm hb)).trans hu) ⟨_, q⟩ ?_
  exact ⟨hz, its', _, hv, q⟩
theorem Inv.lnew {its : List Value} {t' : Nat} (I : Inv X pins σ H s) (hv : Vals ys its) (hz : ys.length ≤ sizeLine) :
    Inv X pins σ (upd H s.heap.objs.size (.lst ys)) { s with heap := s.heap.push { cls := .type "list", data := .seq its.toArray }, toks := t' } :=
  I.laid (fun _ _ q => Heap.get?_push_of_some _ q) (Nat.le_refl _) ⟨hz, its, 0, hv, Heap.get?_push_size _ rfl⟩
theorem Inv.fresh (I : Inv X pins σ H s) : H s.heap.objs.size = none := I.hok.fresh (Nat.le_refl _)
theorem Inv.lstM (I : Inv X pins σ H s) (hH : H l = some (.lst xs)) : xs.length ≤ sizeLine ∧ ∃ (its : List Value) (n : Nat), Vals xs its ∧ xs.length = its.length ∧ s.heap.get? l = some { cls := .type "list", data := .seq its.toArray n } := by
  obtain ⟨z, its, n, r, e⟩ := I.hok l _ hH
  exact ⟨z, its, n, r, r.length, e⟩

theorem notLongL {n : Nat} (h : n ≤ sizeLine) : Builtin.List.listTooLong n = false := by
  unfold Builtin.List.listTooLong
  exact decide_eq_false (by omega)
end

section
variable {X : Cx}

/-! ### methods -/
def rAppend : V → List V → Hp → VK → Prop := fun x vs H Q => ∃ l xs y, x = .ref l ∧ vs = [y] ∧ H l = some (.lst xs) ∧ xs.length < sizeLine ∧ Q .non (upd H l (.lst (xs ++ [y])))
theorem mt_append : MtM X "list.append" rAppend := by
  intro pins s σ H x vs v us Q I rx rv h
  obtain ⟨l, xs, y, rfl, rfl, hH, hz, q⟩ := h
  cases rx
  obtain ⟨u, rfl, ru⟩ := rv.one
  obtain ⟨z, its, n, r, hl, e⟩ := I.lstM hH
  refine call_meets F.slot_list_append ⟨_, e, rfl⟩ F.entry_list_append (F.args_list_append_2 _ _) (PySem.list_append l its.toArray n u (by rw [List.size_toArray]; omega)) ⟨e, ?_⟩
  refine ⟨.non, _, I.lset (its' := its ++ [u]) hH e (by simp) (r.append (.cons ru .nil)) ?_, rfl, q⟩
  rw [List.length_append, List.length_singleton]
  omega

def rExtend : V → List V → Hp → VK → Prop := fun x vs H Q => ∃ l b xs zs, x = .ref l ∧ vs = [.ref b] ∧ H l = some (.lst xs) ∧ H b = some (.lst zs) ∧ xs.length + zs.length ≤ sizeLine ∧ Q .non (upd H l (.lst (xs ++ zs)))
theorem mt_extend : MtM X "list.extend" rExtend := by
  intro pins s σ H x vs v us Q I rx rv h
  obtain ⟨l, b, xs, zs, rfl, rfl, hH, hB, hz, q⟩ := h
  cases rx
  obtain ⟨u, rfl, ru⟩ := rv.one
  cases ru
  obtain ⟨z, its, n, r, hl, e⟩ := I.lstM hH
  obtain ⟨z2, its2, n2, r2, hl2, e2⟩ := I.lstM hB
  have hsz : its.toArray.size + its2.toArray.size ≤ sizeLine := by rw [List.size_toArray, List.size_toArray]; omega
  have hlong : ¬ (!its.toArray.isEmpty && Builtin.List.listTooLong (its.toArray.size + its2.toArray.size)) = true := by
    rw [notLongL hsz, Bool.and_false]
    exact Bool.false_ne_true
  refine call_meets F.slot_list_extend ⟨_, e, rfl⟩ F.entry_list_extend (F.args_list_extend_2 _ _)
    (AutoSeq1.list_extend_list_list_0 l its.toArray n b its2.toArray n2 hlong (by rw [List.size_toArray]; omega) (by omega)) ⟨e, e2, ?_⟩
  refine ⟨.non, _, I.lset (its' := its ++ its2) hH e (by simp) (r.append r2) ?_, rfl, q⟩
  rw [List.length_append]
  omega

/-! ### list + list, list += list, list * int -/
def rCat : R2 := fun x y H Q => ∃ l b xs zs, x = .ref l ∧ y = .ref b ∧ H l = some (.lst xs) ∧ H b = some (.lst zs) ∧ xs.length + zs.length ≤ sizeLine ∧ ∀ p, H p = none → Q (.ref p) (upd H p (.lst (xs ++ zs)))
theorem op_cat : OpR X (binaryOp .Add) rCat := by
  intro pins s σ H x y v u Q I rx ry h
  obtain ⟨l, b, xs, zs, rfl, rfl, hH, hB, hz, q⟩ := h
  cases rx
  cases ry
  obtain ⟨z, its, n, r, hl, e⟩ := I.lstM hH
  obtain ⟨z2, its2, n2, r2, hl2, e2⟩ := I.lstM hB
  refine PySem.P.add_list e e2 ?_ (by rw [List.size_toArray, List.size_toArray]; omega)
  have ea : its.toArray ++ its2.toArray = (its ++ its2).toArray := by simp
  rw [ea]
  exact ⟨.ref _, _, I.lnew (t' := s.toks) (r.append r2) (by rw [List.length_append]; omega), rfl, q _ I.fresh⟩
/-! ### del xs[i] -/
end

/-! ### xs[a:b] = ys -/
section
variable {prog : Program} {w : World} {A : Around} {E : Value → Shared → Prop} {s : Shared}
end

section
variable {X : Cx}
end
end L2

namespace Att
open PySem PySem.W PySem.Calls PyProof.Rows

/-! ### the script -/
theorem ints_of_wellAll {P : Params} {h : Heap} : ∀ (ns : List Int) (vs : List Value), WellAll P h vs (ns.map WData.int) → IntsAre vs ns := by
  intro ns
  induction ns with
  | nil =>
    intro vs w
    rw [List.map_nil] at w
    cases w
    exact .nil
  | cons n ns ih =>
    intro vs w
    rw [List.map_cons] at w
    cases w with
    | cons a b =>
      cases a
      exact .cons _ _ (ih _ b)

theorem script_of {l : OpenLaw} {n : Nat} (hn : l.most = some n) {P : Params} {h : Heap} {args : List WData} {vals : List Value}
    (hpre : l.row.toRowW.claim.pre args = true) (hwl : WellAll P h vals args) :
    ∃ a vs ns, vals = [Value.ref a] ∧ args = [WData.list (ns.map WData.int)] ∧ h.get? a = some { cls := .type "list", data := .seq vs.toArray } ∧ IntsAre vs ns ∧ ns.length ≤ n := by
  have hsh : WShape.hasAll [] args [.list .int] = true := (pre_splitW hpre).1
  have hc : l.pre.holds [] { args := args } = true := (pre_splitW hpre).2
  obtain ⟨d, r, rfl, h1, h2⟩ := hasAllW_cons hsh
  obtain rfl := hasAllW_nil h2
  obtain ⟨xs, rfl, h3⟩ := hasW_list h1
  obtain ⟨ns, rfl⟩ := items_int h3
  have hlen : ns.length ≤ n := by
    unfold OpenLaw.pre at hc
    have h4 : (WTm.not (.lt (.lit (.int (n : Int))) (.len (.arg 0)))).holds [] { args := [.list (ns.map .int)] } = true := by
      have h4 := (holds_andW hc).1
      rw [hn] at h4
      exact h4
    have h5 := condW_of h4 (w_not (w_lt w_lit (w_len_list (w_arg rfl))))
    rw [List.length_map] at h5
    refine Nat.le_of_not_lt fun q => ?_
    have q' : (n : Int) < ((ns.length : Nat) : Int) := by omega
    first
      | (rw [decide_eq_true q'] at h5; exact absurd h5 (by decide))
      | (simp at h5; omega)
  cases hwl with
  | cons w1 w2 =>
    cases w2
    cases w1 with
    | list ho hall => exact ⟨_, _, ns, rfl, rfl, ho, ints_of_wellAll ns _ hall, hlen⟩

theorem post_true (l : OpenLaw) (args : List WData) : l.row.toRowW.claim.post args (.bool true) args = true :=
  postW_of (r := l.row.toRowW) (X := (true == true))
    (show WShape.has [] (.bool true) .bool = true by first | rfl | decide | simp [WShape.has, WShape.arms, WShape.armsAll])
    (show (WTm.eq .res (.lit (.bool true))).value [] { args := args, res := some (.bool true), after := args } = some (.bool (true == true)) from w_eq_bool (w_res rfl) w_lit) rfl

/-! ### the attachment: holds_open's last premise (the goal 'hc' behind k_head) from a wpAny of the law's body -/
/-! ### rules over ANY heap (no ledger) from facts about the written part K: the library's own take a ledger (News) for what they write -/
section
variable {prog : Program} {w : World} {A : Around} {E : Value → Shared → Prop} {s : Shared} {K : Frag}

/-! the whole heap as the ledger: makes every rule that writes through a ledger a rule over any heap -/
end
end Att

namespace L2
open PySem PySem.Spec PyProof.Rows

theorem vals_ints : ∀ {vs : List Value} {ns : List Int}, IntsAre vs ns → Vals (ns.map V.int) vs
  | _, _, .nil => .nil
  | _, _, .cons n t h => .cons ⟨t, rfl⟩ (vals_ints h)

/-- nothing is tracked but the script, known to the object (or it is an object of the module) -/
def Only (H : Hp) : Prop := ∀ b, H b = none ∨ ∃ o xs, H b = some (.frz o (.lst xs))

/-- THE HEAD: the law's promise, at the heap behind the top. F, the promise of the law's def, may use that base is part of the heap (so K.In base, base.Ns mainGlobals mg stand in Mod) -/
theorem law_call {P : Program} {w : World} {K : PySem.W.Frag} {mg mb : Str → Option Value} {CX : CXT} {k : Nat} {fa a : Addr} {fd : FuncData} {x : Str} {sp : Sp} {s₁ : Shared} {vs : List Value} {ns : List Int}
    (KX : K.In s₁.heap) (hns : s₁.heap.Ns mainGlobals mg) (hb : s₁.heap.Ns builtinsNs mb) (hbb : ∀ x : Str, x ≠ "__name__" → mb x = bootBuiltins x) (hlim : s₁.heap.NoLimit) (hg : s₁.gens = #[])
    (ha : s₁.heap.get? a = some { cls := .type "list", data := .seq vs.toArray }) (hi : IntsAre vs ns) (hl : ns.length ≤ sizeLine) (hr : Room k callerA)
    (F : ∀ base : Heap, K.In base → base.Ns mainGlobals mg → FnOk P w K mg base CX k fa fd [x] sp) (hbind : ∀ (s : Shared) (u : Value), BindsTo s fd ⟨[u], []⟩ [(x, u)])
    (hsp : ∀ H : Hp, Only H → SqL K H a (ns.map V.int) → sp [.ref a] H (fun v _ => v = .bl true) fun _ _ _ => False)
    (hCX : ∀ H e s', CX [] H s₁ (fun _ _ _ => False) e s' → False) :
    codeAny (model P w) callerA (.call (.ref fa) ⟨[.ref a], []⟩) (fun r s' => r = .ok (.ret (.bool true)) ∧ OldK s₁.heap s'.heap ∧ s'.os = s₁.os ∧ AllBare s'.gens) s₁ := by
  have rv := vals_ints hi
  have lenV := hi.length
  -- from an abstract heap in which nothing but the script may be tracked
  have core : ∀ H : Hp, Only H → SqL K H a (ns.map V.int) → HOk P w H s₁.heap → (∀ b, H b ≠ none → b = a) → (H a ≠ none → K.lookup a = none) →
      codeAny (model P w) callerA (.call (.ref fa) ⟨[.ref a], []⟩) (fun r s' => r = .ok (.ret (.bool true)) ∧ OldK s₁.heap s'.heap ∧ s'.os = s₁.os ∧ AllBare s'.gens) s₁ := by
    intro H hO hS hok hA hK
    have base_of : ∀ {b : Addr} {o : Obj}, s₁.heap.get? b = some o → H b = none → (hidT s₁.heap H).get? b = some o := fun e n => hidT_get e n
    have noA : ∀ {b : Addr} {o : Obj} {es : Array DictEntry} {ep : Nat}, s₁.heap.get? b = some o → o.data = .dict es ep → H b = none := fun {b o es ep} e d => by
      cases q : H b with
      | none => rfl
      | some u =>
        have e' : b = a := hA b (by rw [q]; simp)
        subst e'
        rw [ha] at e; cases e
        have d' : Data.seq vs.toArray _ = Data.dict es ep := d
        cases d'
    have nsK : ∀ {b : Addr} {m : Str → Option Value}, s₁.heap.Ns b m → (hidT s₁.heap H).Ns b m := fun {b m} ⟨o, es, ep, e, d, r⟩ => ⟨o, es, ep, base_of e (noA e d), d, r⟩
    have hKb : K.In (hidT s₁.heap H) := fun b o e => base_of (KX b o e) (by
      cases q : H b with
      | none => rfl
      | some u =>
        have e' : b = a := hA b (by rw [q]; simp)
        subst e'
        rw [hK (by rw [q]; simp)] at e; cases e)
    have hM : Mod K mg (hidT s₁.heap H) := ⟨hKb, nsK hns, ⟨mb, nsK hb, hbb⟩, let ⟨mc, h1, h2⟩ := hlim; ⟨mc, nsK h1, h2⟩⟩
    have e0 : Env0 P w K mg (hidT s₁.heap H) callerA [] s₁ H := ⟨rfl, hM, fun b o e => of_hidT e, Nat.le_of_eq (hidT_size _ _), trivial, fun b hb => absurd (show b ∈ ([] : List Addr) from hb) (by simp), hok, .of_eq hg⟩
    refine codeAny_mono ((F _ hKb (nsK hns)).run callerA [] s₁ H ⟨[.ref a], []⟩ [.ref a] [.ref a] _ _ hr e0 (hbind s₁ (.ref a)) (.cons rfl .nil) (hsp H hO hS)) fun r s' h => ?_
    cases r with
    | error e => exact (hCX H e s' h).elim
    | ok fl =>
      cases fl with
      | next => exact False.elim h
      | brk => exact False.elim h
      | cont => exact False.elim h
      | ret u =>
        obtain ⟨v, H', os, bare, un, hok', r', q⟩ := h
        have q' : v = .bl true := q
        subst q'
        obtain rfl : u = Value.bool true := r'
        refine ⟨rfl, OldK.of_keep fun b o e => ?_, os, bare⟩
        cases q : H b with
        | none => exact un.keep b o e q (by intro z; exact absurd (show b ∈ ([] : List Addr) from z) (by simp)) (by simp)
        | some u =>
          rcases hO b with z | ⟨ob, xs, z⟩
          · rw [q] at z; cases z
          · have z2 := un.frzs b ob _ z
            obtain ⟨e1, _⟩ := hok b _ z
            obtain ⟨e2, _⟩ := hok' b _ z2
            rw [e] at e1; cases e1
            exact e2
  cases hk : K.lookup a with
  | some o =>
    -- the script is one of the module's own objects
    have e := KX a o hk
    rw [ha] at e
    cases e
    refine core (fun _ => none) (fun _ => .inl rfl) (.inr ⟨_, vs.toArray, _, hk, rfl, rfl, rfl, by rw [List.size_toArray, lenV]; exact hl, by simpa using rv⟩) (fun b u z => by have z' : (none : Option HO) = some u := z; cases z') (fun b z => absurd rfl z) fun z => absurd rfl z
  | none =>
    refine core (fun b => if b = a then some (.frz { cls := .type "list", data := .seq vs.toArray } (.lst (ns.map V.int))) else none) (fun b => ?_) (.inl (.inr ⟨{ cls := .type "list", data := .seq vs.toArray }, if_pos rfl⟩)) (fun b u z => ?_) (fun b z => ?_) fun _ => hk
    · by_cases hb : b = a
      · exact .inr ⟨_, _, if_pos hb⟩
      · exact .inl (if_neg hb)
    · by_cases hb : b = a
      · have z' := (if_pos hb).symm.trans z
        cases z'
        subst hb
        exact ⟨ha, by rw [List.length_map]; exact hl, vs, _, rv, ha⟩
      · have z' := (if_neg hb).symm.trans z
        cases z'
    · by_cases hb : b = a
      · exact hb
      · exact absurd (if_neg hb) z
end L2

namespace L2
open PySem PySem.Spec PyProof.Rows

end L2

/- THE LAST THEOREM (shape; LID, My.* are yours):
   My.Adr: a structure of the addresses that your layer names (classes, functions); My.Txt K t: a structure (Prop) of the equations over K;
   My.txt_mk : {K} {implicit addresses ..} (e1 : nsIn K mainGlobals "law" = some (some (.ref f))) (e2 : K.lookup f = some ⟨oc, od, .func (fnOf "law" "law" params body scope dV kV doc pm an cdv ct), sl⟩) (e3 : codeIn K cdv "law" = true) .. : ∃ t, My.Txt K t

(the tactic k_is has no namespace: write k_is) -/

/-! SHORT WORDS over the layer: a def of the text, its body, what a loop and a test want. -/
namespace L2
open PySem PySem.Spec PyProof.Rows

/-! ### the text by places -/
def defArgs (s : Stmt) : Arguments := match s with
  | .FunctionDef _ a _ _ _ _ _ _ _ _ => a
  | _ => { posonlyargs := [], args := [], vararg := none, kwonlyargs := [], kw_defaults := [], kwarg := none, defaults := [] }
def defBody (s : Stmt) : List Stmt := match s with
  | .FunctionDef _ _ b _ _ _ _ _ _ _ => b
  | _ => []
def defScope (s : Stmt) : Scope := match s with
  | .FunctionDef _ _ _ _ _ _ sc _ _ _ => sc
  | _ => { kind := .function, names := [], isGenerator := false, isCoroutine := false }

/-! ### no exception leaves a def -/
abbrev CX0 : CXT := fun _ _ _ _ _ _ => False
abbrev E0 : XK := fun _ _ _ => False
theorem pass0 {X : Cx} : Passes CX0 X E0 := fun _ _ _ _ _ _ _ h => h.elim

/-! ### a def (or method) of the text as it stands behind the top -/
structure Fun (K : PySem.W.Frag) (x qual : Str) (st : Stmt) (f : Addr) (fd : FuncData) : Prop where
  ex : ∃ (oc : Value) (od : Option Addr) (kV doc pm : Value) (an : Option Addr) (cdv ct : Value) (osl : Array (Option Value)),
    fd = PySem.W.fnOf x qual (defArgs st) (defBody st) (defScope st) .none kV doc pm an cdv ct ∧ K.lookup f = some ⟨oc, od, .func fd, osl⟩ ∧ PySem.W.codeIn K cdv qual = true
  kp : PySem.W.keepIn K (.ref f) = true
section
variable {P : Program} {w : World} {K : PySem.W.Frag} {mg : Str → Option Value} {base : Heap}
/-- THE RULE for a def: its body as a term of rules, and the reading of that term -/
theorem Fun.ok {x qual : Str} {st : Stmt} {f : Addr} {fd : FuncData} {N ps : List Str} {k : Nat} {sp : Sp} (F : Fun K x qual st f fd) (S : FnScope N ps (defScope st)) (len : ∀ vs H Q E, sp vs H Q E → vs.length = ps.length)
    (hbody : ∀ (cdv : Value) (A : Around) (outer : List Env) (s : Shared) (H : Hp) (vs : List V) (Q : VK) (E : XK), Room k (A.deeper (envOfC qual (defScope st) s.heap.objs.size f cdv)) → sp vs H Q E →
      ∃ t, PSs (cxOf CX0 P w K mg base N qual (defScope st) f cdv A outer s H E).nox (defBody st) t ∧ t { nx := fun _ H' => Q .non H', rt := Q } (start N vs) H) : FnOk P w K mg base CX0 (k + 1) f fd ps sp := by
  obtain ⟨oc, od, kV, doc, pm, an, cdv, ct, osl, rfl, lk, hcd⟩ := F.ex
  refine fn_of lk hcd S len fun A outer s H vs Q E hr hsp => ?_
  obtain ⟨t, h, q⟩ := hbody cdv A outer s H vs Q E hr hsp
  exact ⟨t, h.nox, q⟩
/-- how its arguments bind (no defaults): h is «fun _ _ _ _ _ _ us hl => match us, hl with | [_, _], _ => rfl», one _ a parameter -/
theorem Fun.binds {x qual : Str} {st : Stmt} {f : Addr} {fd : FuncData} {ps : List Str} (F : Fun K x qual st f fd)
    (h : ∀ (kV doc pm : Value) (an : Option Addr) (cdv ct : Value) (us : List Value), us.length = ps.length → bindArgs (PySem.W.fnOf x qual (defArgs st) (defBody st) (defScope st) .none kV doc pm an cdv ct) ⟨us, []⟩ = pure (ps.zip us)) : Binds K fd ps [] := by
  obtain ⟨oc, od, kV, doc, pm, an, cdv, ct, osl, rfl, lk, hcd⟩ := F.ex
  exact .all (h kV doc pm an cdv ct)
theorem fun_mk {x qual : Str} {st : Stmt} {f : Addr} {oc : Value} {od an : Option Addr} {osl : Array (Option Value)} {kV doc pm cdv ct : Value} (l : K.lookup f = some ⟨oc, od, .func (PySem.W.fnOf x qual (defArgs st) (defBody st) (defScope st) .none kV doc pm an cdv ct), osl⟩)
    (c : PySem.W.codeIn K cdv qual = true) (k : PySem.W.keepIn K (.ref f) = true) : Fun K x qual st f (PySem.W.fnOf x qual (defArgs st) (defBody st) (defScope st) .none kV doc pm an cdv ct) := ⟨⟨oc, od, kV, doc, pm, an, cdv, ct, osl, rfl, l, c⟩, k⟩
end
theorem small1000 {n : Nat} (h : n ≤ 1000) : n < sizeLine := Nat.lt_of_le_of_lt h (by decide)

/-! ### expressions in short: the name that stands in the i-th slot -/
section
variable {X : Cx}
end

/-! ### tests -/
theorem iteF {A B : Prop} (h : B) : if false = true then A else B := by
  rw [if_neg Bool.false_ne_true]
  exact h
theorem iteT {A B : Prop} (h : A) : if true = true then A else B := by
  rw [if_pos rfl]
  exact h
/-! ### heaps -/
/-- all that was tracked is as it was -/
def Same (H H' : Hp) : Prop := ∀ b o, H b = some o → H' b = some o
theorem Same.refl (H : Hp) : Same H H := fun _ _ h => h
theorem Same.trans {H H1 H2 : Hp} (a : Same H H1) (b : Same H1 H2) : Same H H2 := fun c o h => b c o (a c o h)
theorem Same.free {H H' : Hp} (e : Same H H') {l : Addr} (h : H' l = Option.none) : H l = Option.none := by
  cases q : H l with
  | none => rfl
  | some o =>
    rw [e l o q] at h
    cases h
theorem Same.seq {K : PySem.W.Frag} {H H' : Hp} {a : Addr} {xs : List V} (e : Same H H') (h : SqL K H a xs) : SqL K H' a xs := by
  rcases h with (h | ⟨o, h⟩) | h
  · exact .inl (.inl (e _ _ h))
  · exact .inl (.inr ⟨o, e _ _ h⟩)
  · exact .inr h

end L2

set_option maxHeartbeats 400000

/-! FL: a heap-free reading of the layer: values are data D, a def is a relation between data. -/
namespace FL
open PySem PySem.Spec PyProof.Rows L2

inductive D where
  | non | bl (b : Bool) | int (i : Int) | str (x : Str) | ty (n : String)
  | tup (ds : List D)
  /-- a list that is read -/
  | ls (ds : List D)
  /-- a list of this def's own making, at a -/
  | lst (a : Addr) (ds : List D)
  /-- an object of which only its place is told -/
  | ob (a : Addr)

mutual
inductive Is (K : PySem.W.Frag) (H : Hp) : V → D → Prop
  | non : Is K H .non .non
  | bl (b : Bool) : Is K H (.bl b) (.bl b)
  | int (i : Int) : Is K H (.int i) (.int i)
  | str (x : Str) : Is K H (.str x) (.str x)
  | ty (n : String) : Is K H (.ty n) (.ty n)
  | tup {a : Addr} {xs : List V} {ds : List D} (h : SqT K H a xs) (r : IsAll K H xs ds) : Is K H (.ref a) (.tup ds)
  | ls {a : Addr} {xs : List V} {ds : List D} (h : SqL K H a xs) (r : IsAll K H xs ds) : Is K H (.ref a) (.ls ds)
  | lst {a : Addr} {xs : List V} {ds : List D} (h : H a = some (.lst xs)) (r : IsAll K H xs ds) : Is K H (.ref a) (.lst a ds)
  | ob (a : Addr) : Is K H (.ref a) (.ob a)
inductive IsAll (K : PySem.W.Frag) (H : Hp) : List V → List D → Prop
  | nil : IsAll K H [] []
  | cons {v : V} {vs : List V} {d : D} {ds : List D} (h : Is K H v d) (r : IsAll K H vs ds) : IsAll K H (v :: vs) (d :: ds)
end

theorem sameT {K : PySem.W.Frag} {H H' : Hp} {a : Addr} {xs : List V} (e : Same H H') (h : SqT K H a xs) : SqT K H' a xs := by
  rcases h with (h | ⟨o, h⟩) | h
  · exact .inl (.inl (e _ _ h))
  · exact .inl (.inr ⟨o, e _ _ h⟩)
  · exact .inr h

mutual
theorem Is.mono {K : PySem.W.Frag} {H H' : Hp} (e : Same H H') : ∀ {v : V} {d : D}, Is K H v d → Is K H' v d
  | _, _, .non => .non
  | _, _, .bl b => .bl b
  | _, _, .int i => .int i
  | _, _, .str x => .str x
  | _, _, .ty n => .ty n
  | _, _, .tup h r => .tup (sameT e h) (IsAll.mono e r)
  | _, _, .ls h r => .ls (e.seq h) (IsAll.mono e r)
  | _, _, .lst h r => .lst (e _ _ h) (IsAll.mono e r)
  | _, _, .ob a => .ob a
theorem IsAll.mono {K : PySem.W.Frag} {H H' : Hp} (e : Same H H') : ∀ {vs : List V} {ds : List D}, IsAll K H vs ds → IsAll K H' vs ds
  | _, _, .nil => .nil
  | _, _, .cons h r => .cons (Is.mono e h) (IsAll.mono e r)
end

theorem IsAll.length {K : PySem.W.Frag} {H : Hp} : ∀ {vs : List V} {ds : List D}, IsAll K H vs ds → vs.length = ds.length
  | _, _, .nil => rfl
  | _, _, .cons _ r => by simp [IsAll.length r]
theorem IsAll.get {K : PySem.W.Frag} {H : Hp} : ∀ {vs : List V} {ds : List D}, IsAll K H vs ds → ∀ {i : Nat} {d : D}, ds[i]? = some d → ∃ v, vs[i]? = some v ∧ Is K H v d
  | _, _, .nil, i, d, e => by simp at e
  | _, _, .cons h r, 0, d, e => by simp at e; subst e; exact ⟨_, rfl, h⟩
  | _, _, .cons h r, i + 1, d, e => by
    obtain ⟨v, e1, h1⟩ := IsAll.get r (i := i) (d := d) (by simpa using e)
    exact ⟨v, by simpa using e1, h1⟩
theorem IsAll.get' {K : PySem.W.Frag} {H : Hp} : ∀ {vs : List V} {ds : List D}, IsAll K H vs ds → ∀ {i : Nat} {v : V}, vs[i]? = some v → ∃ d, ds[i]? = some d ∧ Is K H v d
  | _, _, .nil, i, d, e => by simp at e
  | _, _, .cons h r, 0, d, e => by simp at e; subst e; exact ⟨_, rfl, h⟩
  | _, _, .cons h r, i + 1, d, e => by
    obtain ⟨v, e1, h1⟩ := IsAll.get' r (i := i) (v := d) (by simpa using e)
    exact ⟨v, by simpa using e1, h1⟩
theorem IsAll.append {K : PySem.W.Frag} {H : Hp} : ∀ {vs us : List V} {ds es : List D}, IsAll K H vs ds → IsAll K H us es → IsAll K H (vs ++ us) (ds ++ es)
  | _, _, _, _, .nil, s => s
  | _, _, _, _, .cons h r, s => .cons h (IsAll.append r s)
theorem IsAll.ints {K : PySem.W.Frag} {H : Hp} : ∀ (ns : List Int), IsAll K H (ns.map V.int) (ns.map D.int)
  | [] => .nil
  | n :: ns => .cons (.int n) (IsAll.ints ns)

theorem Is.int_inv {K : PySem.W.Frag} {H : Hp} {v : V} {i : Int} (h : Is K H v (.int i)) : v = .int i := by cases h; rfl
theorem Is.bl_inv {K : PySem.W.Frag} {H : Hp} {v : V} {b : Bool} (h : Is K H v (.bl b)) : v = .bl b := by cases h; rfl
theorem Is.str_inv {K : PySem.W.Frag} {H : Hp} {v : V} {x : Str} (h : Is K H v (.str x)) : v = .str x := by cases h; rfl
theorem Is.ty_inv {K : PySem.W.Frag} {H : Hp} {v : V} {x : String} (h : Is K H v (.ty x)) : v = .ty x := by cases h; rfl
theorem Is.non_inv {K : PySem.W.Frag} {H : Hp} {v : V} (h : Is K H v .non) : v = .non := by cases h; rfl
theorem Is.tup_inv {K : PySem.W.Frag} {H : Hp} {v : V} {ds : List D} (h : Is K H v (.tup ds)) : ∃ a xs, v = .ref a ∧ SqT K H a xs ∧ IsAll K H xs ds := by
  cases h with
  | tup h r => exact ⟨_, _, rfl, h, r⟩
theorem Is.lst_inv {K : PySem.W.Frag} {H : Hp} {v : V} {ds : List D} {a : Addr} (h : Is K H v (.lst a ds)) : v = .ref a ∧ ∃ xs, H a = some (.lst xs) ∧ IsAll K H xs ds := by
  cases h with
  | lst h r => exact ⟨rfl, _, h, r⟩
theorem Is.ls_inv {K : PySem.W.Frag} {H : Hp} {v : V} {ds : List D} (h : Is K H v (.ls ds)) : ∃ a xs, v = .ref a ∧ SqL K H a xs ∧ IsAll K H xs ds := by
  cases h with
  | ls h r => exact ⟨_, _, rfl, h, r⟩
/-- the items of what is read as a list -/
def lsD : D → Option (List D)
  | .ls ds => some ds
  | .lst _ ds => some ds
  | _ => none
theorem Is.lsD_inv {K : PySem.W.Frag} {H : Hp} {v : V} {d : D} {ds : List D} (h : Is K H v d) (e : lsD d = some ds) : ∃ a xs, v = .ref a ∧ SqL K H a xs ∧ IsAll K H xs ds := by
  cases d with
  | ls es => cases e; exact h.ls_inv
  | lst a es => cases e; obtain ⟨h1, xs, h2, h3⟩ := h.lst_inv; exact ⟨a, xs, h1, .of h2, h3⟩
  | _ => cases e

/-- no list within: no store touches it -/
inductive Fz : D → Prop
  | non : Fz .non
  | bl (b : Bool) : Fz (.bl b)
  | int (i : Int) : Fz (.int i)
  | str (x : Str) : Fz (.str x)
  | ty (n : String) : Fz (.ty n)
  | ob (a : Addr) : Fz (.ob a)
  | tup {ds : List D} (h : ∀ d ∈ ds, Fz d) : Fz (.tup ds)
theorem Fz.tup_inv {ds : List D} (h : Fz (.tup ds)) : ∀ d ∈ ds, Fz d := by cases h with | tup h => exact h
theorem Fz.no_ls {ds : List D} (h : Fz (.ls ds)) : False := by cases h
theorem Fz.no_lst {a : Addr} {ds : List D} (h : Fz (.lst a ds)) : False := by cases h
/-- what stays through any store: tuples and frozen things -/
def KT (H H' : Hp) : Prop := (∀ b xs, H b = some (.tup xs) → H' b = some (.tup xs)) ∧ ∀ b o u, H b = some (.frz o u) → H' b = some (.frz o u)
theorem KT.seqT {K : PySem.W.Frag} {H H' : Hp} {a : Addr} {xs : List V} (e : KT H H') (h : SqT K H a xs) : SqT K H' a xs := by
  rcases h with (h | ⟨o, h⟩) | h
  · exact .inl (.inl (e.1 _ _ h))
  · exact .inl (.inr ⟨o, e.2 _ _ _ h⟩)
  · exact .inr h
mutual
theorem Is.keep {K : PySem.W.Frag} {H H' : Hp} (e : KT H H') : ∀ {v : V} {d : D}, Is K H v d → Fz d → Is K H' v d
  | _, _, .non, _ => .non
  | _, _, .bl b, _ => .bl b
  | _, _, .int i, _ => .int i
  | _, _, .str x, _ => .str x
  | _, _, .ty n, _ => .ty n
  | _, _, .tup h r, f => .tup (e.seqT h) (IsAll.keep e r f.tup_inv)
  | _, _, .ls _ _, f => f.no_ls.elim
  | _, _, .lst _ _, f => f.no_lst.elim
  | _, _, .ob a, _ => .ob a
theorem IsAll.keep {K : PySem.W.Frag} {H H' : Hp} (e : KT H H') : ∀ {vs : List V} {ds : List D}, IsAll K H vs ds → (∀ d ∈ ds, Fz d) → IsAll K H' vs ds
  | _, _, .nil, _ => .nil
  | _, _, .cons h r, f => .cons (Is.keep e h (f _ List.mem_cons_self)) (IsAll.keep e r fun d hd => f d (List.mem_cons_of_mem _ hd))
end

abbrev Ro := List (Option D)
/-- a list of the def's own making stands in a slot -/
def Mu (ρ : Ro) (a : Addr) : Prop := ∃ (i : Nat) (ds : List D), ρ[i]? = some (some (.lst a ds))
/-- the frame's names hold these data; what was tracked at the entry is as it was; what is neither plain data nor a list of the def's own was there at the entry -/
structure RelS (X : Cx) (Hb H : Hp) (σ : L2.St) (ρ : Ro) : Prop where
  same : Same Hb H
  len : σ.length = ρ.length
  val : ∀ (i : Nat) (d : D), ρ[i]? = some (some d) → ∃ v, σ[i]? = some (some v) ∧ Is X.K H v d ∧ (Fz d ∨ Is X.K Hb v d ∨ ∃ a ds, d = .lst a ds ∧ ∀ e ∈ ds, Fz e)
  own : ∀ a, Mu ρ a → Hb a = none
theorem RelS.mono {X : Cx} {Hb H H' : Hp} {σ : L2.St} {ρ : Ro} (r : RelS X Hb H σ ρ) (e : Same H H') : RelS X Hb H' σ ρ :=
  ⟨r.same.trans e, r.len, fun i d h => let ⟨v, a, b, c⟩ := r.val i d h; ⟨v, a, b.mono e, c⟩, r.own⟩
theorem RelS.mu {X : Cx} {Hb H : Hp} {σ : L2.St} {ρ : Ro} (r : RelS X Hb H σ ρ) {a : Addr} (h : Mu ρ a) : ∃ xs, H a = some (.lst xs) := by
  obtain ⟨i, ds, e⟩ := h
  obtain ⟨v, _, h, _⟩ := r.val i _ e
  obtain ⟨_, xs, h, _⟩ := h.lst_inv
  exact ⟨xs, h⟩
theorem set_get {ρ : Ro} {n j : Nat} {d e : D} (h : (ρ.set n (some d))[j]? = some (some e)) : (j = n ∧ e = d ∧ n < ρ.length) ∨ (j ≠ n ∧ ρ[j]? = some (some e)) := by
  by_cases hji : n = j
  · subst hji
    rw [List.getElem?_set, if_pos rfl] at h
    by_cases hl : n < ρ.length
    · rw [if_pos hl] at h
      cases h
      exact .inl ⟨rfl, rfl, hl⟩
    · rw [if_neg hl] at h; cases h
  · rw [List.getElem?_set_ne hji] at h
    exact .inr ⟨fun z => hji z.symm, h⟩
theorem RelS.set {X : Cx} {Hb H : Hp} {σ : L2.St} {ρ : Ro} (r : RelS X Hb H σ ρ) {v : V} {d : D} (h : Is X.K H v d) (n : Nat) (hf : Fz d ∨ Is X.K Hb v d ∨ ∃ a ds, d = .lst a ds ∧ ∀ e ∈ ds, Fz e) (ho : ∀ a ds, d = .lst a ds → Hb a = none) :
    RelS X Hb H (σ.set n (some v)) (ρ.set n (some d)) := by
  refine ⟨r.same, by simp [r.len], fun j e hj => ?_, fun a ⟨j, ds, hj⟩ => ?_⟩
  · rcases set_get hj with ⟨rfl, rfl, hl⟩ | ⟨hne, hj⟩
    · refine ⟨v, ?_, h, hf⟩
      rw [List.getElem?_set, if_pos rfl, if_pos (by rw [r.len]; exact hl)]
    · obtain ⟨u, h1, h2⟩ := r.val j e hj
      exact ⟨u, by rw [List.getElem?_set_ne (fun z => hne z.symm)]; exact h1, h2⟩
  · rcases set_get hj with ⟨rfl, e, hl⟩ | ⟨hne, hj⟩
    · exact ho a ds e.symm
    · exact r.own a ⟨j, ds, hj⟩
/-- from one point of a body to a later one -/
structure Go (ρ : Ro) (H : Hp) (ρ' : Ro) (H' : Hp) : Prop where
  kept : ∀ b o, H b = some o → ¬ Mu ρ b → H' b = some o
  mu : ∀ a, Mu ρ' a → Mu ρ a ∨ H a = none
theorem Go.refl (ρ : Ro) (H : Hp) : Go ρ H ρ H := ⟨fun _ _ h _ => h, fun _ h => .inl h⟩
theorem Go.trans {ρ ρ1 ρ2 : Ro} {H H1 H2 : Hp} (a : Go ρ H ρ1 H1) (b : Go ρ1 H1 ρ2 H2) : Go ρ H ρ2 H2 where
  kept := fun c o h n => b.kept c o (a.kept c o h n) fun m => by
    rcases a.mu c m with z | z
    · exact n z
    · rw [h] at z; cases z
  mu := fun c m => by
    rcases b.mu c m with z | z
    · exact a.mu c z
    · by_cases hc : Mu ρ c
      · exact .inl hc
      · refine .inr ?_
        cases q : H c with
        | none => rfl
        | some o => rw [a.kept c o q hc] at z; cases z
theorem Go.same {ρ : Ro} {H H' : Hp} (e : Same H H') : Go ρ H ρ H' := ⟨fun b o h _ => e b o h, fun _ h => .inl h⟩
theorem Go.kt {X : Cx} {ρ ρ' : Ro} {Hb H H' : Hp} {σ : L2.St} (g : Go ρ H ρ' H') (r : RelS X Hb H σ ρ) : KT H H' :=
  ⟨fun b _ h => g.kept b _ h (fun m => by obtain ⟨ys, e⟩ := r.mu m; rw [h] at e; cases e), fun b _ _ h => g.kept b _ h (fun m => by obtain ⟨ys, e⟩ := r.mu m; rw [h] at e; cases e)⟩
theorem Go.set {ρ : Ro} {H H' : Hp} (e : Same H H') {d : D} {n : Nat} (hd : ∀ a ds, d = .lst a ds → Mu ρ a ∨ H a = none) : Go ρ H (ρ.set n (some d)) H' :=
  ⟨fun b o h _ => e b o h, fun a ⟨j, ds, hj⟩ => by
    rcases set_get hj with ⟨rfl, q, _⟩ | ⟨_, hj⟩
    · exact hd a ds q.symm
    · exact .inl ⟨j, ds, hj⟩⟩

/-- the names' data alone: what an expression needs -/
structure RelE (X : Cx) (H : Hp) (σ : L2.St) (ρ : Ro) : Prop where
  len : σ.length = ρ.length
  val : ∀ (i : Nat) (d : D), ρ[i]? = some (some d) → ∃ v, σ[i]? = some (some v) ∧ Is X.K H v d
theorem RelE.mono {X : Cx} {H H' : Hp} {σ : L2.St} {ρ : Ro} (r : RelE X H σ ρ) (e : Same H H') : RelE X H' σ ρ := ⟨r.len, fun i d h => let ⟨v, a, b⟩ := r.val i d h; ⟨v, a, b.mono e⟩⟩
theorem RelS.e {X : Cx} {Hb H : Hp} {σ : L2.St} {ρ : Ro} (r : RelS X Hb H σ ρ) : RelE X H σ ρ := ⟨r.len, fun i d h => let ⟨v, a, b, _⟩ := r.val i d h; ⟨v, a, b⟩⟩

/-- the int in a slot -/
def intAt (ρ : Ro) (i : Nat) : Int := match ρ[i]? with
  | some (some (D.int l)) => l
  | _ => 0

/-! ### the judgements -/
def tD (X : Cx) (ρ : Ro) (d : D) : TE := fun σ H Q => RelE X H σ ρ ∧ ∀ v H', Same H H' → Is X.K H' v d → Q v H'
def tB (X : Cx) (ρ : Ro) (b : Bool) : TT := fun σ H Q => RelE X H σ ρ ∧ ∀ H', Same H H' → Q b H'
def tDs (X : Cx) (ρ : Ro) (ds : List D) : TA := fun σ H Q => RelE X H σ ρ ∧ ∀ vs H', Same H H' → IsAll X.K H' vs ds → Q vs H'
def Ev (X : Cx) (e : Expr) (ρ : Ro) (d : D) : Prop := PE X e (tD X ρ d)
def Et (X : Cx) (e : Expr) (ρ : Ro) (b : Bool) : Prop := PT X e (tB X ρ b)
def Ew (X : Cx) (e : Expr) (ρ : Ro) (b : Bool) : Prop := PW X e (tB X ρ b)
def EvA (X : Cx) (es : List Expr) (ρ : Ro) (ds : List D) : Prop := PA X es (tDs X ρ ds)

section
variable {X : Cx} {e a b c : Expr} {es : List Expr} {ρ : Ro} {d : D} {ds : List D} {pos : Pos} {i j : Int} {k k' : Bool}

theorem Ev.tt {p : Prop} [Decidable p] (h : Ev X e ρ (.bl (decide p))) (hp : p) : Ev X e ρ (.bl true) := by rw [decide_eq_true hp] at h; exact h
theorem Ev.ff {p : Prop} [Decidable p] (h : Ev X e ρ (.bl (decide p))) (hp : ¬ p) : Ev X e ρ (.bl false) := by rw [decide_eq_false hp] at h; exact h
theorem Et.tt {p : Prop} [Decidable p] (h : Et X e ρ (decide p)) (hp : p) : Et X e ρ true := by rw [decide_eq_true hp] at h; exact h
theorem Et.ff' {p : Prop} [Decidable p] (h : Et X e ρ (decide p)) (hp : ¬ p) : Et X e ρ false := by rw [decide_eq_false hp] at h; exact h
/-- a != b where they are the same -/
theorem Et.ff {p : Prop} [Decidable p] (h : Et X e ρ (!decide p)) (hp : p) : Et X e ρ false := by rw [decide_eq_true hp] at h; exact h
theorem PE.imp {t t' : TE} (h : PE X e t) (f : ∀ σ H Q, t' σ H Q → t σ H Q) : PE X e t' := fun pins s σ H Q I q => h pins s σ H Q I (f σ H Q q)
theorem PT.imp {t t' : TT} (h : PT X e t) (f : ∀ σ H Q, t' σ H Q → t σ H Q) : PT X e t' := fun pins s σ H Q I q => h pins s σ H Q I (f σ H Q q)
theorem PW.imp {t t' : TT} (h : PW X e t) (f : ∀ σ H Q, t' σ H Q → t σ H Q) : PW X e t' := fun whole pins s σ H Q I q => h whole pins s σ H Q I (f σ H Q q)
theorem PA.imp {t t' : TA} (h : PA X es t) (f : ∀ σ H Q, t' σ H Q → t σ H Q) : PA X es t' := fun pos pins s σ H Q I q => h pos pins s σ H Q I (f σ H Q q)
theorem PS.imp {st : Stmt} {t t' : TS} (h : PS X st t) (f : ∀ D σ H, t' D σ H → t D σ H) : PS X st t' := fun pins s σ H D I q => h pins s σ H D I (f D σ H q)
theorem PSs.imp {st : List Stmt} {t t' : TS} (h : PSs X st t) (f : ∀ D σ H, t' D σ H → t D σ H) : PSs X st t' := fun pins s σ H D I q => h pins s σ H D I (f D σ H q)

theorem ev_v (n : Nat) {x : Str} (hρ : ρ[n]? = some (some d) := by rfl) (hN : X.N[n]? = some x := by rfl) (hv : Vis X.env.scope x := by first | exact Or.inl rfl | exact Or.inr (Or.inl rfl) | exact Or.inr (Or.inr rfl))
    (hd : (x == ("__debug__" : Str)) = false := by decide) (hcd : (x == ("__classdict__" : Str)) = false := by decide) : Ev X (.Name x pos) ρ d :=
  PE.imp (pe_var hN hv hd hcd) fun σ H Q ⟨r, q⟩ => let ⟨v, h1, h2⟩ := r.val n d hρ; ⟨v, h1, q v H (Same.refl H) h2⟩
theorem ev_int {z : Int} {m} : Ev X (.Constant (.int z) m pos) ρ (.int z) := PE.imp pe_int fun _ H _ ⟨_, q⟩ => q _ H (Same.refl H) (.int z)
theorem ev_bl {z : Bool} {m} : Ev X (.Constant (.bool z) m pos) ρ (.bl z) := PE.imp pe_bl fun _ H _ ⟨_, q⟩ => q _ H (Same.refl H) (.bl z)
/-- a built-in type by its name -/
theorem ev_ty {x : Str} {n : String} (hm : X.mg x = none) (hv : bootBuiltins x = some (.type n)) (hg : Gl X x := by rfl) (hn : x ≠ "__name__" := by decide) (hd : (x == ("__debug__" : Str)) = false := by decide) : Ev X (.Name x pos) ρ (.ty n) :=
  PE.imp (pe_bltn hg hm hv (v := .ty n) rfl hn hd) fun _ H _ ⟨_, q⟩ => q _ H (Same.refl H) (.ty n)

/-- two-place operations -/
theorem ev_op {op : Operator} {r : R2} {d1 d2 : D} (ho : OpR X (binaryOp op) r) (ha : Ev X a ρ d1) (hb : Ev X b ρ d2)
    (hr : ∀ v1 v2 H Q, Is X.K H v1 d1 → Is X.K H v2 d2 → (∀ v H', Same H H' → Is X.K H' v d → Q v H') → r v1 v2 H Q) : Ev X (.BinOp a op b pos) ρ d :=
  PE.imp (pe_op ho ha hb) fun σ H Q ⟨r, q⟩ => ⟨r, fun v1 H1 s1 h1 => ⟨r.mono s1, fun v2 H2 s2 h2 => hr v1 v2 H2 Q (h1.mono s2) h2 fun v H' s3 h3 => q v H' (s1.trans (s2.trans s3)) h3⟩⟩
theorem ev_cmp {op : CmpOp} {r : R2} {d1 d2 : D} (ho : OpR X (compareOp op) r) (ha : Ev X a ρ d1) (hb : Ev X b ρ d2) (hm : behindInMarks op b = false)
    (hr : ∀ v1 v2 H Q, Is X.K H v1 d1 → Is X.K H v2 d2 → (∀ v H', Same H H' → Is X.K H' v d → Q v H') → r v1 v2 H Q) : Ev X (.Compare a [op] [b] pos) ρ d :=
  PE.imp (pe_cmpR ho ha hb hm) fun σ H Q ⟨r, q⟩ => ⟨r, fun v1 H1 s1 h1 => ⟨r.mono s1, fun v2 H2 s2 h2 => hr v1 v2 H2 Q (h1.mono s2) h2 fun v H' s3 h3 => q v H' (s1.trans (s2.trans s3)) h3⟩⟩
theorem et_cmp {op : CmpOp} {r : R2} {d1 d2 : D} (ho : OpR X (compareOp op) r) (ha : Ev X a ρ d1) (hb : Ev X b ρ d2) (hm : behindInMarks op b = false)
    (hr : ∀ v1 v2 H Q, Is X.K H v1 d1 → Is X.K H v2 d2 → (∀ v H', Same H H' → Is X.K H' v (.bl k) → Q v H') → r v1 v2 H Q) : Et X (.Compare a [op] [b] pos) ρ k :=
  PT.imp (pt_cmpR ho ha hb hm) fun σ H Q ⟨r, q⟩ => ⟨r, fun v1 H1 s1 h1 => ⟨r.mono s1, fun v2 H2 s2 h2 => hr v1 v2 H2 _ (h1.mono s2) h2 fun v H' s3 h3 => ⟨k, h3.bl_inv, q H' (s1.trans (s2.trans s3))⟩⟩⟩

theorem rI_of {C : Int → Int → Prop} {g : Int → Int → V} (hC : C i j) (hg : ∀ H, Is X.K H (g i j) d) :
    ∀ v1 v2 H Q, Is X.K H v1 (.int i) → Is X.K H v2 (.int j) → (∀ v H', Same H H' → Is X.K H' v d → Q v H') → rI C g v1 v2 H Q :=
  fun _ _ H _ h1 h2 q => ⟨i, j, h1.int_inv, h2.int_inv, hC, q _ H (Same.refl H) (hg H)⟩
theorem rI0_of {g : Int → Int → V} (hg : ∀ H, Is X.K H (g i j) d) :
    ∀ v1 v2 H Q, Is X.K H v1 (.int i) → Is X.K H v2 (.int j) → (∀ v H', Same H H' → Is X.K H' v d → Q v H') → rI0 g v1 v2 H Q :=
  fun _ _ H _ h1 h2 q => ⟨i, j, h1.int_inv, h2.int_inv, q _ H (Same.refl H) (hg H)⟩

theorem ev_add (ha : Ev X a ρ (.int i)) (hb : Ev X b ρ (.int j)) : Ev X (.BinOp a .Add b pos) ρ (.int (i + j)) := ev_op op_add ha hb (rI0_of fun _ => .int _)
theorem ev_sub (ha : Ev X a ρ (.int i)) (hb : Ev X b ρ (.int j)) : Ev X (.BinOp a .Sub b pos) ρ (.int (i - j)) := ev_op op_sub ha hb (rI0_of fun _ => .int _)
theorem op_mulB : OpR X (binaryOp .Mult) (rI IntMulOk fun i j => .int (i * j)) := opI fun _ _ _ _ _ _ _ hc q => mul_int q hc

/-! ### sizes: a number below 2 ^ m, the exponent found by instances -/
class Bd (i : Int) (m : outParam Nat) : Prop where
  lt : Builtin.Int.intBits i ≤ m
theorem mulOk {i j : Int} {m n : Nat} (hi : Bd i m) (hj : Bd j n) (h : m + n ≤ 134217728) : IntMulOk i j := IntMulOk.of_le hi.lt hj.lt h
theorem ev_mul {m n : Nat} (ha : Ev X a ρ (.int i)) (hb : Ev X b ρ (.int j)) (hi : Bd i m) (hj : Bd j n) (h : m + n ≤ 134217728 := by decide) : Ev X (.BinOp a .Mult b pos) ρ (.int (i * j)) :=
  ev_op op_mulB ha hb (rI_of (mulOk hi hj h) fun _ => .int _)
theorem ev_mod (ha : Ev X a ρ (.int i)) (hb : Ev X b ρ (.int j)) (h : 0 < j) : Ev X (.BinOp a .Mod b pos) ρ (.int (i % j)) := ev_op op_mod ha hb (rI_of h fun _ => .int _)
theorem ev_modN (ha : Ev X a ρ (.int i)) (hb : Ev X b ρ (.int j)) (h : j ≠ 0) : Ev X (.BinOp a .Mod b pos) ρ (.int (i.fmod j)) := ev_op op_modN ha hb (rI_of h fun _ => .int _)
def CDivB (_ j : Int) : Prop := 0 < j ∧ Builtin.Int.intBits j ≤ 9000
theorem op_fdivB : OpR X (binaryOp .FloorDiv) (rI CDivB fun i j => .int (i / j)) := opI fun i j _ _ _ _ _ hc q => by
  have h1 : (0 : Int) < j := hc.1
  refine floordiv_int (by omega) (by rw [Int.fdiv_eq_ediv_of_nonneg i (by omega)]; exact q) (.inl (PyProof.noPylong_of_log2 ?_))
  have h2 := intBits_le_iff.mp hc.2
  exact (Nat.log2_lt (by omega)).mpr h2
theorem ev_div {m : Nat} (ha : Ev X a ρ (.int i)) (hb : Ev X b ρ (.int j)) (h : 0 < j) (hj : Bd j m) (hm : m ≤ 9000 := by decide) : Ev X (.BinOp a .FloorDiv b pos) ρ (.int (i / j)) :=
  ev_op op_fdivB ha hb (rI_of ⟨h, Nat.le_trans hj.lt hm⟩ fun _ => .int _)
def CPowB (i j : Int) : Prop := 0 ≤ j ∧ (Builtin.Int.intBits i : Int) * j ≤ 2 ^ 27
theorem op_powB : OpR X (binaryOp .Pow) (rI CPowB fun i j => .int (i ^ j.toNat)) := opI fun _ _ _ _ _ _ _ hc q => pow_int hc.1 hc.2 q
theorem ev_pow {m n : Nat} (ha : Ev X a ρ (.int i)) (hb : Ev X b ρ (.int ((n : Nat) : Int))) (hi : Bd i m) (h : m * n ≤ 134217728 := by decide) : Ev X (.BinOp a .Pow b pos) ρ (.int (i ^ n)) := by
  refine ev_op op_powB ha hb (rI_of ⟨Int.natCast_nonneg n, ?_⟩ fun _ => .int _)
  have h1 : Builtin.Int.intBits i * n ≤ m * n := Nat.mul_le_mul_right n hi.lt
  have h2 : (Builtin.Int.intBits i * n : Nat) ≤ 134217728 := Nat.le_trans h1 h
  have h3 : ((Builtin.Int.intBits i * n : Nat) : Int) ≤ 134217728 := by omega
  rw [Int.natCast_mul] at h3
  exact h3
theorem ev_neg (ha : Ev X a ρ (.int i)) : Ev X (.UnaryOp .USub a pos) ρ (.int (-i)) :=
  PE.imp (pe_un un_neg ha) fun σ H Q ⟨r, q⟩ => ⟨r, fun v1 H1 s1 h1 => ⟨i, h1.int_inv, q _ H1 s1 (.int _)⟩⟩

theorem ev_lt (ha : Ev X a ρ (.int i)) (hb : Ev X b ρ (.int j)) : Ev X (.Compare a [.Lt] [b] pos) ρ (.bl (decide (i < j))) := ev_cmp op_lt ha hb (nomark _) (rI0_of fun _ => .bl _)
theorem ev_gt (ha : Ev X a ρ (.int i)) (hb : Ev X b ρ (.int j)) : Ev X (.Compare a [.Gt] [b] pos) ρ (.bl (decide (j < i))) := ev_cmp op_gt ha hb (nomark _) (rI0_of fun _ => .bl _)
theorem ev_ge (ha : Ev X a ρ (.int i)) (hb : Ev X b ρ (.int j)) : Ev X (.Compare a [.GtE] [b] pos) ρ (.bl (decide (j ≤ i))) := ev_cmp op_ge ha hb (nomark _) (rI0_of fun _ => .bl _)
theorem et_lt (ha : Ev X a ρ (.int i)) (hb : Ev X b ρ (.int j)) : Et X (.Compare a [.Lt] [b] pos) ρ (decide (i < j)) := et_cmp op_lt ha hb (nomark _) (rI0_of fun _ => .bl _)
theorem et_le (ha : Ev X a ρ (.int i)) (hb : Ev X b ρ (.int j)) : Et X (.Compare a [.LtE] [b] pos) ρ (decide (i ≤ j)) := et_cmp op_le ha hb (nomark _) (rI0_of fun _ => .bl _)
theorem et_gt (ha : Ev X a ρ (.int i)) (hb : Ev X b ρ (.int j)) : Et X (.Compare a [.Gt] [b] pos) ρ (decide (j < i)) := et_cmp op_gt ha hb (nomark _) (rI0_of fun _ => .bl _)
theorem dec_V {i j : Int} : decide (V.int i = V.int j) = decide (i = j) := by
  by_cases h : i = j
  · subst h; simp
  · rw [decide_eq_false h, decide_eq_false (fun z => h (V.int.inj z))]
theorem rEq_of : ∀ v1 v2 H Q, Is X.K H v1 (.int i) → Is X.K H v2 (.int j) → (∀ v H', Same H H' → Is X.K H' v (.bl (decide (i = j))) → Q v H') → rEq v1 v2 H Q := fun v1 v2 H Q h1 h2 q => by
  cases h1.int_inv; cases h2.int_inv
  exact ⟨rfl, by rw [dec_V]; exact q _ H (Same.refl H) (.bl _)⟩
theorem rNe_of : ∀ v1 v2 H Q, Is X.K H v1 (.int i) → Is X.K H v2 (.int j) → (∀ v H', Same H H' → Is X.K H' v (.bl (!decide (i = j))) → Q v H') → rNe v1 v2 H Q := fun v1 v2 H Q h1 h2 q => by
  cases h1.int_inv; cases h2.int_inv
  exact ⟨rfl, by rw [dec_V]; exact q _ H (Same.refl H) (.bl _)⟩
theorem ev_eq (ha : Ev X a ρ (.int i)) (hb : Ev X b ρ (.int j)) : Ev X (.Compare a [.Eq] [b] pos) ρ (.bl (decide (i = j))) := ev_cmp op_eq ha hb (nomark _) rEq_of
theorem et_eq (ha : Ev X a ρ (.int i)) (hb : Ev X b ρ (.int j)) : Et X (.Compare a [.Eq] [b] pos) ρ (decide (i = j)) := et_cmp op_eq ha hb (nomark _) rEq_of
theorem et_ne (ha : Ev X a ρ (.int i)) (hb : Ev X b ρ (.int j)) : Et X (.Compare a [.NotEq] [b] pos) ρ (!decide (i = j)) := et_cmp op_ne ha hb (nomark _) rNe_of
/-! ### truth -/
theorem et_val (h : Ev X e ρ (.bl k)) (he : ∀ whole, isTrue e X.env whole = (do let v ← whole; standAt e.pos; holding [v] (truthy v)) := by intro _; rfl) : Et X e ρ k :=
  PT.imp (pt_val h he) fun σ H Q ⟨r, q⟩ => ⟨r, fun v H' s h => ⟨k, h.bl_inv, q H' s⟩⟩
theorem et_not (h : Et X a ρ k) : Et X (.UnaryOp .Not a pos) ρ (!k) := PT.imp (pt_not h) fun σ H Q ⟨r, q⟩ => ⟨r, fun H' s => q H' s⟩
theorem et_notT (h : Et X a ρ true) : Et X (.UnaryOp .Not a pos) ρ false := et_not h
theorem ew_and1 (h : Et X a ρ k) : Ew X (.BoolOp .And [a] pos) ρ k := PW.imp (pw_and1 h) fun _ _ _ q => q
theorem ew_or1 (h : Et X a ρ k) : Ew X (.BoolOp .Or [a] pos) ρ k := PW.imp (pw_or1 h) fun _ _ _ q => q
theorem ew_andF {rest : List Expr} (h : Et X a ρ false) : Ew X (.BoolOp .And (a :: b :: rest) pos) ρ false :=
  PW.imp (pw_and (tB' := fun _ _ _ => False) h (fun _ _ _ _ _ _ _ z => z.elim)) fun σ H Q ⟨r, q⟩ => ⟨r, fun H' s => iteF (q H' s)⟩
theorem ew_andT {rest : List Expr} (h : Et X a ρ true) (h2 : Ew X (.BoolOp .And (b :: rest) pos) ρ k) : Ew X (.BoolOp .And (a :: b :: rest) pos) ρ k :=
  PW.imp (pw_and h h2) fun σ H Q ⟨r, q⟩ => ⟨r, fun H' s => iteT ⟨r.mono s, fun H'' s' => q H'' (s.trans s')⟩⟩
theorem ew_and {rest : List Expr} (h : Et X a ρ k) (h2 : k = true → Ew X (.BoolOp .And (b :: rest) pos) ρ k') : Ew X (.BoolOp .And (a :: b :: rest) pos) ρ (k && k') := by
  cases k with
  | false => exact ew_andF h
  | true => exact ew_andT h (h2 rfl)
theorem ew_orT {rest : List Expr} (h : Et X a ρ true) : Ew X (.BoolOp .Or (a :: b :: rest) pos) ρ true :=
  PW.imp (pw_or (tB' := fun _ _ _ => False) h (fun _ _ _ _ _ _ _ z => z.elim)) fun σ H Q ⟨r, q⟩ => ⟨r, fun H' s => iteT (q H' s)⟩
theorem ew_orF {rest : List Expr} (h : Et X a ρ false) (h2 : Ew X (.BoolOp .Or (b :: rest) pos) ρ k) : Ew X (.BoolOp .Or (a :: b :: rest) pos) ρ k :=
  PW.imp (pw_or h h2) fun σ H Q ⟨r, q⟩ => ⟨r, fun H' s => iteF ⟨r.mono s, fun H'' s' => q H'' (s.trans s')⟩⟩
theorem ew_or {rest : List Expr} (h : Et X a ρ k) (h2 : k = false → Ew X (.BoolOp .Or (b :: rest) pos) ρ k') : Ew X (.BoolOp .Or (a :: b :: rest) pos) ρ (k || k') := by
  cases k with
  | true => exact ew_orT h
  | false => exact ew_orF h (h2 rfl)
theorem Et.to (h : Et X e ρ k) (z : k = k') : Et X e ρ k' := z ▸ h
theorem Ev.to {d' : D} (h : Ev X e ρ d) (z : d = d') : Ev X e ρ d' := z ▸ h
theorem et_w (h : Ew X e ρ k) : Et X e ρ k := PW.pt h
/-- and, or, not as values -/
theorem ev_one {op} (h : Ev X a ρ d) : Ev X (.BoolOp op [a] pos) ρ d := pe_one h
theorem ev_andF {rest : List Expr} (h : Ev X a ρ (.bl false)) : Ev X (.BoolOp .And (a :: b :: rest) pos) ρ (.bl false) :=
  PE.imp (pe_and (tb := fun _ _ _ => False) h (fun _ _ _ _ _ _ z => z.elim)) fun σ H Q ⟨r, q⟩ => ⟨r, fun v H' s h => ⟨false, h.bl_inv, iteF (q _ H' s (.bl false))⟩⟩
theorem ev_andT {rest : List Expr} (h : Ev X a ρ (.bl true)) (h2 : Ev X (.BoolOp .And (b :: rest) pos) ρ d) : Ev X (.BoolOp .And (a :: b :: rest) pos) ρ d :=
  PE.imp (pe_and h h2) fun σ H Q ⟨r, q⟩ => ⟨r, fun v H' s h => ⟨true, h.bl_inv, iteT ⟨r.mono s, fun v' H'' s' h' => q v' H'' (s.trans s') h'⟩⟩⟩
theorem ev_and {rest : List Expr} (h : Ev X a ρ (.bl k)) (h2 : k = true → Ev X (.BoolOp .And (b :: rest) pos) ρ (.bl k')) : Ev X (.BoolOp .And (a :: b :: rest) pos) ρ (.bl (k && k')) := by
  cases k with
  | false => exact ev_andF h
  | true => exact ev_andT h (h2 rfl)
theorem ev_orT {rest : List Expr} (h : Ev X a ρ (.bl true)) : Ev X (.BoolOp .Or (a :: b :: rest) pos) ρ (.bl true) :=
  PE.imp (pe_or (tb := fun _ _ _ => False) h (fun _ _ _ _ _ _ z => z.elim)) fun σ H Q ⟨r, q⟩ => ⟨r, fun v H' s h => ⟨true, h.bl_inv, iteT (q _ H' s (.bl true))⟩⟩
theorem ev_orF {rest : List Expr} (h : Ev X a ρ (.bl false)) (h2 : Ev X (.BoolOp .Or (b :: rest) pos) ρ d) : Ev X (.BoolOp .Or (a :: b :: rest) pos) ρ d :=
  PE.imp (pe_or h h2) fun σ H Q ⟨r, q⟩ => ⟨r, fun v H' s h => ⟨false, h.bl_inv, iteF ⟨r.mono s, fun v' H'' s' h' => q v' H'' (s.trans s') h'⟩⟩⟩
theorem ev_or {rest : List Expr} (h : Ev X a ρ (.bl k)) (h2 : k = false → Ev X (.BoolOp .Or (b :: rest) pos) ρ (.bl k')) : Ev X (.BoolOp .Or (a :: b :: rest) pos) ρ (.bl (k || k')) := by
  cases k with
  | true => exact ev_orT h
  | false => exact ev_orF h (h2 rfl)
theorem ev_not (h : Ev X a ρ (.bl k)) : Ev X (.UnaryOp .Not a pos) ρ (.bl (!k)) :=
  PE.imp (pe_not h) fun σ H Q ⟨r, q⟩ => ⟨r, fun v H' s h => ⟨k, h.bl_inv, q _ H' s (.bl _)⟩⟩
theorem ev_notF (h : Ev X a ρ (.bl false)) : Ev X (.UnaryOp .Not a pos) ρ (.bl true) := ev_not h
theorem ev_ifT (hc : Et X c ρ true) (ha : Ev X a ρ d) : Ev X (.IfExp c a b pos) ρ d :=
  PE.imp (pe_ifExp (tb := fun _ _ _ => False) hc ha (fun _ _ _ _ _ _ z => z.elim)) fun σ H Q ⟨r, q⟩ => ⟨r, fun H' s => iteT ⟨r.mono s, fun v H'' s' h => q v H'' (s.trans s') h⟩⟩
theorem ev_ifF (hc : Et X c ρ false) (hb : Ev X b ρ d) : Ev X (.IfExp c a b pos) ρ d :=
  PE.imp (pe_ifExp (ta := fun _ _ _ => False) hc (fun _ _ _ _ _ _ z => z.elim) hb) fun σ H Q ⟨r, q⟩ => ⟨r, fun H' s => iteF ⟨r.mono s, fun v H'' s' h => q v H'' (s.trans s') h⟩⟩

/-! ### arguments, tuples, indexes -/
theorem ea_nil : EvA X [] ρ [] := PA.imp pa_nil fun _ H _ ⟨_, q⟩ => q [] H (Same.refl H) .nil
theorem ea_cons (ha : Ev X e ρ d) (hr : EvA X es ρ ds) (hs : starEach (e :: es) X.env = (false, eval e X.env) :: starEach es X.env := by rfl) : EvA X (e :: es) ρ (d :: ds) :=
  PA.imp (pa_cons ha hr hs) fun σ H Q ⟨r, q⟩ => ⟨r, fun v H1 s1 h1 => ⟨r.mono s1, fun vs H2 s2 h2 => q _ H2 (s1.trans s2) (.cons (h1.mono s2) h2)⟩⟩
theorem same_new {H : Hp} {p : Addr} {o : HO} (h : H p = none) : Same H (upd H p o) := fun b u e => by
  rw [upd_ne (ne_of_none e h)]; exact e
theorem ev_tup {m} (h : EvA X es ρ ds) (hl : ds.length ≤ 1000 := by exact Nat.le_of_ble_eq_true rfl) : Ev X (.Tuple es m pos) ρ (.tup ds) :=
  PE.imp (pe_tup h) fun σ H Q ⟨r, q⟩ => ⟨r, fun vs H1 s1 h1 => ⟨by rw [h1.length]; exact Nat.le_of_lt (small1000 hl), fun p hp => q _ _ (s1.trans (same_new hp)) (.tup (.of upd_same) (h1.mono (same_new hp)))⟩⟩
theorem atI_map {K : PySem.W.Frag} {H : Hp} {vs : List V} {ds : List D} (h : IsAll K H vs ds) {d : D} (e : atI ds i = some d) : ∃ v, atI vs i = some v ∧ Is K H v d := by
  unfold atI at e ⊢
  rw [h.length]
  cases q : ixN ds.length i with
  | none => rw [q] at e; cases e
  | some n =>
    rw [q] at e
    exact h.get (i := n) e
theorem ev_ix (ha : Ev X a ρ (.tup ds)) (hb : Ev X b ρ (.int i)) (hi : atI ds i = some d) (hs : PlainIx b := by exact fun _ _ => rfl) : Ev X (.Subscript a b pos) ρ d :=
  PE.imp (pe_ix ix_tup ha hb hs) fun σ H Q ⟨r, q⟩ => ⟨r, fun v1 H1 s1 h1 => ⟨r.mono s1, fun v2 H2 s2 h2 => by
    obtain ⟨p, xs, rfl, h3, h4⟩ := (h1.mono s2).tup_inv
    obtain ⟨v, e, h5⟩ := atI_map h4 hi
    exact ⟨p, xs, i, v, rfl, h2.int_inv, h3, e, q v H2 (s1.trans s2) h5⟩⟩⟩
theorem ev_ixl {d' : D} (ha : Ev X a ρ d') (hl : lsD d' = some ds) (hb : Ev X b ρ (.int i)) (hi : atI ds i = some d) (hs : PlainIx b := by exact fun _ _ => rfl) : Ev X (.Subscript a b pos) ρ d :=
  PE.imp (pe_ix ix_list ha hb hs) fun σ H Q ⟨r, q⟩ => ⟨r, fun v1 H1 s1 h1 => ⟨r.mono s1, fun v2 H2 s2 h2 => by
    obtain ⟨l, xs, rfl, h3, h4⟩ := (h1.mono s2).lsD_inv hl
    obtain ⟨v, e, h5⟩ := atI_map h4 hi
    exact ⟨l, xs, i, v, rfl, h2.int_inv, h3, e, q v H2 (s1.trans s2) h5⟩⟩⟩

/-! ### built-in functions -/
theorem ev_callB {x : Str} {id : String} {r : List V → Hp → VK → Prop} (hc : CallR X (.builtin id) r) (hm : X.mg x = none) (hv : bootBuiltins x = some (.builtin id)) (ha : EvA X (e :: es) ρ ds)
    (hr : ∀ vs H Q, IsAll X.K H vs ds → (∀ v H', Same H H' → Is X.K H' v d → Q v H') → r vs H Q)
    (hg : Gl X x := by rfl) (hn : x ≠ "__name__" := by decide) (hdb : (x == ("__debug__" : Str)) = false := by decide)
    (he : starEach (e :: es) X.env = (false, eval e X.env) :: starEach es X.env := by rfl) (hpl : (backTo pos (starEach es X.env)).any (·.1) = false := by rfl) {p : Pos} : Ev X (.Call (.Name x p) (e :: es) [] pos) ρ d :=
  PE.imp (pe_callB hc hg hm hv ha hn hdb he hpl) fun σ H Q ⟨r, q⟩ => ⟨r, fun vs H1 s1 h1 => hr vs H1 Q h1 fun v H' s' h => q v H' (s1.trans s') h⟩
theorem one_inv {K : PySem.W.Frag} {H : Hp} {vs : List V} {d : D} (h : IsAll K H vs [d]) : ∃ v, vs = [v] ∧ Is K H v d := by
  cases h with
  | cons h r => cases r; exact ⟨_, rfl, h⟩
theorem two_inv {K : PySem.W.Frag} {H : Hp} {vs : List V} {d d' : D} (h : IsAll K H vs [d, d']) : ∃ v v', vs = [v, v'] ∧ Is K H v d ∧ Is K H v' d' := by
  cases h with
  | cons h r =>
    obtain ⟨v', rfl, h'⟩ := one_inv r
    exact ⟨_, _, rfl, h, h'⟩
theorem ev_abs {p : Pos} (hm : X.mg "abs" = none) (ha : Ev X a ρ (.int i)) (hg : Gl X "abs" := by rfl) (he : starEach [a] X.env = [(false, eval a X.env)] := by rfl) : Ev X (.Call (.Name "abs" p) [a] [] pos) ρ (.int (i.natAbs : Int)) :=
  ev_callB call_abs hm (by decide +kernel) (ea_cons ha ea_nil he) (fun vs H Q h0 q => by
    obtain ⟨v, rfl, h⟩ := one_inv h0
    cases h.int_inv
    refine ⟨i, rfl, ?_⟩
    have e : (if i < 0 then -i else i) = (i.natAbs : Int) := by split <;> omega
    rw [e]
    exact q _ H (Same.refl H) (.int _)) hg (by decide) (by decide) he rfl
def lenD : D → Option Nat
  | .tup ds => some ds.length
  | .ls ds => some ds.length
  | .lst _ ds => some ds.length
  | .str x => if x.length ≤ 16777216 then some x.length else none
  | _ => none
theorem ev_len {p : Pos} {n : Nat} (hm : X.mg "len" = none) (ha : Ev X a ρ d) (hl : lenD d = some n) (hg : Gl X "len" := by rfl) (he : starEach [a] X.env = [(false, eval a X.env)] := by rfl) : Ev X (.Call (.Name "len" p) [a] [] pos) ρ (.int (n : Int)) :=
  ev_callB call_len hm (by decide +kernel) (ea_cons ha ea_nil he) (fun vs H Q h0 q => by
    obtain ⟨v, rfl, h⟩ := one_inv h0
    refine ⟨v, n, rfl, ?_, q _ H (Same.refl H) (.int _)⟩
    cases d with
    | tup ds =>
      obtain ⟨a, xs, rfl, h1, h2⟩ := h.tup_inv
      cases hl
      exact .inr ⟨xs, h1, h2.length.symm⟩
    | ls ds =>
      obtain ⟨a, xs, rfl, h1, h2⟩ := h.ls_inv
      cases hl
      exact .inl ⟨xs, h1, h2.length.symm⟩
    | lst a ds =>
      obtain ⟨rfl, xs, h1, h2⟩ := h.lst_inv
      cases hl
      exact .inl ⟨xs, .of h1, h2.length.symm⟩
    | str x =>
      cases h.str_inv
      have hl' : (if x.length ≤ 16777216 then some x.length else none) = some n := hl
      by_cases hx : x.length ≤ 16777216
      · rw [if_pos hx] at hl'
        cases hl'
        exact ⟨by rw [sizeLine_eq]; exact hx, rfl⟩
      · rw [if_neg hx] at hl'
        cases hl'
    | _ => cases hl) hg (by decide) (by decide) he rfl
end

/-! ### isinstance -/
def tyD : D → Option String
  | .non => some "NoneType"
  | .bl _ => some "bool"
  | .int _ => some "int"
  | .str _ => some "str"
  | .tup _ => some "tuple"
  | .ls _ => some "list"
  | .lst _ _ => some "list"
  | .ty _ => none
  | .ob _ => none
theorem call_isi {X : Cx} {d : D} {T U : String} {k : Bool} (ht : tyD d = some T) (hk : PySem.W.kitOne X.K (.type T) (.type U) = some k) :
    CallR X (.builtin "isinstance") (fun vs H Q => ∃ v, vs = [v, .ty U] ∧ Is X.K H v d ∧ Q (.bl k) H) := by
  intro pins s σ H xs us Q I r h
  obtain ⟨v, rfl, h, q⟩ := h
  obtain ⟨u, w', rfl, rx, ry⟩ := vals2 r
  cases ry
  have fin : ∀ tk, EP X pins σ Q (.bool k) { s with toks := tk } := fun tk => ⟨.bl k, H, I.tok tk, rfl, q⟩
  cases d with
  | non => cases h.non_inv; cases ht; exact isinst_ok I rx .non hk fin
  | bl b => cases h.bl_inv; cases ht; exact isinst_ok I rx (.bl b) hk fin
  | int i => cases h.int_inv; cases ht; exact isinst_ok I rx (.int i) hk fin
  | str x => cases h.str_inv; cases ht; exact isinst_ok I rx (.str x) hk fin
  | tup ds =>
    obtain ⟨a, xs, rfl, h1, _⟩ := h.tup_inv
    cases ht
    cases rx
    obtain ⟨its, _, ⟨o, e1, e2, _⟩, _⟩ := I.tuple h1
    exact PySem.W.kia_one PySem.W.kitx_tuple I.kIn ⟨o, e1, e2⟩ hk (fun z => nomatch z) fin
  | ls ds =>
    obtain ⟨a, xs, rfl, h1, _⟩ := h.ls_inv
    cases ht
    cases rx
    obtain ⟨its, _, p, _⟩ := I.list h1
    obtain ⟨o, e1, e2, _⟩ := p.isList
    exact PySem.W.kia_one PySem.W.kitx_list I.kIn ⟨o, e1, e2⟩ hk (fun z => nomatch z) fin
  | lst a ds =>
    obtain ⟨rfl, xs, h1, _⟩ := h.lst_inv
    cases ht
    cases rx
    obtain ⟨its, _, p, _⟩ := I.list (.of h1)
    obtain ⟨o, e1, e2, _⟩ := p.isList
    exact PySem.W.kia_one PySem.W.kitx_list I.kIn ⟨o, e1, e2⟩ hk (fun z => nomatch z) fin
  | ty n => cases ht
  | ob a => cases ht
section
variable {X : Cx} {e a b c : Expr} {es : List Expr} {ρ : Ro} {d : D} {ds : List D} {pos : Pos} {i j : Int} {k k' : Bool}
theorem ev_isi {x : Str} {U T : String} {p p2 : Pos} (hm : X.mg "isinstance" = none) (ha : Ev X a ρ d) (hmT : X.mg x = none) (hv : bootBuiltins x = some (.type U)) (ht : tyD d = some T) (hk : PySem.W.kitOne X.K (.type T) (.type U) = some k)
    (hg : Gl X "isinstance" := by rfl) (hgT : Gl X x := by rfl) (hn : x ≠ "__name__" := by decide) (hd : (x == ("__debug__" : Str)) = false := by decide)
    (he : starEach [a, .Name x p2] X.env = [(false, eval a X.env), (false, eval (.Name x p2) X.env)] := by rfl) (hb : (backTo pos (starEach [.Name x p2] X.env)).any (·.1) = false := by rfl) :
    Ev X (.Call (.Name "isinstance" p) [a, .Name x p2] [] pos) ρ (.bl k) :=
  ev_callB (call_isi ht hk) hm (by decide +kernel) (ea_cons ha (ea_cons (ev_ty hmT hv hgT hn hd) ea_nil) he) (fun vs H Q h q => by
    obtain ⟨v, v', rfl, h1, h2⟩ := two_inv h
    cases h2.ty_inv
    exact ⟨v, rfl, h1, q _ H (Same.refl H) (.bl k)⟩) hg (by decide) (by decide) he hb
end
end FL

/-! FS: statements and defs over data -/
namespace FL
open PySem PySem.Spec PyProof.Rows L2

/-- what is wanted behind statements -/
structure Po where
  nx : Ro → Prop
  rt : D → Prop
  bk : Ro → Prop := fun _ => False
  ct : Ro → Prop := fun _ => False
def tPo (X : Cx) (ρ : Ro) (P : Po) : TS := fun D σ H => RelS X X.H₀ H σ ρ ∧ (∀ σ' H' ρ', Go ρ H ρ' H' → RelS X X.H₀ H' σ' ρ' → P.nx ρ' → D.nx σ' H') ∧ (∀ v H' d, Same X.H₀ H' → Is X.K H' v d → (∀ a es, d = .lst a es → X.H₀ a = none) → P.rt d → D.rt v H') ∧
  (∀ σ' H' ρ', Go ρ H ρ' H' → RelS X X.H₀ H' σ' ρ' → P.bk ρ' → D.bk σ' H') ∧ (∀ σ' H' ρ', Go ρ H ρ' H' → RelS X X.H₀ H' σ' ρ' → P.ct ρ' → D.ct σ' H')
def Do (X : Cx) (sts : List Stmt) (ρ : Ro) (P : Po) : Prop := PSs X sts (tPo X ρ P)

section
variable {X : Cx} {e a b c : Expr} {es : List Expr} {ρ : Ro} {d : D} {ds : List D} {pos : Pos} {i j : Int} {k k' : Bool} {rest A B : List Stmt} {P : Po} {st : Stmt}

theorem do_nil (h : P.nx ρ) : Do X [] ρ P := PSs.imp pss_nil fun D σ H ⟨r, q, _⟩ => q σ H ρ (Go.refl ρ H) r h
theorem Do.mono {Q : Po} (h : Do X A ρ P) (h1 : ∀ ρ, P.nx ρ → Q.nx ρ) (h2 : ∀ d, P.rt d → Q.rt d) (h3 : ∀ ρ, P.bk ρ → Q.bk ρ) (h4 : ∀ ρ, P.ct ρ → Q.ct ρ) : Do X A ρ Q :=
  PSs.imp h fun D σ H ⟨r, q1, q2, q3, q4⟩ => ⟨r, fun σ' H' ρ' g r' p => q1 σ' H' ρ' g r' (h1 _ p), fun v H' d s i o p => q2 v H' d s i o (h2 _ p), fun σ' H' ρ' g r' p => q3 σ' H' ρ' g r' (h3 _ p), fun σ' H' ρ' g r' p => q4 σ' H' ρ' g r' (h4 _ p)⟩
/-- a statement, then the rest: M holds between -/
theorem do_seq {M : Ro → Prop} (h1 : PS X st (tPo X ρ { P with nx := M })) (h2 : ∀ ρ', M ρ' → Do X rest ρ' P) : Do X (st :: rest) ρ P := by
  refine PSs.imp (pss_cons (u := fun D σ H => ∃ ρ', M ρ' ∧ tPo X ρ' P D σ H) h1 (fun pins s σ H D I ⟨ρ', m, q⟩ => h2 ρ' m pins s σ H D I q)) ?_
  rintro D σ H ⟨r, q1, q2, q3, q4⟩
  exact ⟨r, fun σ' H' ρ' g r' m => ⟨ρ', m, r', fun σ2 H2 ρ2 g2 => q1 σ2 H2 ρ2 (g.trans g2), q2, fun σ2 H2 ρ2 g2 => q3 σ2 H2 ρ2 (g.trans g2), fun σ2 H2 ρ2 g2 => q4 σ2 H2 ρ2 (g.trans g2)⟩, q2, q3, q4⟩
theorem do_ret (he : Ev X e ρ d) (h : P.rt d) (hn : ∀ a es, d = .lst a es → Mu ρ a := by intro _ _ z; cases z) : Do X (.Return (some e) pos :: rest) ρ P := by
  refine PSs.imp (pss_cons (u := tNever) (ps_ret he) pss_never) ?_
  rintro D σ H ⟨r, q1, q2, q3, q4⟩
  exact ⟨r.e, fun v H' s h' => q2 v H' d (r.same.trans s) h' (fun a es z => r.own a (hn a es z)) h⟩
theorem do_set (n : Nat) {x : Str} {pos' : Pos} (he : Ev X e ρ d) (hz : Fz d) (h : Do X rest (ρ.set n (some d)) P) (hN : X.N.Nodup) (hi : X.N[n]? = some x := by rfl) (hx : Loc X.env.scope x := by first | exact Or.inl rfl | exact Or.inr rfl)
    (hs : swapsWith e (some (.Name x pos')) pos.line X.env = pure false := by rfl) (hf : X.fn x = true ∨ X.env.scope.names.lookup x = some .local := by first | exact .inl rfl | exact .inr rfl) : Do X (.Assign [.Name x pos'] e pos :: rest) ρ P := by
  refine do_seq (M := fun ρ' => ρ' = ρ.set n (some d)) (PS.imp (ps_set hN hi hx he hs hf) ?_) (fun _ z => z ▸ h)
  rintro D σ H ⟨r, q1, q2, q3, q4⟩
  have no : ∀ a ds, d = .lst a ds → False := fun a ds z => by subst z; cases hz
  exact ⟨r.e, fun v H' s h' => q1 _ H' _ (Go.set s fun a ds z => (no a ds z).elim) ((r.mono s).set h' n (.inl hz) fun a ds z => (no a ds z).elim) rfl⟩
theorem do_expr (he : Ev X e ρ d) (h : Do X rest ρ P) (hs : swapsWith e none pos.line X.env = pure false := by rfl) : Do X (.Expr e pos :: rest) ρ P := by
  refine do_seq (M := fun ρ' => ρ' = ρ) (PS.imp (ps_expr he hs) ?_) (fun _ z => z ▸ h)
  rintro D σ H ⟨r, q1, q2, q3, q4⟩
  exact ⟨r.e, fun v H' s h' => q1 _ H' _ (Go.same s) (r.mono s) rfl⟩
/-- if: M holds between the two ways' ends and the rest -/
theorem do_if (M : Ro → Prop) (hc : Et X c ρ k) (hA : k = true → Do X A ρ { P with nx := M }) (hB : k = false → Do X B ρ { P with nx := M }) (h : ∀ ρ', M ρ' → Do X rest ρ' P) : Do X (.If c A B pos :: rest) ρ P := by
  refine do_seq (M := M) (PS.imp (ps_if hc (t := fun D σ H => k = true ∧ tPo X ρ { P with nx := M } D σ H) (u := fun D σ H => k = false ∧ tPo X ρ { P with nx := M } D σ H)
    (fun pins s σ H D I ⟨z, q⟩ => hA z pins s σ H D I q) (fun pins s σ H D I ⟨z, q⟩ => hB z pins s σ H D I q)) ?_) h
  rintro D σ H ⟨r, q1, q2, q3, q4⟩
  refine ⟨r.e, fun H' s => ?_⟩
  have q : tPo X ρ { P with nx := M } D σ H' := ⟨r.mono s, fun σ2 H2 ρ2 g2 => q1 σ2 H2 ρ2 ((Go.same s).trans g2), q2, fun σ2 H2 ρ2 g2 => q3 σ2 H2 ρ2 ((Go.same s).trans g2), fun σ2 H2 ρ2 g2 => q4 σ2 H2 ρ2 ((Go.same s).trans g2)⟩
  cases k with
  | true => exact iteT ⟨rfl, q⟩
  | false => exact iteF ⟨rfl, q⟩
/-- the test is false and there is no else -/
theorem do_ifF (hc : Et X c ρ false) (h : Do X rest ρ P) : Do X (.If c A [] pos :: rest) ρ P :=
  do_if (fun ρ' => ρ' = ρ) hc (fun z => by cases z) (fun _ => do_nil rfl) (fun _ z => z ▸ h)
/-- the way through the suite leaves -/
theorem do_ifR (hc : Et X c ρ k) (hA : k = true → Do X A ρ { P with nx := fun _ => False }) (h : k = false → Do X rest ρ P) : Do X (.If c A [] pos :: rest) ρ P :=
  do_if (fun ρ' => ρ' = ρ ∧ k = false) hc (fun z => (hA z).mono (fun _ f => f.elim) (fun _ p => p) (fun _ p => p) (fun _ p => p)) (fun z => do_nil ⟨rfl, z⟩) (fun _ z => z.1 ▸ h z.2)
/-- while -/
theorem do_while (Iv M : Ro → Prop) (μ : Ro → Nat) (hp : PassesOwn (model X.prog X.w) X.A X.env X.xe) (h0 : Iv ρ)
    (hs : ∀ ρ, Iv ρ → ∃ k, Et X c ρ k ∧ (k = true → Do X A ρ { nx := fun ρ' => Iv ρ' ∧ μ ρ' < μ ρ, rt := P.rt, bk := M, ct := fun ρ' => Iv ρ' ∧ μ ρ' < μ ρ }) ∧ (k = false → M ρ))
    (h : ∀ ρ', M ρ' → Do X rest ρ' P) : Do X (.While c A [] pos :: rest) ρ P := by
  refine do_seq (M := M) ?_ h
  have hc : PT X c (fun σ H Q => ∃ ρ k, Et X c ρ k ∧ tB X ρ k σ H Q) := fun pins s σ H Q I ⟨ρ, k, e, q⟩ => e pins s σ H Q I q
  have hb : PSs X A (fun D σ H => ∃ ρ, Do X A ρ { nx := fun ρ' => Iv ρ' ∧ μ ρ' < μ ρ, rt := P.rt, bk := M, ct := fun ρ' => Iv ρ' ∧ μ ρ' < μ ρ } ∧ tPo X ρ { nx := fun ρ' => Iv ρ' ∧ μ ρ' < μ ρ, rt := P.rt, bk := M, ct := fun ρ' => Iv ρ' ∧ μ ρ' < μ ρ } D σ H) :=
    fun pins s σ H D I ⟨ρ, e, q⟩ => e pins s σ H D I q
  refine PS.imp (ps_while hp hc hb) ?_
  rintro D σ H ⟨r, q1, q2, q3, q4⟩
  refine ⟨fun m σ' H' => ∃ ρ', m = μ ρ' ∧ Iv ρ' ∧ RelS X X.H₀ H' σ' ρ' ∧ Go ρ H ρ' H', ⟨_, ρ, rfl, h0, r, Go.refl ρ H⟩, ?_⟩
  rintro m σ1 H1 ⟨ρ1, rfl, iv, r1, g1⟩
  obtain ⟨k, et, ht, hf⟩ := hs ρ1 iv
  refine ⟨ρ1, k, et, r1.e, fun H2 s => ?_⟩
  have g2 : Go ρ H ρ1 H2 := g1.trans (Go.same s)
  cases k with
  | true =>
    refine iteT ⟨fun σ' H' => ∃ ρ', Iv ρ' ∧ μ ρ' < μ ρ1 ∧ RelS X X.H₀ H' σ' ρ' ∧ Go ρ H ρ' H', fun σ' H' ⟨ρ', a, b, c, g⟩ => ⟨_, b, ρ', rfl, a, c, g⟩, ρ1, ht rfl, r1.mono s, ?_, q2, ?_, ?_⟩
    · exact fun σ' H' ρ' g r' ⟨a, b⟩ => ⟨ρ', a, b, r', g2.trans g⟩
    · exact fun σ' H' ρ' g r' m => q1 σ' H' ρ' (g2.trans g) r' m
    · exact fun σ' H' ρ' g r' ⟨a, b⟩ => ⟨ρ', a, b, r', g2.trans g⟩
  | false => exact iteF (q1 σ1 H2 ρ1 g2 (r1.mono s) (hf rfl))

end

/-! ### defs -/
/-- a def's promise over data: at arguments ds it hands back d where Pf ds d -/
def SpD (K : PySem.W.Frag) (Pf : List D → D → Prop) : Sp := fun vs H Q _ => ∃ ds d, IsAll K H vs ds ∧ Pf ds d ∧ ∀ v H', Same H H' → Is K H' v d → Q v H'
/-- a def of the text that may be called by its name -/
def Fn (P : Program) (w : World) (K : PySem.W.Frag) (mg : Str → Option Value) (base : Heap) (k : Nat) (x : Str) (Pf : List D → D → Prop) : Prop :=
  ∃ f fd ps, FnOk P w K mg base CX0 k f fd ps (SpD K Pf) ∧ mg x = some (.ref f) ∧ PySem.W.keepIn K (.ref f) = true ∧ Binds K fd ps []
section
variable {X : Cx} {e a b c : Expr} {es : List Expr} {ρ : Ro} {d : D} {ds : List D} {pos : Pos}
theorem ev_call {k : Nat} {x : Str} {Pf : List D → D → Prop} {p : Pos} (C : Fn X.prog X.w X.K X.mg X.base k x Pf) (hr : Room k X.A) (ha : EvA X (e :: es) ρ ds) (hp : Pf ds d) (hg : Gl X x := by rfl) (hdb : (x == ("__debug__" : Str)) = false := by decide)
    (he : starEach (e :: es) X.env = (false, eval e X.env) :: starEach es X.env := by rfl) (hpl : (backTo pos (starEach es X.env)).any (·.1) = false := by rfl) : Ev X (.Call (.Name x p) (e :: es) [] pos) ρ d := by
  obtain ⟨f, fd, ps, F, hm, hk, hb⟩ := C
  refine PE.imp (pe_call F hr hg hm hk hb .nil pass0 ha hdb he hpl) ?_
  rintro σ H Q ⟨r, q⟩
  refine ⟨r, fun vs H1 s1 h1 => ⟨ds, d, ?_, hp, fun v H' s' h' => q v H' (s1.trans s') h'⟩⟩
  rw [List.append_nil]
  exact h1
end
section
variable {P : Program} {w : World} {K : PySem.W.Frag} {mg : Str → Option Value} {base : Heap}
theorem relS_start {X : Cx} {N : List Str} {vs : List V} {ds : List D} (h : IsAll X.K X.H₀ vs ds) (nl : ∀ a es, D.lst a es ∉ ds) : RelS X X.H₀ X.H₀ (L2.start N vs) (ds.map some ++ List.replicate (N.length - ds.length) none) := by
  refine ⟨Same.refl _, ?_, fun i d e => ?_, fun a ⟨i, es, e⟩ => ?_⟩
  · unfold L2.start
    simp [h.length]
  · have hi : ds[i]? = some d := by
      by_cases hl : i < ds.length
      · rw [List.getElem?_append_left (by simpa using hl), List.getElem?_map] at e
        cases q : ds[i]? with
        | none => rw [q] at e; cases e
        | some z => rw [q] at e; cases e; rfl
      · rw [List.getElem?_append_right (by simpa using hl), List.getElem?_replicate] at e
        split at e <;> cases e
    obtain ⟨v, e1, h1⟩ := h.get hi
    refine ⟨v, ?_, h1, .inr (.inl h1)⟩
    unfold L2.start
    have hl : i < vs.length := (List.getElem?_eq_some_iff.mp e1).1
    rw [List.getElem?_append_left (by simpa using hl), List.getElem?_map, e1]
    rfl
  · exfalso
    by_cases hl : i < ds.length
    · rw [List.getElem?_append_left (by simpa using hl), List.getElem?_map] at e
      cases q : ds[i]? with
      | none => rw [q] at e; cases e
      | some z => rw [q] at e; cases e; exact nl a es (List.mem_of_getElem? q)
    · rw [List.getElem?_append_right (by simpa using hl), List.getElem?_replicate] at e
      split at e <;> cases e
/-- the context of a def's body -/
abbrev cxD (P : Program) (w : World) (K : PySem.W.Frag) (mg : Str → Option Value) (base : Heap) (N : List Str) (qual : Str) (st : Stmt) (f : Addr) (cdv : Value) (A : Around) (outer : List Env) (s : Shared) (H : Hp) (E : XK) : Cx :=
  (cxOf CX0 P w K mg base N qual (defScope st) f cdv A outer s H E).nox
/-- the data at the entry -/
abbrev ini (N : List Str) (ds : List D) : Ro := ds.map some ++ List.replicate (N.length - ds.length) none
/-- THE RULE for a def over data -/
theorem fn_ok {x qual : Str} {st : Stmt} {f : Addr} {fd : FuncData} {N ps : List Str} {k : Nat} {Pf : List D → D → Prop} (F : Fun K x qual st f fd) (S : FnScope N ps (defScope st))
    (hl : ∀ ds d, Pf ds d → ds.length = ps.length ∧ ∀ a es, D.lst a es ∉ ds)
    (hbody : ∀ (cdv : Value) (A : Around) (outer : List Env) (s : Shared) (H : Hp) (E : XK), Room k (A.deeper (envOfC qual (defScope st) s.heap.objs.size f cdv)) → ∀ ds d, Pf ds d →
      Do (cxD P w K mg base N qual st f cdv A outer s H E) (defBody st) (ini N ds) { nx := fun _ => d = .non, rt := fun d' => d' = d }) : FnOk P w K mg base CX0 (k + 1) f fd ps (SpD K Pf) := by
  refine F.ok S (fun vs H Q E h => ?_) (fun cdv A outer s H vs Q E hr h => ?_)
  · obtain ⟨ds, d, h1, h2, _⟩ := h
    rw [h1.length]
    exact (hl ds d h2).1
  · obtain ⟨ds, d, h1, h2, q⟩ := h
    refine ⟨_, hbody cdv A outer s H E hr ds d h2, ?_⟩
    refine ⟨relS_start (X := cxD P w K mg base N qual st f cdv A outer s H E) h1 (hl ds d h2).2, fun σ' H' ρ' _ r' z => ?_, fun v H' d' sm hv _ z => ?_, fun _ _ _ _ _ z => z.elim, fun _ _ _ _ _ z => z.elim⟩
    · have z' : d = .non := z
      subst z'
      exact q _ H' r'.same .non
    · have z' : d' = d := z
      subst z'
      exact q v H' sm hv
theorem fn_mk {x qual : Str} {st : Stmt} {f : Addr} {fd : FuncData} {N ps : List Str} {k : Nat} {Pf : List D → D → Prop} (F : Fun K x qual st f fd) (S : FnScope N ps (defScope st)) (hm : mg x = some (.ref f)) (hb : Binds K fd ps [])
    (hl : ∀ ds d, Pf ds d → ds.length = ps.length ∧ ∀ a es, D.lst a es ∉ ds)
    (hbody : ∀ (cdv : Value) (A : Around) (outer : List Env) (s : Shared) (H : Hp) (E : XK), Room k (A.deeper (envOfC qual (defScope st) s.heap.objs.size f cdv)) → ∀ ds d, Pf ds d →
      Do (cxD P w K mg base N qual st f cdv A outer s H E) (defBody st) (ini N ds) { nx := fun _ => d = .non, rt := fun d' => d' = d }) : Fn P w K mg base (k + 1) x Pf :=
  ⟨f, fd, ps, fn_ok F S hl hbody, hm, F.kp, hb⟩
end
end FL

/-! FC: list comprehensions with one for and at most one if -/
namespace FL
open PySem PySem.Spec PyProof.Rows L2

/-- the block of a comprehension -/
def blk (X : Cx) (scope : Scope) (cl : List (Str × Addr)) (N : List Str) (C : Addr) (s₀ : Shared) (H₀ : Hp) (fp : List Addr) : Cx :=
  { X with N := N, s₀ := s₀, H₀ := H₀, env := compEnvC scope cl C X.env, outer := X.stack, ex := fp, fn := fun _ => false, pn := [], xe := fun _ _ => False }

section
variable {prog : Program} {w : World} {A : Around} {R : Result → Shared → Prop} {s : Shared}
theorem compLoop_any {elt target iter : Expr} {ifs : List Expr} {scope : Scope} {pos : Pos} {it acc : Value} {env : Env} (I : Nat → Shared → Prop)
    (turn : ∀ n s, I n s → wpAny (model prog w) A (pyNext it) (fun r s₁ => match r with
      | none => R (.ok .next) s₁
      | some v => wpAny (model prog w) A (letOwnedTupleGo target it v) (fun _ s₁' => wpAny (model prog w) A (assign target env v) (fun _ s₂ =>
          wpAny (model prog w) A (forIn ifs true fun c r => if r = true then do let ok ← isTrue c env (eval c env); pure (ForInStep.yield ok) else pure (ForInStep.yield r)) (fun ok s₃ =>
            if ok = true then wpAny (model prog w) A (eval elt env) (fun x s₄ =>
              wpAny (model prog w) A (call (.builtin "list.append") [acc, x]) (fun _ s₅ => ∃ m, m < n ∧ I m s₅) (fun _ _ => False) s₄) (fun _ _ => False) s₃
            else ∃ m, m < n ∧ I m s₃) (fun _ _ => False) s₂) (fun _ _ => False) s₁') (fun _ _ => False) s₁) (fun _ _ => False) s)
    (n : Nat) (h : I n s) : codeAny (model prog w) A (.compLoop (.ListComp elt [⟨target, iter, ifs, 0⟩] scope pos) 0 it acc env) R s := by
  refine codeAny_loop rfl I (fun n s hI => ?_) n h
  show wpAny _ A ((compTurn (.ListComp elt [⟨target, iter, ifs, 0⟩] scope pos) 0 it acc env).onRaise (fun x => do noteFrame x env; theTreesLotGoes x)) _ _ s
  refine wpAny_noted ?_
  rw [compTurn_list]
  refine wpAny_bind (wpAny_standAt (wpAny_bind (wpAny_mono (turn n s hI) (fun r s₁ h₁ => ?_) fun _ _ h' => h'.elim)))
  cases r with
  | none => exact wpAny_pure h₁
  | some v =>
    refine wpAny_bind (wpAny_mono h₁ (fun _ s₁' h₁' => ?_) fun _ _ h' => h'.elim)
    refine wpAny_bind (wpAny_mono h₁' (fun _ s₂ h₂ => wpAny_bind (wpAny_mono h₂ (fun ok s₃ h₃ => ?_) fun _ _ h' => h'.elim)) fun _ _ h' => h'.elim)
    cases ok with
    | false => exact wpAny_pure ⟨rfl, h₃⟩
    | true =>
      exact wpAny_bind (wpAny_bind (wpAny_mono h₃ (fun x s₄ h₄ => wpAny_bind (wpAny_mono h₄ (fun _ s₅ h₅ => wpAny_pure (wpAny_pure ⟨rfl, h₅⟩)) fun _ _ h' => h'.elim)) fun _ _ h' => h'.elim))
end

/-- the tests of a comprehension -/
def PTs (X : Cx) (ifs : List Expr) (t : TT) : Prop :=
  ∀ (pins : List (Addr × Obj)) (s : Shared) (σ : L2.St) (H : Hp) (Q : Bool → Hp → Prop), Inv X pins σ H s → t σ H Q →
    wpAny (model X.prog X.w) X.A (forIn ifs true fun c r => if r = true then do let ok ← isTrue c X.env (eval c X.env); pure (ForInStep.yield ok) else pure (ForInStep.yield r)) (TP X pins σ Q) X.xe s
theorem pts_nil {X : Cx} : PTs X [] (fun _ H Q => Q true H) := fun _ _ _ H _ I h => wpAny_tests_nil ⟨H, I, h⟩
theorem pts_one {X : Cx} {c : Expr} {t : TT} (h : PT X c t) : PTs X [c] t := fun pins s σ H Q I q => wpAny_tests_one (h pins s σ H Q I q)

/-- the values of the names that the block reads from around it -/
def frees (js : List Nat) (σ : L2.St) : L2.St := js.map fun j => (σ[j]?).join
def tComp (X : Cx) (js : List Nat) (wi : TI) (tt : Cx → TT) (te : Cx → TE) : TE := fun σ H Q => wi σ H fun J H2 => ∀ D, H2 D = none → ∀ Y : Cx, Y.H₀ = upd H2 D (.lst []) → Y.K = X.K →
  ∃ W : Nat → Nat → List V → Hp → Prop, (∃ m, W 0 m [] (upd H2 D (.lst []))) ∧ ∀ i m ys H3, H3 D = some (.lst ys) → W i m ys H3 →
    (J.stop i H3 ∧ Q (.ref D) H3) ∨ (J.go i H3 ∧ ∀ x H4, J.yld i H3 x H4 → tt Y (some x :: frees js σ) H4 fun ok H5 =>
      if ok = true then te Y (some x :: frees js σ) H5 fun y H6 => ∃ zs, H6 D = some (.lst zs) ∧ zs.length < sizeLine ∧ ∃ m', m' < m ∧ W (i + 1) m' (zs ++ [y]) (upd H6 D (.lst (zs ++ [y])))
      else ∃ zs m', H5 D = some (.lst zs) ∧ m' < m ∧ W (i + 1) m' zs H5)

theorem pe_comp {X : Cx} {elt iter : Expr} {x : Str} {px : Pos} {ifs : List Expr} {scope : Scope} {cl : List (Str × Addr)} {pos : Pos} {ys : List Str} {js : List Nat} {wi : TI} {tt : Cx → TT} {te : Cx → TE}
    (hc : X.calm = true) (hi : PI X (.Name x px) iter wi)
    (ht : ∀ C s₀ H₀ fp, PTs (blk X scope cl (x :: ys) C s₀ H₀ fp) ifs (tt (blk X scope cl (x :: ys) C s₀ H₀ fp)))
    (he : ∀ C s₀ H₀ fp, PE (blk X scope cl (x :: ys) C s₀ H₀ fp) elt (te (blk X scope cl (x :: ys) C s₀ H₀ fp)))
    (hclos : closureFor scope X.env = pure cl) (hcell : ∀ y ∈ scope.names, y.2 ≠ .cell) (hkind : scope.kind = .function)
    (hnames : ∀ y ∈ scope.names, y.2 = .local → scope.names.lookup y.1 = some .local) (hx : scope.names.lookup x = some .local) (hnd : (x :: ys).Nodup)
    (hcl : ∀ y c, cl.lookup y = some c → X.env.cells.lookup y = some c)
    (hhas : ∀ y, (relabel scope X.env).names.lookup y = some .cell ∨ (relabel scope X.env).names.lookup y = some .free → ∃ c, cl.lookup y = some c)
    (hjs : js.length = ys.length) (hjy : ∀ (i j : Nat) (y : Str), js[i]? = some j → ys[i]? = some y → X.N[j]? = some y ∧ Vis X.env.scope y ∧ (X.env.kindOf y = some .cell ∨ X.env.kindOf y = some .free) ∧ ((relabel scope X.env).names.lookup y = some .cell ∨ (relabel scope X.env).names.lookup y = some .free))
    (hs : ∀ x, foldedSetIterable iter X.env x = pure x := by intro _; rfl) :
    PE X (.ListComp elt [⟨.Name x px, iter, ifs, 0⟩] scope pos) (tComp X js wi tt te) := by
  intro pins s σ H Q I h
  rw [eval_ListComp]
  refine wpAny_comprehension_free (use := none) rfl hs hclos hkind hnames (thn (hi pins s σ H _ I h) fun v s1 h1 => thn h1 fun itv s2 h2 => ?_)
  obtain ⟨it, fp, tn, J, H2, e, I2, T, st2, f2, h2⟩ := h2
  subst e
  refine wpAny_newObj_type (wpAny_newFunctionEnv hcell (by intro y hy; simp at hy) (fun h₁ hns₁ hsb₁ => ?_) hkind)
  dsimp only at hns₁ hsb₁ ⊢
  -- the list
  have hD : H2 s2.heap.objs.size = none := I2.hok.fresh (Nat.le_refl _)
  generalize eD : s2.heap.objs.size = D at hD hns₁ hsb₁ ⊢
  generalize eH : s2.heap.push { cls := .type "list", dict := none, data := .seq ([] : List Value).toArray } = P3 at hns₁ hsb₁ ⊢
  have k23 : ∀ b o, s2.heap.get? b = some o → P3.get? b = some o := fun b o q => by rw [← eH]; exact Heap.get?_push_of_some _ q
  have hDo : P3.get? D = some { cls := .type "list", dict := none, data := .seq ([] : List Value).toArray } := by rw [← eH, ← eD]; exact Heap.get?_push_size _ rfl
  have I3 : Inv X pins σ (upd H2 D (.lst [])) { s2 with heap := P3, toks := s2.toks } := I2.laid (t' := s2.toks) k23 (Nat.le_of_eq eD) ⟨Nat.zero_le _, [], 0, .nil, hDo⟩
  have hCs : P3.objs.size = D + 1 := by rw [← eH, Heap.size_push, eD]
  generalize eC : P3.objs.size = C at hns₁ hsb₁ hCs ⊢
  have k34 : ∀ b o, P3.get? b = some o → h₁.get? b = some o := fun b o q => hsb₁.extBut b o (by rw [← eC]; exact Nat.ne_of_lt (Heap.lt_size q)) (Heap.get?_push_of_some _ q)
  have fpD : ∀ b ∈ fp, b < D := fun b hb => by
    obtain ⟨o, q, _⟩ := T.obj 0 _ st2 b hb
    rw [← eD]
    exact Heap.lt_size q
  have hC0 : upd H2 D (.lst []) C = none := I3.hok.fresh (by show P3.objs.size ≤ C; rw [eC]; exact Nat.le_refl _)
  -- the block's context
  have okY : (blk X scope cl (x :: ys) C { s2 with heap := P3, toks := s2.toks } (upd H2 D (.lst [])) fp).Ok := by
    refine ⟨I3.ok.mod, hkind, I3.ok.glob, I3.ok.blt, by show P3.objs.size ≤ C; rw [eC]; exact Nat.le_refl _, fun y z c h1 h2 => I3.ok.inj y z c (hcl y c h1) (hcl z c h2), fun y hy => hhas y hy, fun y c hf _ => (by cases hf),
      I3.ok.hd, I3.ok.frames, .inl rfl, fun b hb => ⟨(by show b ≠ C; rw [hCs]; exact Nat.ne_of_lt (Nat.lt_succ_of_lt (fpD b hb))), fun y c hy => (f2 b hb).2.2.2.2.1 y c (hcl y c hy)⟩, fun b o q => ?_, ?_, fun b o q hb => ?_, fun b hb z => ?_, I3.stack, I3.stkFree⟩
    · exact I3.bs b o q
    · exact Nat.le_trans I3.ok.bsz I3.sz
    · rcases (f2 b hb).2.2.2.1 with z | z
      · exact I3.ok.noex b o q z
      · exact absurd (Nat.lt_of_lt_of_le (Heap.lt_size (I3.ok.bs b o q).1) z) (Nat.lt_irrefl _)
    · rcases List.mem_cons.mp (I3.stkSub b z) with z | z
      · exact (f2 b hb).2.1 z
      · exact (f2 b hb).2.2.1 z
  generalize eY : blk X scope cl (x :: ys) C { s2 with heap := P3, toks := s2.toks } (upd H2 D (.lst [])) fp = Y at okY
  have IY : Inv Y [] (none :: frees js σ) (upd H2 D (.lst [])) { s2 with heap := h₁, toks := s2.toks + ([] : List (Str × Value)).length } := by
    subst eY
    refine ⟨okY, I3.os.trans I3.os.symm |>.trans rfl, I3.bare, Un.kept k34, ⟨_, hns₁, fun i y v h1 h2 h3 => ?_⟩, fun y c hy => ?_, hC0, fun y c hy => I3.freeC y c (hcl y c hy), fun p hp => absurd (show p ∈ ([] : List (Addr × Obj)) from hp) (by simp), I3.hok.kept k34, ?_⟩
    · cases i with
      | zero => cases h2
      | succ i =>
        have h1' : ys[i]? = some y := h1
        have h2' : (frees js σ)[i]? = some (some v) := h2
        unfold frees at h2'
        rw [List.getElem?_map] at h2'
        cases q : js[i]? with
        | none => rw [q] at h2'; cases h2'
        | some j =>
          rw [q] at h2'
          have h4 : (σ[j]?).join = some v := Option.some.inj h2'
          have h5 : σ[j]? = some (some v) := by
            cases z : σ[j]? with
            | none => rw [z] at h4; cases h4
            | some o => rw [z] at h4; have h4' : o = some v := h4; rw [h4']
          obtain ⟨n1, n2, n3, n4⟩ := hjy i j y q h1'
          obtain ⟨m, _, hl⟩ := I3.loc
          obtain ⟨u, ru, lk⟩ := hl j y v n1 h5 n2
          refine ⟨u, ru, .inr ⟨n4, ?_⟩⟩
          obtain ⟨c, hc'⟩ := hhas y n4
          rcases lk with ⟨z, _⟩ | ⟨_, c', e1, e2⟩
          · rcases n3 with n3 | n3 <;> (rw [n3] at z; cases z)
          · have : c' = c := Option.some.inj (e1.symm.trans (hcl y c hc'))
            subst this
            obtain ⟨o, ho, hod⟩ := e2
            exact ⟨c', hc', o, k34 _ _ ho, hod⟩
    · obtain ⟨v, o, ho, hod⟩ := I3.cell y c (hcl y c hy)
      exact ⟨v, o, k34 _ _ ho, hod⟩
    · show (frees js σ).length + 1 = (x :: ys).length
      unfold frees
      simp [hjs]
  have eYA : Y.A = X.A := by rw [← eY]; rfl
  have eYp : Y.prog = X.prog := by rw [← eY]; rfl
  have eYw : Y.w = X.w := by rw [← eY]; rfl
  have eYK : Y.K = X.K := by rw [← eY]; rfl
  have eYe : Y.env = compEnvC scope cl C X.env := by rw [← eY]; rfl
  have eYH : Y.H₀ = upd H2 D (.lst []) := by rw [← eY]; rfl
  have eYc : Y.calm = true := by rw [← eY]; exact hc
  have eYx : Y.xe = fun _ _ => False := by rw [← eY]; rfl
  have eYex : Y.ex = fp := by rw [← eY]; rfl
  have eYfs : Y.fs = frs X.stack := by rw [← eY]; rfl
  have eYs : Y.s₀ = { s2 with heap := P3, toks := s2.toks } := by rw [← eY]; rfl
  have eYl : Y.env.locals = C := by rw [eYe]; rfl
  have ht' : PTs Y ifs (tt Y) := by rw [← eY]; exact ht C _ _ fp
  have he' : PE Y elt (te Y) := by rw [← eY]; exact he C _ _ fp
  have hg' : PG Y (.Name x px) (gName 0) := by
    rw [← eY]
    exact pg_name hnd rfl (.inl (lookup_relabel_local hx)) (.inr (lookup_relabel_local hx))
  have T' : Turn Y.prog Y.w Y.K (.Name x px) J fp it tn := by rw [eYp, eYw, eYK]; exact T
  obtain ⟨W, ⟨m0, w0⟩, turn⟩ := h2 D hD Y eYH eYK
  have stat : ∀ {H' : Hp}, (∀ b ∈ fp, H' b = none) → ∀ b ∈ fp, FpOk Y [] H' b := fun {H'} hn b hb => by
    obtain ⟨_, g1, g2, g3, g4, g5⟩ := f2 b hb
    refine ⟨hn b hb, (by rw [eYl, hCs]; exact Nat.ne_of_lt (Nat.lt_succ_of_lt (fpD b hb))), fun z => ?_, .inl (by rw [eYex]; exact hb), fun y c hy => ?_, fun p hp => ?_⟩
    · rw [eYfs] at z
      rcases List.mem_cons.mp (I3.stkSub b z) with z | z
      · exact g1 z
      · exact g2 z
    · rw [eYe] at hy
      exact g4 y c (hcl y c hy)
    · have e0 : Y.pn = [] := by rw [← eY]; rfl
      rw [e0] at hp
      exact absurd (show p ∈ ([] : List (Addr × Obj)) from hp) (by simp)
  -- the loop
  have loop : ∀ s₃ : Shared, s₃ = { s2 with heap := h₁, toks := s2.toks + ([] : List (Str × Value)).length } →
      codeAny (model X.prog X.w) X.A (.compLoop (.ListComp elt [⟨.Name x px, iter, ifs, 0⟩] scope pos) 0 (.ref it) (.ref D) (compEnvC scope cl C X.env))
        (compPost (model X.prog X.w) X.A X.xe none (EP X pins σ Q) (.ref D) C) s₃ := by
    rintro s₃ rfl
    rw [← eYe, ← eYA, ← eYp, ← eYw]
    refine compLoop_any (fun n s' => ∃ i z H' zs, Inv Y [] (z :: frees js σ) H' s' ∧ tn i s'.heap ∧ (∀ b ∈ fp, H' b = none) ∧ H' D = some (.lst zs) ∧ W i n zs H') ?_ m0
      ⟨0, none, _, [], IY, T.keep 0 _ _ st2 (fun b _ o q => k34 b o (k23 b o q)), fun b hb => ?_, upd_same, w0⟩
    · rintro n s4 ⟨i, z, H4, zs, I4, st4, fr4, hz4, w4⟩
      rcases turn i n zs H4 hz4 w4 with ⟨stop, qn⟩ | ⟨go, step⟩
      · refine thn (T'.done Y rfl rfl rfl eYc i [] s4 _ H4 _ I4 (stat fr4) st4 stop) fun r s5 ⟨hr, I5⟩ => ?_
        subst hr
        obtain ⟨m, hm, _⟩ := id I5.loc
        rw [eYl] at hm
        refine ⟨m, hm, fun h6 sb => ?_⟩
        have hC5 : H4 C = none := by rw [← eYl]; exact I5.free
        have un5 := I5.base
        rw [eYfs, eYex, eYH, eYs] at un5
        have un6 : Un (frs X.stack) fp (upd H2 D (.lst [])) H4 P3 h6 := by
          have nC : ∀ b o, P3.get? b = some o → b ≠ C := fun b o q => by rw [← eC]; exact Nat.ne_of_lt (Heap.lt_size q)
          refine ⟨fun b o q n hb hx => (sb.2 b (nC b o q)).trans (un5.keep b o q n hb hx), fun b o q n hb hx => ?_, un5.free, fun b o q hx => ?_, un5.tups, un5.frzs, un5.tbls⟩
          · obtain ⟨sl, q2⟩ := un5.slot b o q n hb hx
            exact ⟨sl, (sb.2 b (nC b o q)).trans q2⟩
          · obtain ⟨o', q2⟩ := un5.there b o q hx
            exact ⟨o', (sb.2 b (nC b o q)).trans q2⟩
        have hok6 : HOk X.prog X.w H4 h6 := fun b ob q => by
          have q5 := I5.hok b ob q
          rw [eYp, eYw] at q5
          refine q5.stay (fun c w' hc' q' => (sb.2 c ?_).trans q') (fun _ q' => q') fun _ _ q' => q'
          rintro rfl
          rcases hc' with rfl | hc'
          · rw [hC5] at q; cases q
          · rw [hC5] at hc'; cases hc'
        refine ⟨.ref D, H4, ?_, rfl, qn⟩
        have os5 : s5.os = s2.os := by have := I5.os; rw [eYs] at this; exact this
        refine I3.call' (s' := { s5 with heap := h6 }) (ch := fp) os5 un6 hok6 I5.bare fun b hb => ?_
        obtain ⟨_, g1, g2, g3, g4, g5⟩ := f2 b hb
        exact ⟨g3, g1, g4, g5⟩
      · refine thn (T'.item Y rfl rfl rfl eYc i [] s4 _ H4 _ I4 (stat fr4) st4 go) fun r s5 ⟨u, hr, h5⟩ => ?_
        subst hr
        refine thn h5 fun _ s6 ⟨y, H6, I6, r6, y6, st6, fr6⟩ => ?_
        have I6' := I6.pinned (stat fr6) (T.obj _ _ st6)
        have q6 := step y H6 y6
        have back : ∀ {σ7 : L2.St} {H7 : Hp} {s7 : Shared}, Inv Y ([] ++ pinsAt fp s6.heap) σ7 H7 s7 → tn (i + 1) s7.heap ∧ ∀ b ∈ fp, H7 b = none := fun {σ7 H7 s7} I7 =>
          ⟨T.keep _ _ _ st6 fun b hb o e => (I7.pin (b, o) (List.mem_append_right _ (List.mem_append_right _ (mem_pinsAt hb e)))).1, fun b hb => by
            obtain ⟨o, e, _⟩ := T.obj _ _ st6 b hb
            exact (I7.pin (b, o) (List.mem_append_right _ (List.mem_append_right _ (mem_pinsAt hb e)))).2.1⟩
        refine wpAny_mono (hg' _ s6 _ H6 y u (fun σ' H' => σ' = some y :: frees js σ ∧ H' = H6) I6' r6 ⟨rfl, rfl⟩) (fun _ s7 ⟨σ7, H7, I7, e7, e7'⟩ => ?_) fun _ _ z => by rw [eYx] at z; exact z
        subst e7 e7'
        refine wpAny_mono (ht' _ s7 _ H7 _ I7 q6) (fun ok s8 ⟨H8, I8, q8⟩ => ?_) fun _ _ z => by rw [eYx] at z; exact z
        cases ok with
        | false =>
          rw [if_neg Bool.false_ne_true] at q8 ⊢
          obtain ⟨zs', m', hz', hm', w'⟩ := q8
          obtain ⟨b1, b2⟩ := back I8
          exact ⟨m', hm', i + 1, some y, H8, zs', I8.unpinned, b1, b2, hz', w'⟩
        | true =>
          rw [if_pos rfl] at q8 ⊢
          refine wpAny_mono (he' _ s8 _ H8 _ I8 q8) (fun u9 s9 ⟨v9, H9, I9, r9, zs9, hz9, hl9, m9, hm9, w9⟩ => ?_) fun _ _ z => by rw [eYx] at z; exact z
          refine wpAny_mono (mt_append (X := Y) _ s9 _ H9 (.ref D) [v9] (.ref D) [u9] (fun _ H' => H' = upd H9 D (.lst (zs9 ++ [v9]))) I9 rfl (.cons r9 .nil) ⟨D, zs9, v9, rfl, rfl, hz9, hl9, rfl⟩) (fun _ s10 ⟨_, H10, I10, _, e10⟩ => ?_) fun _ _ z => by rw [eYx] at z; exact z
          subst e10
          obtain ⟨b1, b2⟩ := back I10
          exact ⟨m9, hm9, i + 1, some y, _, zs9 ++ [v9], I10.unpinned, b1, b2, upd_same, w9⟩
    · rw [upd_ne (Nat.ne_of_lt (fpD b hb))]
      exact (f2 b hb).1
  exact codeAny_compStart_list (loop _ rfl) (T.self _ 0 _ _ _ (T.keep 0 _ _ st2 (fun b _ o q => k34 b o (k23 b o q))) (loop _ rfl))
end FL
namespace FL
open PySem PySem.Spec PyProof.Rows L2
/-! ### over data -/
/-- a new list of plain data -/
def tN (X : Cx) (ρ : Ro) (ds : List D) : TE := fun σ H Q => RelE X H σ ρ ∧ ∀ a vs H', H a = none → Same H H' → H' a = some (.lst vs) → IsAll X.K H' vs ds → Q (.ref a) H'
def EvN (X : Cx) (e : Expr) (ρ : Ro) (ds : List D) : Prop := PE X e (tN X ρ ds)
theorem EvN.ev {X : Cx} {e : Expr} {ρ : Ro} {ds : List D} (h : EvN X e ρ ds) : Ev X e ρ (.ls ds) :=
  PE.imp h fun _ _ _ ⟨r, q⟩ => ⟨r, fun a _ H' _ s e h => q (.ref a) H' s (.ls (.of e) h)⟩
/-- what is walked hands out ds, as long as nothing that was there is changed -/
def SrcOk (K : PySem.W.Frag) (J : It) (H : Hp) (ds : List D) : Prop :=
  ∀ H3, Same H H3 → (∀ i, ds.length ≤ i → J.stop i H3) ∧ ∀ i d, ds[i]? = some d → J.go i H3 ∧ ∀ x H4, J.yld i H3 x H4 → H4 = H3 ∧ Is K H3 x d
def tSrc (X : Cx) (ρ : Ro) (ds : List D) : TI := fun σ H R => RelE X H σ ρ ∧ ∀ J H', Same H H' → SrcOk X.K J H' ds → R J H'
def Src (X : Cx) (tg e : Expr) (ρ : Ro) (ds : List D) : Prop := PI X tg e (tSrc X ρ ds)
section
variable {X : Cx} {e a b tg : Expr} {ρ : Ro} {ds : List D} {d : D} {pos : Pos} {i j : Int}
theorem PI.imp {t t' : TI} (h : PI X tg e t) (f : ∀ σ H R, t' σ H R → t σ H R) : PI X tg e t' := fun pins s σ H R I q => h pins s σ H R I (f σ H R q)
theorem src_tup (h : Ev X e ρ (.tup ds)) : Src X tg e ρ ds := by
  refine PI.imp (pi_tup h) ?_
  rintro σ H R ⟨r, q⟩
  refine ⟨r, fun v H1 s1 h1 => ?_⟩
  obtain ⟨p, xs, rfl, hT, hA⟩ := h1.tup_inv
  refine ⟨p, rfl, ⟨xs, hT⟩, q _ H1 s1 fun H3 s3 => ⟨fun i hi => ⟨xs, sameT s3 hT, by rw [hA.length]; exact hi⟩, fun i d hd => ?_⟩⟩
  obtain ⟨v, hv, hI⟩ := (hA.mono s3).get hd
  exact ⟨⟨xs, v, sameT s3 hT, hv⟩, fun x H4 ⟨e4, y⟩ => ⟨e4, by have := y xs (sameT s3 hT); rw [hv] at this; cases this; exact hI⟩⟩
theorem src_ls (h : Ev X e ρ d) (hl : lsD d = some ds) : Src X tg e ρ ds := by
  refine PI.imp (pi_list h) ?_
  rintro σ H R ⟨r, q⟩
  refine ⟨r, fun v H1 s1 h1 => ?_⟩
  obtain ⟨p, xs, rfl, hT, hA⟩ := h1.lsD_inv hl
  refine ⟨p, rfl, ⟨xs, hT⟩, q _ H1 s1 fun H3 s3 => ⟨fun i hi => ⟨xs, s3.seq hT, by rw [hA.length]; exact hi⟩, fun i d hd => ?_⟩⟩
  obtain ⟨v, hv, hI⟩ := (hA.mono s3).get hd
  exact ⟨⟨xs, v, s3.seq hT, hv⟩, fun x H4 ⟨e4, y⟩ => ⟨e4, by have := y xs (s3.seq hT); rw [hv] at this; cases this; exact hI⟩⟩
theorem srcOk_range {K : PySem.W.Frag} {lo : Int} {n : Nat} {H : Hp} : SrcOk K (Itr lo n) H ((List.range n).map fun (t : Nat) => D.int (lo + t)) := by
  intro H3 s3
  refine ⟨fun i hi => (by show n ≤ i; simpa using hi), fun i d hd => ?_⟩
  rw [List.getElem?_map] at hd
  by_cases hn : i < n
  · rw [List.getElem?_range hn] at hd
    cases hd
    refine ⟨hn, fun x H4 ⟨e1, e2⟩ => ⟨e1, by rw [e2]; exact .int _⟩⟩
  · rw [List.getElem?_eq_none (by simpa using hn)] at hd
    cases hd
theorem src_range2 {p : Pos} (hm : X.mg "range" = none) (ha : Ev X a ρ (.int i)) (hb : Ev X b ρ (.int j)) (h0 : -(2 ^ 62) ≤ i) (h0' : i < 2 ^ 62) (h1 : -(2 ^ 62) ≤ j) (h2 : j < 2 ^ 62) (hg : Gl X "range" := by rfl)
    (hs : starEach [a, b] X.env = [(false, eval a X.env), (false, eval b X.env)] := by rfl) (hs2 : starEach [b] X.env = [(false, eval b X.env)] := by rfl) :
    Src X tg (.Call (.Name "range" p) [a, b] [] pos) ρ ((List.range (j - i).toNat).map fun (t : Nat) => D.int (i + t)) := by
  refine PI.imp (pi_range2 hg hm (ea_cons ha (ea_cons hb ea_nil hs2) (hs.trans (by rw [hs2]))) hs hs2) ?_
  rintro σ H R ⟨r, q⟩
  refine ⟨r, fun vs H1 s1 h3' => ?_⟩
  obtain ⟨v, v', rfl, h3, h4⟩ := two_inv h3'
  cases h3.int_inv
  cases h4.int_inv
  exact ⟨i, j, rfl, ⟨h0, h0', h1, h2⟩, q _ H1 s1 srcOk_range⟩
end
/-- the tests over data -/
def Ets (X : Cx) (ifs : List Expr) (ρ : Ro) (k : Bool) : Prop := PTs X ifs (tB X ρ k)
theorem ets_nil {X : Cx} {ρ : Ro} : Ets X [] ρ true := fun pins s σ H Q I ⟨_, q⟩ => pts_nil pins s σ H Q I (q H (Same.refl H))
theorem ets_one {X : Cx} {ρ : Ro} {c : Expr} {k : Bool} (h : Et X c ρ k) : Ets X [c] ρ k := pts_one h
def freesD (js : List Nat) (ρ : Ro) : Ro := js.map fun j => (ρ[j]?).join

theorem relE_blk {X Y : Cx} (hK : Y.K = X.K) {H : Hp} {σ : L2.St} {ρ : Ro} {js : List Nat} {x : V} {d : D} (r : RelE X H σ ρ) (hx : Is X.K H x d) : RelE Y H (some x :: frees js σ) (some d :: freesD js ρ) := by
  have vals : ∀ (i : Nat) (e : D), (some d :: freesD js ρ)[i]? = some (some e) → ∃ v, (some x :: frees js σ)[i]? = some (some v) ∧ Is X.K H v e := fun i e h => by
    cases i with
    | zero => cases h; exact ⟨x, rfl, hx⟩
    | succ i =>
      have h' : (freesD js ρ)[i]? = some (some e) := h
      unfold freesD at h'
      rw [List.getElem?_map] at h'
      cases q : js[i]? with
      | none => rw [q] at h'; cases h'
      | some j =>
        rw [q] at h'
        have h4 : (ρ[j]?).join = some e := Option.some.inj h'
        have h5 : ρ[j]? = some (some e) := by
          cases z : ρ[j]? with
          | none => rw [z] at h4; cases h4
          | some o => rw [z] at h4; have h4' : o = some e := h4; rw [h4']
        obtain ⟨v, e1, e2⟩ := r.val j e h5
        refine ⟨v, ?_, e2⟩
        show (frees js σ)[i]? = some (some v)
        unfold frees
        rw [List.getElem?_map, q]
        show some (σ[j]?).join = _
        rw [e1]
        rfl
  exact ⟨by simp [frees, freesD], fun i e h => by rw [hK]; exact vals i e h⟩

/-- the block reads no name of the def around it -/
theorem no_free {scope : Scope} {env : Env} {cl : List (Str × Addr)} (h : ∀ p ∈ scope.names, p.2 ≠ .cell ∧ p.2 ≠ .free) :
    ∀ y, (relabel scope env).names.lookup y = some .cell ∨ (relabel scope env).names.lookup y = some .free → ∃ c, cl.lookup y = some c := by
  have key : ∀ p ∈ (relabel scope env).names, p.2 ≠ .cell ∧ p.2 ≠ .free := by
    intro p hp
    obtain ⟨⟨n, k⟩, hm, e⟩ := List.mem_map.mp (show p ∈ scope.names.map _ from hp)
    have hk := h _ hm
    have hf : (k == NameKind.free) = false := by simpa using hk.2
    simp only [hf, Bool.false_and, Bool.false_eq_true, if_false] at e
    subst e
    exact hk
  intro y z
  rcases z with z | z
  · exact absurd rfl (key _ (PySem.mem_of_lookup z)).1
  · exact absurd rfl (key _ (PySem.mem_of_lookup z)).2

theorem evn_comp {X : Cx} {elt iter : Expr} {x : Str} {px : Pos} {ifs : List Expr} {scope : Scope} {cl : List (Str × Addr)} {pos : Pos} {ys : List Str} {js : List Nat} {ρ : Ro} {ds : List D} (p : D → Bool) (f : D → D)
    (hc : X.calm = true) (hi : Src X (.Name x px) iter ρ ds) (hz : ds.length ≤ 1000000) (hfz : ∀ d ∈ ds, p d = true → Fz (f d))
    (ht : ∀ C s₀ H₀ fp, ∀ d ∈ ds, Ets (blk X scope cl (x :: ys) C s₀ H₀ fp) ifs (some d :: freesD js ρ) (p d))
    (he : ∀ C s₀ H₀ fp, ∀ d ∈ ds, p d = true → Ev (blk X scope cl (x :: ys) C s₀ H₀ fp) elt (some d :: freesD js ρ) (f d))
    (hclos : closureFor scope X.env = pure cl) (hcell : ∀ y ∈ scope.names, y.2 ≠ .cell) (hkind : scope.kind = .function)
    (hnames : ∀ y ∈ scope.names, y.2 = .local → scope.names.lookup y.1 = some .local) (hx : scope.names.lookup x = some .local) (hnd : (x :: ys).Nodup)
    (hcl : ∀ y c, cl.lookup y = some c → X.env.cells.lookup y = some c)
    (hhas : ∀ y, (relabel scope X.env).names.lookup y = some .cell ∨ (relabel scope X.env).names.lookup y = some .free → ∃ c, cl.lookup y = some c)
    (hjs : js.length = ys.length) (hjy : ∀ (i j : Nat) (y : Str), js[i]? = some j → ys[i]? = some y → X.N[j]? = some y ∧ Vis X.env.scope y ∧ (X.env.kindOf y = some .cell ∨ X.env.kindOf y = some .free) ∧ ((relabel scope X.env).names.lookup y = some .cell ∨ (relabel scope X.env).names.lookup y = some .free))
    (hs : ∀ x, foldedSetIterable iter X.env x = pure x := by intro _; rfl) : EvN X (.ListComp elt [⟨.Name x px, iter, ifs, 0⟩] scope pos) ρ ((ds.filter p).map f) := by
  refine PE.imp (pe_comp (js := js) (tt := fun Y σ H Q => ∃ d, d ∈ ds ∧ tB Y (some d :: freesD js ρ) (p d) σ H Q) (te := fun Y σ H Q => ∃ d, d ∈ ds ∧ p d = true ∧ tD Y (some d :: freesD js ρ) (f d) σ H Q) hc hi
    (fun C s₀ H₀ fp pins s σ H Q I ⟨d, hd, q⟩ => ht C s₀ H₀ fp d hd pins s σ H Q I q) (fun C s₀ H₀ fp pins s σ H Q I ⟨d, hd, hp, q⟩ => he C s₀ H₀ fp d hd hp pins s σ H Q I q) hclos hcell hkind hnames hx hnd hcl hhas hjs hjy hs) ?_
  rintro σ H Q ⟨r, q⟩
  refine ⟨r, fun J H2 s2 ok D hD Y eH eK => ?_⟩
  -- the invariant: what was there stands, the list holds what came of the items so far
  have fzs : ∀ (i : Nat), ∀ d ∈ ((ds.take i).filter p).map f, Fz d := fun i d hd => by
    obtain ⟨d', h1, rfl⟩ := List.mem_map.mp hd
    obtain ⟨h2, h3⟩ := List.mem_filter.mp h1
    exact hfz d' (List.mem_of_mem_take h2) h3
  refine ⟨fun i m zs H3 => m = ds.length - i ∧ i ≤ ds.length ∧ (∀ b o, H2 b = some o → H3 b = some o) ∧ IsAll X.K H3 zs (((ds.take i).filter p).map f), ⟨ds.length, by simp, Nat.zero_le _, same_new hD, ?_⟩, ?_⟩
  · simpa using IsAll.nil
  · rintro i m zs H3 hzs ⟨rfl, hil, k3, hA⟩
    obtain ⟨stop, go⟩ := ok H3 k3
    by_cases hlt : i < ds.length
    · obtain ⟨g, y⟩ := go i ds[i] (by simp [hlt])
      refine .inr ⟨g, fun v H4 hy => ?_⟩
      obtain ⟨rfl, hv⟩ := y v H4 hy
      have hmem : ds[i] ∈ ds := List.getElem_mem hlt
      have r3 : RelE X H4 σ ρ := r.mono (s2.trans k3)
      refine ⟨ds[i], hmem, relE_blk eK r3 hv, fun H5 s5 => ?_⟩
      have etake : ds.take (i + 1) = ds.take i ++ [ds[i]] := by rw [List.take_succ_eq_append_getElem hlt]
      cases hp : p ds[i] with
      | false =>
        refine iteF ⟨zs, ds.length - (i + 1), s5 _ _ hzs, by omega, rfl, hlt, fun b o h => s5 _ _ (k3 b o h), ?_⟩
        rw [etake, List.filter_append]
        simpa [hp] using hA.mono s5
      | true =>
        refine iteT ⟨ds[i], hmem, hp, (relE_blk eK r3 hv).mono s5, fun y H6 s6 hy6 => ⟨zs, s6 _ _ (s5 _ _ hzs), ?_, ds.length - (i + 1), by omega, rfl, hlt, fun b o h => ?_, ?_⟩⟩
        · have e1 := hA.length
          rw [List.length_map] at e1
          have e2 := List.length_filter_le p (ds.take i)
          rw [List.length_take] at e2
          rw [sizeLine_eq]
          omega
        · rw [upd_ne (ne_of_none h hD)]
          exact s6 _ _ (s5 _ _ (k3 b o h))
        · have hD6 : H6 D = some (.lst zs) := s6 _ _ (s5 _ _ hzs)
          have kt : KT H6 (upd H6 D (.lst (zs ++ [y]))) :=
            ⟨fun b xs h => by rw [upd_ne (ne_of h hD6 (by intro z; cases z))]; exact h, fun b o u h => by rw [upd_ne (ne_of h hD6 (by intro z; cases z))]; exact h⟩
          rw [etake, List.filter_append, List.map_append]
          refine IsAll.append ((hA.mono (s5.trans s6)).keep kt (fzs i)) ?_
          rw [eK] at hy6
          simpa [hp] using IsAll.cons (hy6.keep kt (hfz _ hmem hp)) .nil
    · refine .inl ⟨stop i (by omega), q D zs H3 (s2.free hD) (s2.trans k3) hzs ?_⟩
      have : ds.take i = ds := List.take_of_length_le (by omega)
      rw [this] at hA
      exact hA
end FL

/-! FA: built-ins over data; the law's head with the sizes of the script's numbers -/
namespace FL
open PySem PySem.Spec PyProof.Rows L2
theorem bools_of : ∀ {bs : List Bool} {us : List Value}, Vals (bs.map V.bl) us → LSm.BoolsAre us bs
  | [], _, .nil => .nil
  | b :: _, _, .cons r t => by
    cases r
    exact .cons b (bools_of t)
theorem call_all {X : Cx} (hc : X.calm = true) : CallR X (.builtin "all") (fun vs H Q => ∃ (a : Addr) (bs : List Bool), vs = [.ref a] ∧ SqL X.K H a (bs.map V.bl) ∧ Q (.bl (bs.all id)) H) := by
  intro pins s σ H vs us Q I r h
  obtain ⟨l, bs, rfl, hq, q⟩ := h
  obtain ⟨u, rfl, ru⟩ := vals1 r
  cases ru
  obtain ⟨its, rv, p, hz⟩ := I.list hq
  have hb : LSm.BoolsAre its bs := bools_of rv
  have hl := p.isList
  have hlt : l < s.heap.objs.size := by obtain ⟨_, e, _⟩ := hl; exact Heap.lt_size e
  refine call_all_walk (wpAny_pyIter_list hl ?_)
  refine ⟨s.heap.objs.size, [s.heap.objs.size, l], [s.heap.objs.size], its.toArray.size, _, _, fun i => (bs[i]?).getD true, rfl, Walks.list (A := X.A.in1) (I.ok.hd hc) _ l (Nat.ne_of_lt hlt) its.toArray,
    ⟨⟨_, Heap.get?_push_size _ rfl, rfl, rfl⟩, hl.push _⟩, fun i v s' Q' E' hP hQ => ?_, fun h' tk hk => ?_⟩
  · obtain ⟨b, e, rfl⟩ := hb.get i v (by simpa using hP)
    simp only [e, Option.getD_some] at hQ
    exact wpAny_truthy_bool hQ
  · have e : ((List.range its.toArray.size).all fun i => (bs[i]?).getD true) = bs.all id := by
      rw [List.size_toArray, hb.length]; exact LSm.range_all bs
    rw [e]
    exact ⟨.bl _, H, I.kept (LSm.kept_iter hk), rfl, q⟩
theorem IsAll.bools {K : PySem.W.Frag} {H : Hp} : ∀ {vs : List V} {bs : List Bool}, IsAll K H vs (bs.map D.bl) → vs = bs.map V.bl
  | _, [], .nil => rfl
  | _, b :: bs, .cons h r => by
    cases h.bl_inv
    rw [IsAll.bools r]
    rfl
section
variable {X : Cx} {e a b c : Expr} {es : List Expr} {ρ : Ro} {d : D} {ds : List D} {pos : Pos} {i j : Int} {k k' : Bool}
theorem ev_all {p : Pos} {bs : List Bool} (hc : X.calm = true) (hm : X.mg "all" = none) (ha : Ev X a ρ (.ls (bs.map D.bl))) (hg : Gl X "all" := by rfl) (he : starEach [a] X.env = [(false, eval a X.env)] := by rfl) : Ev X (.Call (.Name "all" p) [a] [] pos) ρ (.bl (bs.all id)) :=
  ev_callB (call_all hc) hm boot_all (ea_cons ha ea_nil he) (fun vs H Q h0 q => by
    obtain ⟨v, rfl, h⟩ := one_inv h0
    obtain ⟨l, xs, rfl, h1, h2⟩ := h.ls_inv
    cases h2.bools
    exact ⟨l, bs, rfl, h1, q _ H (Same.refl H) (.bl _)⟩) hg (by decide) (by decide) he rfl
end
theorem kit_b {K : PySem.W.Frag} {T U : String} {k : Bool} (hne : (Value.type T == Value.type U) = false) (hm : PySem.W.kitMeta U = true) (hs : (fastBuiltinMro T).map (·.contains (.type U)) = some k) : PySem.W.kitOne K (.type T) (.type U) = some k := by
  unfold PySem.W.kitOne
  rw [hne, if_neg Bool.false_ne_true]
  unfold PySem.W.kitCls
  dsimp only
  rw [if_pos hm]
  exact hs
theorem kit_s {K : PySem.W.Frag} {T : String} : PySem.W.kitOne K (.type T) (.type T) = some true := by
  unfold PySem.W.kitOne
  rw [if_pos (by simp)]
theorem kit_int_bool {K : PySem.W.Frag} : PySem.W.kitOne K (.type "int") (.type "bool") = some false := kit_b (by decide +kernel) (by decide +kernel) (by decide +kernel)
theorem bo_int : bootBuiltins "int" = some (.type "int") := by decide +kernel
theorem bo_bool : bootBuiltins "bool" = some (.type "bool") := by decide +kernel
theorem bo_tuple : bootBuiltins "tuple" = some (.type "tuple") := by decide +kernel
theorem bo_list : bootBuiltins "list" = some (.type "list") := by decide +kernel
/-! ### the law's head -/
theorem bits_of_lay {ns : List Int} (h : PySem.W.WData.layableAll [PySem.W.WData.list (ns.map PySem.W.WData.int)] = true) : ∀ z ∈ ns, Builtin.Int.intBits z ≤ 1048576 := fun z hz => by
  have h1 := PySem.W.layableW_arg h _ List.mem_cons_self
  have h2 := PySem.W.layableW_item h1 (.int z) (List.mem_map.mpr ⟨z, hz, rfl⟩)
  have h3 := PySem.W.layable0_of_all (PySem.W.lay0_int h2)
  exact PyData.bits_of_layable h3
theorem walk_ofB {l : PySem.W.OpenLaw} {n k : Nat} {q : Program} {loose : List Str} {XP : (Str → Option Value) → Heap → Prop} {YP : World → Heap → Prop} {d : DefRec} {K : Params → PySem.W.Frag} {x : Str} {Pf : List D → D → Prop}
    (hn : l.most = some n) (hn2 : n ≤ sizeLine) (hdf : d.params.defaults = []) (hr : Room k callerA)
    (hY : ∀ (w : World) (h : Heap), YP w h → (K w.params).In h)
    (F : ∀ (w : World) (mg : Str → Option Value) (fa : Addr) (h : Heap), (K w.params).In h → h.Ns mainGlobals mg → mg d.name = some (.ref fa) →
      ∃ fd : FuncData, (∀ (s : Shared) (u : Value), BindsTo s fd ⟨[u], []⟩ [(x, u)]) ∧
        ∀ base : Heap, (K w.params).In base → base.Ns mainGlobals mg → FnOk l.prog w (K w.params) mg base CX0 k fa fd [x] (SpD (K w.params) Pf))
    (hsp : ∀ (ns : List Int), ns.length ≤ n → (∀ z ∈ ns, Builtin.Int.intBits z ≤ 1048576) → Pf [.ls (ns.map D.int)] (.bl true)) :
    PySem.W.WalkO q loose XP YP l.row.toRowW d [] (fun f vs => PySem.call f vs) := by
  intro w s₀ s₁ mg mb G Y fa o pm cd doc dV kV ho hd hcd hD hmg hg args vals as hpre hlay hrd hwl hlo
  obtain rfl : dV = .none := PySem.W.Dflts.none hD hdf
  obtain rfl : kV = .none := PySem.W.Dflts.noKw hD
  obtain ⟨a, vs, ns, rfl, rfl, hobj, hints, hlen⟩ := Att.script_of hn hpre hwl
  have hbits := bits_of_lay hlay
  have KX := hY w _ Y
  obtain ⟨fd, hb, hF⟩ := F w mg fa _ KX G.T.g hmg
  have hc : codeAny (model l.prog w) callerA (.call (.ref fa) ⟨[.ref a], []⟩) (fun r s' => r = .ok (.ret (.bool true)) ∧ OldK s₁.heap s'.heap ∧ s'.os = s₁.os ∧ AllBare s'.gens) s₁ :=
    law_call KX G.T.g G.T.b G.T.builtins G.T.nolimit hg hobj hints (Nat.le_trans hlen hn2) hr hF hb
      (fun H hO hS => ⟨[.ls (ns.map D.int)], .bl true, .cons (.ls hS (IsAll.ints ns)) .nil, hsp ns hlen hbits, fun v H' _ h => h.bl_inv⟩) (fun H e s' z => z)
  refine PySem.W.enter_call (codeAny_mono hc fun r s' hq => ?_)
  obtain ⟨rfl, h2, h3, h4⟩ := hq
  exact ⟨.inl ⟨.bool true, .bool true, [], rfl, fun _ => rfl, .bool true, Att.post_true l _, fun _ => ⟨List.Pairwise.nil, fun _ hm => (nomatch hm)⟩⟩, h2, h3, h4⟩
end FL

/-! sizes by instances -/
namespace FL
open PySem
open Builtin.Int (intBits)
theorem Bd.up {i : Int} {m : Nat} (h : Bd i m) (n : Nat) (hn : m ≤ n) : Bd i n := ⟨Nat.le_trans h.lt hn⟩
theorem Bd.of_lt {i : Int} {m : Nat} (h : i.natAbs < 2 ^ m) : Bd i m := ⟨intBits_le_iff.mpr h⟩
theorem Bd.lit {i : Int} {m : Nat} (h : i.natAbs < 2 ^ m := by decide) : Bd i m := .of_lt h
theorem Bd.add {i j : Int} {m n : Nat} (hi : Bd i m) (hj : Bd j n) (k : Nat) (h : max m n + 1 ≤ k) : Bd (i + j) k := ⟨Nat.le_trans (intBits_add_le hi.lt hj.lt) h⟩
theorem Bd.sub {i j : Int} {m n : Nat} (hi : Bd i m) (hj : Bd j n) (k : Nat) (h : max m n + 1 ≤ k) : Bd (i - j) k := ⟨Nat.le_trans (intBits_sub_le hi.lt hj.lt) h⟩
theorem Bd.mul {i j : Int} {m n : Nat} (hi : Bd i m) (hj : Bd j n) (k : Nat) (h : m + n ≤ k) : Bd (i * j) k := ⟨Nat.le_trans (intBits_mul_le hi.lt hj.lt) h⟩
instance bd_add {i j : Int} {m n : Nat} [hi : Bd i m] [hj : Bd j n] : Bd (i + j) (max m n + 1) := ⟨intBits_add_le hi.lt hj.lt⟩
instance bd_mul {i j : Int} {m n : Nat} [hi : Bd i m] [hj : Bd j n] : Bd (i * j) (m + n) := ⟨intBits_mul_le hi.lt hj.lt⟩
instance bd_0 : Bd 0 0 := .lit
instance bd_2 : Bd 2 2 := .lit
instance bd_3 : Bd 3 2 := .lit
instance bd_4 : Bd 4 3 := .lit
instance bd_10 : Bd 10 4 := .lit
theorem Bd.div {i j : Int} {m : Nat} (hi : Bd i m) (h : 0 < j) : Bd (i / j) m := by
  have e := intBits_fdiv_le (y := j) hi.lt
  rw [Int.fdiv_eq_ediv_of_nonneg i (by omega)] at e
  exact ⟨e⟩
theorem Bd.le {i j : Int} {m : Nat} (hj : Bd j m) (h : i.natAbs ≤ j.natAbs) : Bd i m := ⟨intBits_le_of_natAbs h hj.lt⟩
theorem Bd.sqrt {y N : Int} {k : Nat} (h : y * y ≤ N) (hN : Bd N (k + k)) : Bd y k := by
  refine .of_lt ?_
  have h1 := intBits_le_iff.mp hN.lt
  have h2 : y.natAbs * y.natAbs ≤ N.natAbs := by
    have : (y.natAbs * y.natAbs : Nat) = (y * y).natAbs := by rw [Int.natAbs_mul]
    rw [this]
    have h0 : 0 ≤ y * y := by
      rw [← Int.natAbs_mul_self]
      exact Int.natCast_nonneg _
    omega
  refine Nat.lt_of_not_le fun q => ?_
  have h3 := Nat.mul_le_mul q q
  rw [← Nat.pow_add] at h3
  omega
theorem Bd.factor {a p : Int} {k : Nat} (ha : 0 < a) (h : Bd (2 * a * p) k) : Bd p k := by
  refine h.le ?_
  rw [Int.natAbs_mul]
  have : 1 ≤ (2 * a).natAbs := by omega
  have := Nat.mul_le_mul_right p.natAbs this
  omega
end FL

/-! FG: loops over any source, lists of a def's own making -/
namespace FL
open PySem PySem.Spec PyProof.Rows L2

/-- what is walked hands out ds as long as the body keeps to Ok -/
def SrcS (X : Cx) (Ok : Ro → Prop) (J : It) (ρ : Ro) (H : Hp) (ds : List D) : Prop :=
  ∀ ρ' H3 σ3, Go ρ H ρ' H3 → RelS X X.H₀ H3 σ3 ρ' → Ok ρ' → (∀ i, ds.length ≤ i → J.stop i H3) ∧ ∀ i d, ds[i]? = some d → J.go i H3 ∧ ∀ x H4, J.yld i H3 x H4 → H4 = H3 ∧ Is X.K H3 x d
def tSrcS (X : Cx) (Ok : Ro → Prop) (ρ : Ro) (ds : List D) : TI := fun σ H R => RelS X X.H₀ H σ ρ ∧ ∀ J H', Same H H' → SrcS X Ok J ρ H' ds → R J H'
def Wk (X : Cx) (Ok : Ro → Prop) (tg e : Expr) (ρ : Ro) (ds : List D) : Prop := PI X tg e (tSrcS X Ok ρ ds)

theorem srcS_T {X : Cx} {Ok : Ro → Prop} {ρ : Ro} {H : Hp} {σ : L2.St} {a : Addr} {xs : List V} {ds : List D} (r : RelS X X.H₀ H σ ρ) (hT : SqT X.K H a xs) (hA : IsAll X.K H xs ds) (hz : ∀ d ∈ ds, Fz d) : SrcS X Ok (Itt X.K a) ρ H ds := by
  intro ρ' H3 σ3 g r3 _
  have kt := g.kt r
  have hT3 := kt.seqT hT
  refine ⟨fun i hi => ⟨xs, hT3, by rw [hA.length]; exact hi⟩, fun i d hd => ?_⟩
  obtain ⟨v, hv, hI⟩ := (hA.keep kt hz).get hd
  exact ⟨⟨xs, v, hT3, hv⟩, fun x H4 ⟨e4, y⟩ => ⟨e4, by have := y xs hT3; rw [hv] at this; cases this; exact hI⟩⟩
/-- from the list at each point -/
theorem srcS_L {X : Cx} {Ok : Ro → Prop} {ρ : Ro} {H : Hp} {a : Addr} {ds : List D} (h : ∀ ρ' H3 σ3, Go ρ H ρ' H3 → RelS X X.H₀ H3 σ3 ρ' → Ok ρ' → ∃ xs, SqL X.K H3 a xs ∧ IsAll X.K H3 xs ds) : SrcS X Ok (Itl X.K a) ρ H ds := by
  intro ρ' H3 σ3 g r3 ok
  obtain ⟨xs, hT3, hA⟩ := h ρ' H3 σ3 g r3 ok
  refine ⟨fun i hi => ⟨xs, hT3, by rw [hA.length]; exact hi⟩, fun i d hd => ?_⟩
  obtain ⟨v, hv, hI⟩ := hA.get hd
  exact ⟨⟨xs, v, hT3, hv⟩, fun x H4 ⟨e4, y⟩ => ⟨e4, by have := y xs hT3; rw [hv] at this; cases this; exact hI⟩⟩
theorem srcS_R {X : Cx} {Ok : Ro → Prop} {ρ : Ro} {H : Hp} {lo : Int} {n : Nat} : SrcS X Ok (Itr lo n) ρ H ((List.range n).map fun (t : Nat) => D.int (lo + t)) := by
  intro ρ' H3 σ3 g r3 _
  exact srcOk_range (K := X.K) (H := H3) H3 (Same.refl H3)

section
variable {X : Cx} {e a b c tg : Expr} {es : List Expr} {ρ : Ro} {d : D} {ds : List D} {pos : Pos} {i j : Int} {rest A B : List Stmt} {P : Po}
theorem wk_tup (h : Ev X e ρ (.tup ds)) (hz : ∀ d ∈ ds, Fz d) : Wk X (fun _ => True) tg e ρ ds := by
  refine PI.imp (pi_tup h) ?_
  rintro σ H R ⟨r, q⟩
  refine ⟨r.e, fun v H1 s1 h1 => ?_⟩
  obtain ⟨p, xs, rfl, hT, hA⟩ := h1.tup_inv
  exact ⟨p, rfl, ⟨xs, hT⟩, q _ H1 s1 (srcS_T (r.mono s1) hT hA hz)⟩
/-- over a new list -/
theorem wk_new (h : EvN X e ρ ds) (hz : ∀ d ∈ ds, Fz d) : Wk X (fun _ => True) tg e ρ ds := by
  refine PI.imp (pi_list h) ?_
  rintro σ H R ⟨r, q⟩
  refine ⟨r.e, fun p vs H1 hp s1 e1 h1 => ⟨p, rfl, ⟨vs, .of e1⟩, q _ H1 s1 (srcS_L fun ρ' H3 σ3 g r3 _ => ?_)⟩⟩
  have nm : ¬ Mu ρ p := fun m => by obtain ⟨ys, z⟩ := r.mu m; rw [hp] at z; cases z
  exact ⟨vs, .of (g.kept _ _ e1 nm), h1.keep (g.kt (r.mono s1)) hz⟩
theorem wk_range1 {p : Pos} (hm : X.mg "range" = none) (ha : Ev X a ρ (.int j)) (h1 : -(2 ^ 62) ≤ j) (h2 : j < 2 ^ 62) (hg : Gl X "range" := by rfl) (hs : starEach [a] X.env = [(false, eval a X.env)] := by rfl) :
    Wk X (fun _ => True) tg (.Call (.Name "range" p) [a] [] pos) ρ ((List.range j.toNat).map fun (t : Nat) => D.int (0 + t)) := by
  refine PI.imp (pi_range1 hg hm (ea_cons ha ea_nil hs) hs) ?_
  rintro σ H R ⟨r, q⟩
  refine ⟨r.e, fun vs H1 s1 h3' => ?_⟩
  obtain ⟨v, rfl, h3⟩ := one_inv h3'
  cases h3.int_inv
  exact ⟨j, rfl, h1, h2, q _ H1 s1 srcS_R⟩
theorem wk_range2 {p : Pos} (hm : X.mg "range" = none) (ha : Ev X a ρ (.int i)) (hb : Ev X b ρ (.int j)) (h0 : -(2 ^ 62) ≤ i) (h0' : i < 2 ^ 62) (h1 : -(2 ^ 62) ≤ j) (h2 : j < 2 ^ 62) (hg : Gl X "range" := by rfl)
    (hs : starEach [a, b] X.env = [(false, eval a X.env), (false, eval b X.env)] := by rfl) (hs2 : starEach [b] X.env = [(false, eval b X.env)] := by rfl) :
    Wk X (fun _ => True) tg (.Call (.Name "range" p) [a, b] [] pos) ρ ((List.range (j - i).toNat).map fun (t : Nat) => D.int (i + t)) := by
  refine PI.imp (pi_range2 hg hm (ea_cons ha (ea_cons hb ea_nil hs2) (hs.trans (by rw [hs2]))) hs hs2) ?_
  rintro σ H R ⟨r, q⟩
  refine ⟨r.e, fun vs H1 s1 h3' => ?_⟩
  obtain ⟨v, v', rfl, h3, h4⟩ := two_inv h3'
  cases h3.int_inv
  cases h4.int_inv
  exact ⟨i, j, rfl, ⟨h0, h0', h1, h2⟩, q _ H1 s1 srcS_R⟩

/-- for x in e: the items are plain data; Iv by the number of turns -/
theorem do_for (n : Nat) {x : Str} {p' : Pos} {Ok : Ro → Prop} (Iv : Nat → Ro → Prop) (M : Ro → Prop) (hp : PassesOwn (model X.prog X.w) X.A X.env X.xe) (hc : X.calm = true) (he : Wk X Ok (.Name x p') e ρ ds) (hz : ∀ d ∈ ds, Fz d) (hok : ∀ i ρ, Iv i ρ → Ok ρ) (h0 : Iv 0 ρ)
    (hs : ∀ (i : Nat) (d : D) (ρ : Ro), ds[i]? = some d → Iv i ρ → Do X A (ρ.set n (some d)) { nx := Iv (i + 1), rt := P.rt, bk := M, ct := Iv (i + 1) }) (hd : ∀ ρ, Iv ds.length ρ → M ρ)
    (h : ∀ ρ', M ρ' → Do X rest ρ' P) (hN : X.N.Nodup) (hi : X.N[n]? = some x := by rfl) (hx : Loc X.env.scope x := by first | exact Or.inl rfl | exact Or.inr rfl)
    (hf : X.fn x = true ∨ X.env.scope.names.lookup x = some .local := by first | exact .inl rfl | exact .inr rfl) (hset : ∀ x, foldedSetIterable e X.env x = pure x := by intro _; rfl) : Do X (.For (.Name x p') e A [] pos :: rest) ρ P := by
  refine do_seq (M := M) ?_ h
  have hb : PSs X A (fun D σ H => ∃ i d ρ, ds[i]? = some d ∧ Iv i ρ ∧ tPo X (ρ.set n (some d)) { nx := Iv (i + 1), rt := P.rt, bk := M, ct := Iv (i + 1) } D σ H) :=
    fun pins s σ H D I ⟨i, d, ρ, e1, e2, q⟩ => hs i d ρ e1 e2 pins s σ H D I q
  refine PS.imp (ps_for hp hc he (pg_name hN hi hx hf) hb hset) ?_
  rintro D σ H ⟨r, q1, q2, q3, q4⟩
  refine ⟨r, fun J H1 s1 src => ?_⟩
  have g1 : Go ρ H ρ H1 := Go.same s1
  refine ⟨fun i m σ' H' => m = ds.length - i ∧ i ≤ ds.length ∧ ∃ ρ', Iv i ρ' ∧ RelS X X.H₀ H' σ' ρ' ∧ Go ρ H1 ρ' H', ⟨ds.length, by simp, Nat.zero_le _, ρ, h0, r.mono s1, Go.refl ρ H1⟩, ?_⟩
  rintro i m σ' H' ⟨rfl, hil, ρ', iv, r', g⟩
  obtain ⟨stop, go⟩ := src ρ' H' σ' g r' (hok i ρ' iv)
  by_cases hlt : i < ds.length
  · obtain ⟨g0, y⟩ := go i ds[i] (by simp [hlt])
    refine .inr ⟨g0, fun σ2 H2 => ∃ ρ2, Iv (i + 1) ρ2 ∧ RelS X X.H₀ H2 σ2 ρ2 ∧ Go ρ H1 ρ2 H2, fun σ2 H2 p2 => ⟨ds.length - (i + 1), by omega, rfl, hlt, p2⟩, fun v H4 hy => ?_⟩
    obtain ⟨rfl, hv⟩ := y v H4 hy
    have fz : Fz ds[i] := hz _ (List.getElem_mem hlt)
    have no : ∀ a es, ds[i] = .lst a es → False := fun a es z => by rw [z] at fz; cases fz
    have g2 : Go ρ H1 (ρ'.set n (some ds[i])) H4 := g.trans (Go.set (Same.refl H4) fun a es z => (no a es z).elim)
    refine ⟨i, ds[i], ρ', by simp [hlt], iv, r'.set hv n (.inl fz) (fun a es z => (no a es z).elim), ?_, q2, ?_, ?_⟩
    · exact fun σ2 H2 ρ2 g' r2 iv2 => ⟨ρ2, iv2, r2, g2.trans g'⟩
    · exact fun σ2 H2 ρ2 g' r2 m => q1 σ2 H2 ρ2 (g1.trans (g2.trans g')) r2 m
    · exact fun σ2 H2 ρ2 g' r2 iv2 => ⟨ρ2, iv2, r2, g2.trans g'⟩
  · have e : i = ds.length := by omega
    subst e
    exact .inl ⟨stop _ (Nat.le_refl _), q1 σ' H' ρ' (g1.trans g) r' (hd ρ' iv)⟩

/-- a new list is stored -/
theorem do_setN (n : Nat) {x : Str} {pos' : Pos} (he : EvN X e ρ ds) (hz : ∀ d ∈ ds, Fz d) (h : ∀ l, ¬ Mu ρ l → Do X rest (ρ.set n (some (.lst l ds))) P) (hN : X.N.Nodup) (hi : X.N[n]? = some x := by rfl) (hx : Loc X.env.scope x := by first | exact Or.inl rfl | exact Or.inr rfl)
    (hs : swapsWith e (some (.Name x pos')) pos.line X.env = pure false := by rfl) (hf : X.fn x = true ∨ X.env.scope.names.lookup x = some .local := by first | exact .inl rfl | exact .inr rfl) : Do X (.Assign [.Name x pos'] e pos :: rest) ρ P := by
  refine do_seq (M := fun ρ' => ∃ l, ¬ Mu ρ l ∧ ρ' = ρ.set n (some (.lst l ds))) (PS.imp (ps_set hN hi hx he hs hf) ?_) (fun _ ⟨l, hl, z⟩ => z ▸ h l hl)
  rintro D σ H ⟨r, q1, q2, q3, q4⟩
  refine ⟨r.e, fun l vs H' hl s e1 h' => q1 _ H' _ (Go.set s fun a es z => ?_) ((r.mono s).set (.lst e1 h') n (.inr (.inr ⟨l, ds, rfl, hz⟩)) fun a es z => ?_) ⟨l, fun m => ?_, rfl⟩⟩
  · cases z
    exact .inr hl
  · cases z
    exact r.same.free hl
  · obtain ⟨ys, z⟩ := r.mu m
    rw [hl] at z
    cases z
/-- xs.append(e) -/
theorem do_append (n : Nat) {x : Str} {l : Addr} {p1 p2 p3 : Pos} (hρ : ρ[n]? = some (some (.lst l ds))) (he : Ev X e ρ d) (hz : Fz d) (hl : ds.length < 1000000) (hothers : ∀ (j : Nat) (es : List D), j ≠ n → ρ[j]? ≠ some (some (.lst l es)))
    (h : Do X rest (ρ.set n (some (.lst l (ds ++ [d])))) P) (hN : X.N[n]? = some x := by rfl) (hv : Vis X.env.scope x := by first | exact Or.inl rfl | exact Or.inr (Or.inl rfl) | exact Or.inr (Or.inr rfl))
    (hd : (x == ("__debug__" : Str)) = false := by decide) (hcd : (x == ("__classdict__" : Str)) = false := by decide)
    (hbase : attributeBase (.Name x p1) "append" X.env (eval (.Name x p1) X.env) = eval (.Name x p1) X.env := by rfl)
    (hfew : ((backTo p3 (starEach [e] X.env)).all (fun x => !x.1) && (backToKw p3 (keywordEach [] X.env)).all (fun x => x.1.isSome) && decide ([e].length + ([] : List Keyword).length + (if ([] : List Keyword).isEmpty then 0 else 1) < 30)) = true := by rfl)
    (hline : (p2.endLine == p3.line) = true := by rfl) (hstar : starEach [e] X.env = [(false, eval e X.env)] := by rfl) (hs : swapsWith (.Call (.Attribute (.Name x p1) "append" p2) [e] [] p3) none pos.line X.env = pure false := by rfl) :
    Do X (.Expr (.Call (.Attribute (.Name x p1) "append" p2) [e] [] p3) pos :: rest) ρ P := by
  refine do_seq (M := fun ρ' => ρ' = ρ.set n (some (.lst l (ds ++ [d])))) (PS.imp (ps_expr (pe_bm PySem.F.plainAttrs_list PySem.F.slot_list_append PySem.F.type_list_append mt_append (pe_var hN hv hd hcd) (ea_cons he ea_nil hstar) hbase hfew hline hstar rfl) hs) ?_) (fun _ z => z ▸ h)
  rintro D σ H ⟨r, q1, q2, q3, q4⟩
  obtain ⟨v, e1, h1, h2⟩ := r.val n _ hρ
  obtain ⟨rfl, xs, hT, hA⟩ := h1.lst_inv
  have fds : ∀ e ∈ ds, Fz e := by
    rcases h2 with z | z | ⟨a, es, z, f⟩
    · cases z
    · obtain ⟨_, ys, z, _⟩ := z.lst_inv
      rw [r.own l ⟨n, ds, hρ⟩] at z
      cases z
    · cases z; exact f
  refine ⟨_, e1, .inl ⟨rfl, xs, .of hT⟩, r.e, fun vs H2 s2 h3' => ?_⟩
  obtain ⟨v2, rfl, h3⟩ := one_inv h3'
  have hT2 := s2 _ _ hT
  have lx : xs.length = ds.length := hA.length
  refine ⟨l, xs, v2, rfl, rfl, hT2, by rw [sizeLine_eq]; omega, ?_⟩
  have kt : KT H2 (upd H2 l (.lst (xs ++ [v2]))) :=
    ⟨fun b xs h => by rw [upd_ne (ne_of h hT2 (by intro z; cases z))]; exact h, fun b o u h => by rw [upd_ne (ne_of h hT2 (by intro z; cases z))]; exact h⟩
  have r2 := r.mono s2
  have h0 : X.H₀ l = none := r.own l ⟨n, ds, hρ⟩
  have same : Same X.H₀ (upd H2 l (.lst (xs ++ [v2]))) := fun b o h => by
    rw [upd_ne (ne_of_none h h0)]
    exact r2.same b o h
  have hnl : n < ρ.length := (List.getElem?_eq_some_iff.mp hρ).1
  have go : Go ρ H (ρ.set n (some (.lst l (ds ++ [d])))) (upd H2 l (.lst (xs ++ [v2]))) := by
    refine ⟨fun b o h nm => ?_, ?_⟩
    · have : b ≠ l := fun z => nm (z ▸ ⟨n, ds, hρ⟩)
      rw [upd_ne this]
      exact s2 _ _ h
    · rintro a ⟨j, es, hj⟩
      rcases set_get hj with ⟨rfl, z, _⟩ | ⟨_, hj⟩
      · cases z
        exact .inl ⟨_, ds, hρ⟩
      · exact .inl ⟨j, es, hj⟩
  have own : ∀ a, Mu (ρ.set n (some (.lst l (ds ++ [d])))) a → X.H₀ a = none := by
    rintro a ⟨j, es, hj⟩
    rcases set_get hj with ⟨rfl, z, _⟩ | ⟨_, hj⟩
    · cases z
      exact h0
    · exact r.own a ⟨j, es, hj⟩
  refine q1 _ _ _ go ⟨same, by simp [r.len], fun j e' hj => ?_, own⟩ rfl
  rcases set_get hj with ⟨rfl, rfl, _⟩ | ⟨hne, hj⟩
  · refine ⟨.ref l, e1, .lst upd_same ?_, .inr (.inr ⟨l, _, rfl, fun e' he' => ?_⟩)⟩
    · exact ((hA.mono s2).keep kt fds).append (.cons (h3.keep kt hz) .nil)
    · rcases List.mem_append.mp he' with z | z
      · exact fds _ z
      · rw [List.mem_singleton.mp z]; exact hz
  · obtain ⟨u, f1, f2, f3⟩ := r2.val j e' hj
    refine ⟨u, f1, ?_, f3⟩
    rcases f3 with z | z | ⟨a, es, rfl, z⟩
    · exact f2.keep kt z
    · exact z.mono same
    · obtain ⟨rfl, ys, g1, g2⟩ := f2.lst_inv
      have : a ≠ l := fun z => hothers j es hne (z ▸ hj)
      exact .lst (by rw [upd_ne this]; exact g1) (g2.keep kt z)
end
end FL

/-! FE: == of plain data, in and not in, slices, lists handed back -/
namespace FL
open PySem PySem.Spec PyProof.Rows L2
/-! what == tells apart as data does; n: how deep the tuples lie -/
mutual
inductive Cm : Nat → D → D → Prop
  | non {n : Nat} : Cm n .non .non
  | bl {n : Nat} (a b : Bool) : Cm n (.bl a) (.bl b)
  | int {n : Nat} (i j : Int) : Cm n (.int i) (.int j)
  | str {n : Nat} (x y : Str) : Cm n (.str x) (.str y)
  | tup {n : Nat} {ds es : List D} (h : Cms n ds es) : Cm (n + 1) (.tup ds) (.tup es)
inductive Cms : Nat → List D → List D → Prop
  | nil {n : Nat} : Cms n [] []
  | short {n : Nat} (e : D) (es : List D) : Cms n [] (e :: es)
  | long {n : Nat} (d : D) (ds : List D) : Cms n (d :: ds) []
  | cons {n : Nat} {d e : D} {ds es : List D} (h : Cm n d e) (r : Cms n ds es) : Cms n (d :: ds) (e :: es)
end
theorem Cms.ints {n : Nat} : ∀ (ns ms : List Int), Cms n (ns.map D.int) (ms.map D.int)
  | [], [] => .nil
  | [], m :: ms => .short _ _
  | n :: ns, [] => .long _ _
  | n :: ns, m :: ms => .cons (.int n m) (Cms.ints ns ms)
theorem Cm.ints {n : Nat} (ns ms : List Int) : Cm (n + 1) (.tup (ns.map D.int)) (.tup (ms.map D.int)) := .tup (Cms.ints ns ms)
theorem Cms.get {n : Nat} : ∀ {ds es : List D}, Cms n ds es → ∀ (j : Nat) (d e : D), ds[j]? = some d → es[j]? = some e → Cm n d e
  | _, _, .nil, j, d, e, h, _ => by simp at h
  | _, _, .short _ _, j, d, e, h, _ => by simp at h
  | _, _, .long _ _, j, d, e, _, h => by simp at h
  | _, _, .cons h r, 0, d, e, h1, h2 => by simp at h1 h2; subst h1 h2; exact h
  | _, _, .cons h r, j + 1, d, e, h1, h2 => Cms.get r j d e (by simpa using h1) (by simpa using h2)
open Classical in
/-- the answer of == -/
noncomputable def eqb (d e : D) : Bool := decide (d = e)
open Classical in
theorem eqb_iff {d e : D} : eqb d e = true ↔ d = e := by unfold eqb; exact decide_eq_true_iff
theorem eqb_of {d e : D} {k : Bool} (h : k = true ↔ d = e) : eqb d e = k := by
  cases k with
  | true => exact eqb_iff.mpr (h.mp rfl)
  | false =>
    cases q : eqb d e with
    | false => rfl
    | true => exact absurd (h.mpr (eqb_iff.mp q)) Bool.false_ne_true

section
variable {X : Cx} {pins : List (Addr × Obj)} {σ : L2.St} {H : Hp} {s : Shared}
mutual
theorem Is.inj (I : L2.Inv X pins σ H s) : ∀ {n : Nat} {d e : D} {v : V}, Cm n d e → Is X.K H v d → Is X.K H v e → d = e
  | _, _, _, _, .non, _, _ => rfl
  | _, _, _, _, .bl a b, h1, h2 => by cases h1.bl_inv; cases h2.bl_inv; rfl
  | _, _, _, _, .int a b, h1, h2 => by cases h1.int_inv; cases h2.int_inv; rfl
  | _, _, _, _, .str a b, h1, h2 => by cases h1.str_inv; cases h2.str_inv; rfl
  | _, _, _, _, .tup c, h1, h2 => by
    obtain ⟨a, xs, rfl, t1, r1⟩ := h1.tup_inv
    obtain ⟨a', ys, z, t2, r2⟩ := h2.tup_inv
    cases z
    cases I.tuple_inj t1 t2
    rw [IsAll.inj I c r1 r2]
theorem IsAll.inj (I : L2.Inv X pins σ H s) : ∀ {n : Nat} {ds es : List D} {vs : List V}, Cms n ds es → IsAll X.K H vs ds → IsAll X.K H vs es → ds = es
  | _, _, _, _, .nil, _, _ => rfl
  | _, _, _, _, .short _ _, h1, h2 => by have a := h1.length; have b := h2.length; rw [a] at b; simp at b
  | _, _, _, _, .long _ _, h1, h2 => by have a := h1.length; have b := h2.length; rw [a] at b; simp at b
  | _, _, _, _, .cons c r, .cons h1 r1, .cons h2 r2 => by rw [Is.inj I c h1 h2, IsAll.inj I r r1 r2]
end
theorem tup_eq_iff {ds es : List D} : D.tup ds = D.tup es ↔ ds.length = es.length ∧ ∀ (j : Nat) (d e : D), ds[j]? = some d → es[j]? = some e → d = e := by
  constructor
  · intro h
    cases h
    exact ⟨rfl, fun j d e h1 h2 => by rw [h1] at h2; exact Option.some.inj h2⟩
  · rintro ⟨h1, h2⟩
    congr 1
    refine List.ext_getElem? fun j => ?_
    by_cases hj : j < ds.length
    · have hj' : j < es.length := by omega
      rw [List.getElem?_eq_getElem hj, List.getElem?_eq_getElem hj', h2 j _ _ (List.getElem?_eq_getElem hj) (List.getElem?_eq_getElem hj')]
    · rw [List.getElem?_eq_none (by omega), List.getElem?_eq_none (by omega)]
/-- item by item -/
noncomputable def fEq (ds es : List D) (j : Nat) : Bool := match ds[j]?, es[j]? with
  | some d, some e => eqb d e
  | _, _ => true
theorem fEq_at {ds es : List D} {j : Nat} {d e : D} (h1 : ds[j]? = some d) (h2 : es[j]? = some e) : fEq ds es j = eqb d e := by
  unfold fEq
  rw [h1, h2]
theorem fEq_all {ds es : List D} {n m : Nat} (l1 : n = ds.length) (l2 : m = es.length) : eqb (.tup ds) (.tup es) = ((List.range (min n m)).all (fEq ds es) && n == m) := by
  subst l1 l2
  refine eqb_of ?_
  rw [tup_eq_iff, Bool.and_eq_true, List.all_eq_true, beq_iff_eq]
  simp only [List.mem_range]
  constructor
  · rintro ⟨g1, g2⟩
    refine ⟨g2, fun j d e hd he => ?_⟩
    have hj : j < ds.length := (List.getElem?_eq_some_iff.mp hd).1
    have := g1 j (by omega)
    rw [fEq_at hd he] at this
    exact eqb_iff.mp this
  · rintro ⟨g2, g1⟩
    refine ⟨fun j hj => ?_, g2⟩
    have d1 : ds[j]? = some ds[j] := List.getElem?_eq_getElem (by omega)
    have d2 : es[j]? = some es[j] := List.getElem?_eq_getElem (by omega)
    rw [fEq_at d1 d2]
    exact eqb_iff.mpr (g1 j _ _ d1 d2)
theorem fEq_items {A : Around} {xs ys : List V} {us ws : List Value} {ds es : List D} (q1 : IsAll X.K H xs ds) (q2 : IsAll X.K H ys es) (w1 : Vals xs us) (w2 : Vals ys ws)
    (hit : ∀ (j : Nat) (d e : D) (v1 v2 : V) (u1 u2 : Value), ds[j]? = some d → es[j]? = some e → Is X.K H v1 d → Is X.K H v2 e → RelV v1 u1 → RelV v2 u2 → SeqAt.EqAt A s u1 u2 (eqb d e)) :
    ∀ (j : Nat) (h1 : j < us.toArray.size) (h2 : j < ws.toArray.size), SeqAt.EqAt A s us.toArray[j] ws.toArray[j] (fEq ds es j) := by
  intro j h1 h2
  have l1 : us.length = ds.length := by rw [← w1.length, q1.length]
  have l2 : ws.length = es.length := by rw [← w2.length, q2.length]
  have j1 : j < us.length := by simpa using h1
  have j2 : j < ws.length := by simpa using h2
  have d1 : ds[j]? = some ds[j] := List.getElem?_eq_getElem (by omega)
  have d2 : es[j]? = some es[j] := List.getElem?_eq_getElem (by omega)
  obtain ⟨v1, g1, i1⟩ := q1.get d1
  obtain ⟨v2, g2, i2⟩ := q2.get d2
  obtain ⟨u1, g3, k1⟩ := w1.get g1
  obtain ⟨u2, g4, k2⟩ := w2.get g2
  have e1 : us.toArray[j] = u1 := by
    have : us[j]? = some us[j] := List.getElem?_eq_getElem j1
    rw [g3] at this
    simpa using (Option.some.inj this).symm
  have e2 : ws.toArray[j] = u2 := by
    have : ws[j]? = some ws[j] := List.getElem?_eq_getElem j2
    rw [g4] at this
    simpa using (Option.some.inj this).symm
  rw [e1, e2, fEq_at d1 d2]
  exact hit j _ _ v1 v2 u1 u2 d1 d2 i1 i2 k1 k2
theorem eqAt_D (I : L2.Inv X pins σ H s) : ∀ {n : Nat} {d e : D} {v u : V} {v' u' : Value} (A : Around), Cm n d e → A.units + n < cLine → Is X.K H v d → Is X.K H u e → RelV v v' → RelV u u' → SeqAt.EqAt A s v' u' (eqb d e)
  | n, _, _, v, u, v', u', A, .non, _, h1, h2, r1, r2 => by
    cases h1.non_inv; cases h2.non_inv; cases r1; cases r2
    rw [eqb_of (k := true) (by simp)]
    exact SeqAt.EqAt.same _
  | n, _, _, v, u, v', u', A, .bl a b, _, h1, h2, r1, r2 => by
    cases h1.bl_inv; cases h2.bl_inv
    rw [eqb_of (k := eqV (.bl a) (.bl b)) (by show (a == b) = true ↔ _; simp)]
    exact eqAt_V r1 r2 rfl rfl
  | n, _, _, v, u, v', u', A, .int a b, _, h1, h2, r1, r2 => by
    cases h1.int_inv; cases h2.int_inv
    rw [eqb_of (k := eqV (.int a) (.int b)) (by show (a == b) = true ↔ _; simp)]
    exact eqAt_V r1 r2 rfl rfl
  | n, _, _, v, u, v', u', A, .str a b, _, h1, h2, r1, r2 => by
    cases h1.str_inv; cases h2.str_inv
    rw [eqb_of (k := eqV (.str a) (.str b)) (by show (a == b) = true ↔ _; simp)]
    exact eqAt_V r1 r2 rfl rfl
  | n + 1, .tup ds, .tup es, v, u, v', u', A, .tup c, hu, h1, h2, r1, r2 => by
    obtain ⟨a, xs, rfl, t1, q1⟩ := h1.tup_inv
    obtain ⟨b, ys, rfl, t2, q2⟩ := h2.tup_inv
    cases r1
    cases r2
    by_cases hab : a = b
    · subst hab
      cases I.tuple_inj t1 t2
      rw [IsAll.inj I c q1 q2, eqb_of (k := true) (by simp)]
      exact SeqAt.EqAt.same _
    · obtain ⟨us, w1, p1, _⟩ := I.tuple t1
      obtain ⟨ws, w2, p2, _⟩ := I.tuple t2
      rw [fEq_all (n := us.toArray.size) (m := ws.toArray.size) (by rw [List.size_toArray, ← w1.length, q1.length]) (by rw [List.size_toArray, ← w2.length, q2.length])]
      exact SeqAt.EqAt.of_refs hab (SeqAt.RcAt.tuples p1 p2 (by omega) (fEq_items q1 q2 w1 w2 fun j d e v1 v2 u1 u2 d1 d2 i1 i2 k1 k2 => eqAt_D I A.in1 (c.get j _ _ d1 d2) (by show A.units + 1 + n < cLine; omega) i1 i2 k1 k2))
end
section
variable {X : Cx}
variable {e a b c : Expr} {es : List Expr} {ρ : Ro} {d : D} {ds fs : List D} {pos : Pos} {i j : Int} {k k' : Bool}
/-! ### slices of lists, lists written out -/
def cutD (ds : List D) (lo hi : Option Int) : List D := (ds.drop (HT.sIx ds.length 0 lo)).take (HT.sIx ds.length ds.length hi - HT.sIx ds.length 0 lo)
theorem IsAll.drop {K : PySem.W.Frag} {H : Hp} : ∀ {vs : List V} {ds : List D} (n : Nat), IsAll K H vs ds → IsAll K H (vs.drop n) (ds.drop n)
  | _, _, 0, h => h
  | _, _, _ + 1, .nil => .nil
  | _, _, n + 1, .cons _ r => IsAll.drop n r
theorem IsAll.take {K : PySem.W.Frag} {H : Hp} : ∀ {vs : List V} {ds : List D} (n : Nat), IsAll K H vs ds → IsAll K H (vs.take n) (ds.take n)
  | _, _, 0, _ => .nil
  | _, _, _ + 1, .nil => .nil
  | _, _, n + 1, .cons h r => .cons h (IsAll.take n r)
theorem IsAll.cut {K : PySem.W.Frag} {H : Hp} {vs : List V} {ds : List D} (h : IsAll K H vs ds) (lo hi : Option Int) : IsAll K H (cutV vs lo hi) (cutD ds lo hi) := by
  unfold cutV cutD
  rw [h.length]
  exact (h.drop _).take _
/-- a part of a slice -/
def EvO (X : Cx) (e : Option Expr) (ρ : Ro) (o : Option Int) : Prop := PO X e (fun σ H Q => RelE X H σ ρ ∧ ∀ H', Same H H' → Q o H')
theorem PO.imp {o : Option Expr} {t t' : TO} (h : PO X o t) (f : ∀ σ H Q, t' σ H Q → t σ H Q) : PO X o t' := fun pins s σ H Q I q => h pins s σ H Q I (f σ H Q q)
theorem eo_none : EvO X none ρ none := PO.imp po_none fun _ H _ ⟨_, q⟩ => q H (Same.refl H)
theorem eo_some (h : Ev X e ρ (.int i)) : EvO X (some e) ρ (some i) := PO.imp (po_some h) fun σ H Q ⟨r, q⟩ => ⟨r, fun v H' s' h' => ⟨i, h'.int_inv, q H' s'⟩⟩
theorem evn_slice {lo hi : Option Expr} {l u : Option Int} {p2 : Pos} {d' : D} (he : Ev X e ρ d') (hd : lsD d' = some ds) (hl : EvO X lo ρ l) (hu : EvO X hi ρ u) (hz : ∀ d ∈ ds, Fz d) :
    EvN X (.Subscript e (.Slice lo hi none p2) pos) ρ (cutD ds l u) := by
  refine PE.imp (pe_slice sl_list he hl hu) ?_
  rintro σ H Q ⟨r, q⟩
  refine ⟨r, fun v H1 s1 h1 => ⟨r.mono s1, fun H2 s2 => ⟨r.mono (s1.trans s2), fun H3 s3 => ?_⟩⟩⟩
  obtain ⟨a, xs, rfl, hT, hA⟩ := (h1.mono (s2.trans s3)).lsD_inv hd
  refine ⟨a, xs, rfl, hT, fun p hp => ?_⟩
  have sm := s1.trans (s2.trans s3)
  exact q p (cutV xs l u) _ (sm.free hp) (sm.trans (same_new hp)) upd_same ((hA.mono (same_new hp)).cut l u)
theorem evn_list (h : EvA X es ρ ds) (hl : ds.length ≤ 1000 := by exact Nat.le_of_ble_eq_true rfl) : EvN X (.List es pos) ρ ds := by
  refine PE.imp (pe_lst h) ?_
  rintro σ H Q ⟨r, q⟩
  exact ⟨r, fun vs H1 s1 h1 => ⟨by rw [h1.length]; exact Nat.le_of_lt (small1000 hl), fun p hp => q p vs _ (s1.free hp) (s1.trans (same_new hp)) upd_same (h1.mono (same_new hp))⟩⟩
end
/-! ### defs that hand back a new list -/
def SpL (K : PySem.W.Frag) (Pf : List D → List D → Prop) : Sp := fun vs H Q _ => ∃ ds es, IsAll K H vs ds ∧ Pf ds es ∧ ∀ a us H', H a = none → Same H H' → H' a = some (.lst us) → IsAll K H' us es → Q (.ref a) H'
def FnL (P : Program) (w : World) (K : PySem.W.Frag) (mg : Str → Option Value) (base : Heap) (k : Nat) (x : Str) (Pf : List D → List D → Prop) : Prop :=
  ∃ f fd ps, FnOk P w K mg base CX0 k f fd ps (SpL K Pf) ∧ mg x = some (.ref f) ∧ PySem.W.keepIn K (.ref f) = true ∧ Binds K fd ps []
section
variable {X : Cx} {e a b c : Expr} {es : List Expr} {ρ : Ro} {d : D} {ds : List D} {pos : Pos} {rest : List Stmt} {Q : Po}
theorem evn_call {k : Nat} {x : Str} {Pf : List D → List D → Prop} {fs : List D} {p : Pos} (C : FnL X.prog X.w X.K X.mg X.base k x Pf) (hr : Room k X.A) (ha : EvA X (e :: es) ρ ds) (hp : Pf ds fs) (hg : Gl X x := by rfl) (hdb : (x == ("__debug__" : Str)) = false := by decide)
    (he : starEach (e :: es) X.env = (false, eval e X.env) :: starEach es X.env := by rfl) (hpl : (backTo pos (starEach es X.env)).any (·.1) = false := by rfl) : EvN X (.Call (.Name x p) (e :: es) [] pos) ρ fs := by
  obtain ⟨f, fd, ps, F, hm, hk, hb⟩ := C
  refine PE.imp (pe_call F hr hg hm hk hb .nil pass0 ha hdb he hpl) ?_
  rintro σ H Q ⟨r, q⟩
  refine ⟨r, fun vs H1 s1 h1 => ⟨ds, fs, ?_, hp, fun v us H' hv s' e' h' => q v us H' (s1.free hv) (s1.trans s') e' h'⟩⟩
  rw [List.append_nil]
  exact h1
/-- return of a new list -/
theorem do_retL (he : EvN X e ρ ds) (h : ∀ l, Q.rt (.lst l ds)) : Do X (.Return (some e) pos :: rest) ρ Q := by
  refine PSs.imp (pss_cons (u := tNever) (ps_ret he) pss_never) ?_
  rintro D σ H ⟨r, q1, q2, q3, q4⟩
  exact ⟨r.e, fun l vs H' hl s e' h' => q2 _ H' _ (r.same.trans s) (.lst e' h') (fun a es z => by cases z; exact r.same.free hl) (h l)⟩
end
section
variable {P : Program} {w : World} {K : PySem.W.Frag} {mg : Str → Option Value} {base : Heap}
theorem fnl_mk {x qual : Str} {st : Stmt} {f : Addr} {fd : FuncData} {N ps : List Str} {k : Nat} {Pf : List D → List D → Prop} (F : Fun K x qual st f fd) (S : FnScope N ps (defScope st)) (hm : mg x = some (.ref f)) (hb : Binds K fd ps [])
    (hl : ∀ ds es, Pf ds es → ds.length = ps.length ∧ ∀ a fs, D.lst a fs ∉ ds)
    (hbody : ∀ (cdv : Value) (A : Around) (outer : List Env) (s : Shared) (H : Hp) (E : XK), Room k (A.deeper (envOfC qual (defScope st) s.heap.objs.size f cdv)) → ∀ ds es, Pf ds es →
      Do (cxD P w K mg base N qual st f cdv A outer s H E) (defBody st) (ini N ds) { nx := fun _ => False, rt := fun d' => ∃ l, d' = .lst l es }) : FnL P w K mg base (k + 1) x Pf := by
  refine ⟨f, fd, ps, F.ok S (fun vs H Q E h => ?_) (fun cdv A outer s H vs Q E hr h => ?_), hm, F.kp, hb⟩
  · obtain ⟨ds, es, h1, h2, _⟩ := h
    rw [h1.length]
    exact (hl ds es h2).1
  · obtain ⟨ds, es, h1, h2, q⟩ := h
    refine ⟨_, hbody cdv A outer s H E hr ds es h2, ?_⟩
    refine ⟨relS_start (X := cxD P w K mg base N qual st f cdv A outer s H E) h1 (hl ds es h2).2, fun _ _ _ _ _ z => z.elim, fun v H' d' sm hv fr z => ?_, fun _ _ _ _ _ z => z.elim, fun _ _ _ _ _ z => z.elim⟩
    obtain ⟨l, z⟩ : ∃ l, d' = .lst l es := z
    subst z
    obtain ⟨rfl, us, e1, e2⟩ := hv.lst_inv
    exact q l us H' (fr l es rfl) sm e1 e2
end
end FL

/-! FR: promises that tell what is true of the answer -/
namespace FL
open PySem PySem.Spec PyProof.Rows L2
def tR (X : Cx) (ρ : Ro) (R : D → Prop) : TE := fun σ H Q => RelE X H σ ρ ∧ ∀ d v H', R d → Same H H' → Is X.K H' v d → Q v H'
def tRs (X : Cx) (ρ : Ro) (R : List D → Prop) : TA := fun σ H Q => RelE X H σ ρ ∧ ∀ ds vs H', R ds → Same H H' → IsAll X.K H' vs ds → Q vs H'
/-- e's answer is plain data with R -/
def EvR (X : Cx) (e : Expr) (ρ : Ro) (R : D → Prop) : Prop := PE X e (tR X ρ R)
def EvAR (X : Cx) (es : List Expr) (ρ : Ro) (R : List D → Prop) : Prop := PA X es (tRs X ρ R)
section
variable {X : Cx} {e a b c : Expr} {es : List Expr} {ρ : Ro} {d : D} {ds : List D} {pos : Pos} {i j : Int} {rest : List Stmt} {P : Po} {R S : D → Prop} {Rs : List D → Prop}
theorem EvR.imp (h : EvR X e ρ R) (f : ∀ d, R d → S d) : EvR X e ρ S := PE.imp h fun _ _ _ ⟨r, q⟩ => ⟨r, fun d v H' x s h => q d v H' (f d x) s h⟩
theorem EvA.r (h : EvA X es ρ ds) : EvAR X es ρ (fun x => x = ds) := PA.imp h fun _ _ _ ⟨r, q⟩ => ⟨r, fun v H' s h => q ds v H' rfl s h⟩
theorem do_setR (n : Nat) {x : Str} {pos' : Pos} (he : EvR X e ρ R) (hz : ∀ d, R d → Fz d) (h : ∀ d, R d → Do X rest (ρ.set n (some d)) P) (hN : X.N.Nodup) (hi : X.N[n]? = some x := by rfl) (hx : Loc X.env.scope x := by first | exact Or.inl rfl | exact Or.inr rfl)
    (hs : swapsWith e (some (.Name x pos')) pos.line X.env = pure false := by rfl) (hf : X.fn x = true ∨ X.env.scope.names.lookup x = some .local := by first | exact .inl rfl | exact .inr rfl) : Do X (.Assign [.Name x pos'] e pos :: rest) ρ P := by
  refine do_seq (M := fun ρ' => ∃ d, R d ∧ ρ' = ρ.set n (some d)) (PS.imp (ps_set hN hi hx he hs hf) ?_) (fun _ ⟨d, x, z⟩ => z ▸ h d x)
  rintro D σ H ⟨r, q1, q2, q3, q4⟩
  refine ⟨r.e, fun d v H' x s h' => ?_⟩
  have no : ∀ a ds, d = .lst a ds → False := fun a ds z => by have := hz d x; subst z; cases this
  exact q1 _ H' _ (Go.set s fun a ds z => (no a ds z).elim) ((r.mono s).set h' n (.inl (hz d x)) fun a ds z => (no a ds z).elim) ⟨d, x, rfl⟩
end
/-- a def's promise: where Pre holds of the arguments, Post of the answer -/
def SpR (K : PySem.W.Frag) (Pre : List D → Prop) (Post : List D → D → Prop) : Sp := fun vs H Q _ => ∃ ds, IsAll K H vs ds ∧ Pre ds ∧ ∀ d v H', Post ds d → Same H H' → Is K H' v d → Q v H'
def FnR (P : Program) (w : World) (K : PySem.W.Frag) (mg : Str → Option Value) (base : Heap) (k : Nat) (x : Str) (Pre : List D → Prop) (Post : List D → D → Prop) : Prop :=
  ∃ f fd ps, FnOk P w K mg base CX0 k f fd ps (SpR K Pre Post) ∧ mg x = some (.ref f) ∧ PySem.W.keepIn K (.ref f) = true ∧ Binds K fd ps []
section
variable {X : Cx} {e : Expr} {es : List Expr} {ρ : Ro} {ds : List D} {pos : Pos} {Rs : List D → Prop}
theorem evr_callR {k : Nat} {x : Str} {Pre : List D → Prop} {Post : List D → D → Prop} {p : Pos} (C : FnR X.prog X.w X.K X.mg X.base k x Pre Post) (hr : Room k X.A) (ha : EvAR X (e :: es) ρ Rs) (hp : ∀ ds, Rs ds → Pre ds) (hg : Gl X x := by rfl) (hdb : (x == ("__debug__" : Str)) = false := by decide)
    (he : starEach (e :: es) X.env = (false, eval e X.env) :: starEach es X.env := by rfl) (hpl : (backTo pos (starEach es X.env)).any (·.1) = false := by rfl) : EvR X (.Call (.Name x p) (e :: es) [] pos) ρ (fun d => ∃ ds, Rs ds ∧ Post ds d) := by
  obtain ⟨f, fd, ps, F, hm, hk, hb⟩ := C
  refine PE.imp (pe_call F hr hg hm hk hb .nil pass0 ha hdb he hpl) ?_
  rintro σ H Q ⟨r, q⟩
  refine ⟨r, fun ds vs H1 x1 s1 h1 => ⟨ds, ?_, hp ds x1, fun d v H' x2 s' h' => q d v H' ⟨ds, x1, x2⟩ (s1.trans s') h'⟩⟩
  rw [List.append_nil]
  exact h1
theorem evr_call {k : Nat} {x : Str} {Pre : List D → Prop} {Post : List D → D → Prop} {p : Pos} (C : FnR X.prog X.w X.K X.mg X.base k x Pre Post) (hr : Room k X.A) (ha : EvA X (e :: es) ρ ds) (hp : Pre ds) (hg : Gl X x := by rfl) (hdb : (x == ("__debug__" : Str)) = false := by decide)
    (he : starEach (e :: es) X.env = (false, eval e X.env) :: starEach es X.env := by rfl) (hpl : (backTo pos (starEach es X.env)).any (·.1) = false := by rfl) : EvR X (.Call (.Name x p) (e :: es) [] pos) ρ (Post ds) :=
  (evr_callR C hr ha.r (fun _ z => z ▸ hp) hg hdb he hpl).imp fun d ⟨_, z, h⟩ => z ▸ h
end
section
variable {P : Program} {w : World} {K : PySem.W.Frag} {mg : Str → Option Value} {base : Heap}
theorem fnr_mk {x qual : Str} {st : Stmt} {f : Addr} {fd : FuncData} {N ps : List Str} {k : Nat} {Pre : List D → Prop} {Post : List D → D → Prop} (F : Fun K x qual st f fd) (S : FnScope N ps (defScope st)) (hm : mg x = some (.ref f)) (hb : Binds K fd ps [])
    (hl : ∀ ds, Pre ds → ds.length = ps.length ∧ ∀ a es, D.lst a es ∉ ds)
    (hbody : ∀ (cdv : Value) (A : Around) (outer : List Env) (s : Shared) (H : Hp) (E : XK), Room k (A.deeper (envOfC qual (defScope st) s.heap.objs.size f cdv)) → ∀ ds, Pre ds →
      Do (cxD P w K mg base N qual st f cdv A outer s H E) (defBody st) (ini N ds) { nx := fun _ => Post ds .non, rt := Post ds }) : FnR P w K mg base (k + 1) x Pre Post := by
  refine ⟨f, fd, ps, F.ok S (fun vs H Q E h => ?_) (fun cdv A outer s H vs Q E hr h => ?_), hm, F.kp, hb⟩
  · obtain ⟨ds, h1, h2, _⟩ := h
    rw [h1.length]
    exact (hl ds h2).1
  · obtain ⟨ds, h1, h2, q⟩ := h
    refine ⟨_, hbody cdv A outer s H E hr ds h2, ?_⟩
    exact ⟨relS_start (X := cxD P w K mg base N qual st f cdv A outer s H E) h1 (hl ds h2).2, fun σ' H' ρ' _ r' z => q _ _ H' z r'.same .non, fun v H' d' sm hv _ z => q d' v H' z sm hv, fun _ _ _ _ _ z => z.elim, fun _ _ _ _ _ z => z.elim⟩
end
end FL

/-! FI: in, not in; == of lists; items by an open place -/
namespace FL
open PySem PySem.Spec PyProof.Rows L2
section
variable {X : Cx} {pins : List (Addr × Obj)} {σ : L2.St} {H : Hp} {s : Shared}
theorem Cm.cast {n : Nat} {d e f : D} (h : Cm n d f) (z : e = f) : Cm n d e := z ▸ h
open Classical in
/-- the answers of the items of a list, by their values -/
noncomputable def ansU (K : PySem.W.Frag) (H : Hp) (ds : List D) (x : D) (u : Value) : Bool := decide (∃ v d, RelV v u ∧ Is K H v d ∧ d ∈ ds ∧ d = x)
open Classical in
theorem ansU_at (I : L2.Inv X pins σ H s) {n : Nat} {ds : List D} {x d : D} {v : V} {u : Value} (hc : ∀ d ∈ ds, Cm n d x) (hd : d ∈ ds) (h : Is X.K H v d) (r : RelV v u) : ansU X.K H ds x u = eqb d x := by
  rw [Bool.eq_iff_iff, eqb_iff]
  unfold ansU
  rw [decide_eq_true_iff]
  constructor
  · rintro ⟨v', d', r', h', hd', e⟩
    cases r.inj r'
    have c : Cm n d d' := (hc d hd).cast e
    rw [Is.inj I c h h', e]
  · intro e
    exact ⟨v, d, r, h, hd, e⟩
theorem ansU_any (I : L2.Inv X pins σ H s) {n : Nat} {x : D} {ds0 : List D} (hc : ∀ d ∈ ds0, Cm n d x) : ∀ {vs : List V} {us : List Value} {ds : List D}, (∀ d ∈ ds, d ∈ ds0) → IsAll X.K H vs ds → Vals vs us → us.any (ansU X.K H ds0 x) = ds.any (fun d => eqb d x)
  | _, _, _, _, .nil, .nil => rfl
  | _, _, _, hs, .cons h q, .cons r t => by
    rw [List.any_cons, List.any_cons, ansU_at I hc (hs _ List.mem_cons_self) h r, ansU_any I hc (fun d hd => hs d (List.mem_cons_of_mem _ hd)) q t]
theorem ansU_items (I : L2.Inv X pins σ H s) {A : Around} {n : Nat} {x : D} {vx : V} {ux : Value} {ds0 : List D} (hc : ∀ d ∈ ds0, Cm n d x) (hu : A.units + n < cLine) (hx : Is X.K H vx x) (rx : RelV vx ux) :
    ∀ {vs : List V} {us : List Value} {ds : List D}, (∀ d ∈ ds, d ∈ ds0) → IsAll X.K H vs ds → Vals vs us → ∀ y ∈ us, SeqAt.EqAt A s y ux (ansU X.K H ds0 x y)
  | _, _, _, _, .nil, .nil => fun y hy => by cases hy
  | _, _, _, hs, .cons h q, .cons r t => fun y hy => by
    rcases List.mem_cons.mp hy with rfl | hy
    · rw [ansU_at I hc (hs _ List.mem_cons_self) h r]
      exact eqAt_D I A (hc _ (hs _ List.mem_cons_self)) hu h hx r rx
    · exact ansU_items I hc hu hx rx (fun d hd => hs d (List.mem_cons_of_mem _ hd)) q t y hy
end
section
variable {X : Cx}
noncomputable def inD (x : D) (ds : List D) : Bool := ds.any fun d => eqb d x
theorem inD_iff {x : D} {ds : List D} : inD x ds = true ↔ x ∈ ds := by
  unfold inD
  rw [List.any_eq_true]
  constructor
  · rintro ⟨d, h1, h2⟩
    rw [eqb_iff] at h2
    exact h2 ▸ h1
  · intro h
    exact ⟨x, h, eqb_iff.mpr rfl⟩
def rInD (X : Cx) (neg : Bool) : R2 := fun x y H Q => ∃ n d e ds, Is X.K H x d ∧ Is X.K H y e ∧ (lsD e = some ds ∨ e = .tup ds) ∧ (∀ z ∈ ds, Cm n z d) ∧ X.A.units + n + 1 < cLine ∧ Q (.bl (if neg then !inD d ds else inD d ds)) H
theorem op_inD : OpR X (compareOp .In) (rInD X false) := by
  intro pins s σ H x y v u Q I rx ry h
  obtain ⟨n, d, e, ds, h1, h2, h3, hc, hu, q⟩ := h
  rcases h3 with h3 | rfl
  · obtain ⟨a, xs, rfl, t, r⟩ := h2.lsD_inv h3
    cases ry
    obtain ⟨us, w1, p1, _⟩ := I.list t
    refine SeqAt.in_listAt (ansU X.K H ds d) p1.isList (fun z hz => ansU_items I hc (by show X.A.units + 1 + n < cLine; omega) h1 rx (fun _ h => h) r w1 z (by simpa using hz)) ?_
    have e' : us.toArray.any (ansU X.K H ds d) = inD d ds := by rw [List.any_toArray]; exact ansU_any I hc (fun _ h => h) r w1
    rw [e']
    exact ⟨.bl _, H, I, rfl, q⟩
  · obtain ⟨a, xs, rfl, t, r⟩ := h2.tup_inv
    cases ry
    obtain ⟨us, w1, p1, _⟩ := I.tuple t
    refine SeqAt.in_tupleAt (ansU X.K H ds d) p1 (fun z hz => ansU_items I hc (by show X.A.units + 1 + n < cLine; omega) h1 rx (fun _ h => h) r w1 z (by simpa using hz)) ?_
    have e' : us.toArray.any (ansU X.K H ds d) = inD d ds := by rw [List.any_toArray]; exact ansU_any I hc (fun _ h => h) r w1
    rw [e']
    exact ⟨.bl _, H, I, rfl, q⟩
theorem op_notInD : OpR X (compareOp .NotIn) (rInD X true) := by
  intro pins s σ H x y v u Q I rx ry h
  obtain ⟨n, d, e, ds, h1, h2, h3, hc, hu, q⟩ := h
  rcases h3 with h3 | rfl
  · obtain ⟨a, xs, rfl, t, r⟩ := h2.lsD_inv h3
    cases ry
    obtain ⟨us, w1, p1, _⟩ := I.list t
    refine SeqAt.notIn_listAt (ansU X.K H ds d) p1.isList (fun z hz => ansU_items I hc (by show X.A.units + 1 + n < cLine; omega) h1 rx (fun _ h => h) r w1 z (by simpa using hz)) ?_
    have e' : us.toArray.any (ansU X.K H ds d) = inD d ds := by rw [List.any_toArray]; exact ansU_any I hc (fun _ h => h) r w1
    rw [e']
    exact ⟨.bl _, H, I, rfl, q⟩
  · obtain ⟨a, xs, rfl, t, r⟩ := h2.tup_inv
    cases ry
    obtain ⟨us, w1, p1, _⟩ := I.tuple t
    refine SeqAt.notIn_tupleAt (ansU X.K H ds d) p1 (fun z hz => ansU_items I hc (by show X.A.units + 1 + n < cLine; omega) h1 rx (fun _ h => h) r w1 z (by simpa using hz)) ?_
    have e' : us.toArray.any (ansU X.K H ds d) = inD d ds := by rw [List.any_toArray]; exact ansU_any I hc (fun _ h => h) r w1
    rw [e']
    exact ⟨.bl _, H, I, rfl, q⟩
variable {e a b c : Expr} {es : List Expr} {ρ : Ro} {d f : D} {ds fs : List D} {pos : Pos} {i j : Int} {k k' : Bool}
theorem rInD_of {n m : Nat} {neg : Bool} {x : D} (hr : Room m X.A) (hf : lsD f = some ds ∨ f = .tup ds) (hc : ∀ z ∈ ds, Cm n z x) (hn : n ≤ 60) (hk : d = .bl (if neg then !inD x ds else inD x ds)) :
    ∀ v1 v2 H Q, Is X.K H v1 x → Is X.K H v2 f → (∀ v H', Same H H' → Is X.K H' v d → Q v H') → rInD X neg v1 v2 H Q :=
  fun _ _ H _ h1 h2 q => ⟨n, x, f, ds, h1, h2, hf, hc, (by have := hr.units; omega), q _ H (Same.refl H) (hk ▸ .bl _)⟩
theorem ev_in {n m : Nat} (hr : Room m X.A) (ha : Ev X a ρ d) (hb : Ev X b ρ f) (hf : lsD f = some ds ∨ f = .tup ds) (hc : ∀ z ∈ ds, Cm n z d) (hn : n ≤ 60 := by decide) (hm : behindInMarks .In b = false := by rfl) : Ev X (.Compare a [.In] [b] pos) ρ (.bl (inD d ds)) :=
  ev_cmp op_inD ha hb hm (rInD_of hr hf hc hn rfl)
theorem et_in {n m : Nat} (hr : Room m X.A) (ha : Ev X a ρ d) (hb : Ev X b ρ f) (hf : lsD f = some ds ∨ f = .tup ds) (hc : ∀ z ∈ ds, Cm n z d) (hn : n ≤ 60 := by decide) (hm : behindInMarks .In b = false := by rfl) : Et X (.Compare a [.In] [b] pos) ρ (inD d ds) :=
  et_cmp op_inD ha hb hm (rInD_of hr hf hc hn rfl)
theorem et_notin {n m : Nat} (hr : Room m X.A) (ha : Ev X a ρ d) (hb : Ev X b ρ f) (hf : lsD f = some ds ∨ f = .tup ds) (hc : ∀ z ∈ ds, Cm n z d) (hn : n ≤ 60 := by decide) (hm : behindInMarks .NotIn b = false := by rfl) : Et X (.Compare a [.NotIn] [b] pos) ρ (!inD d ds) :=
  et_cmp op_notInD ha hb hm (rInD_of hr hf hc hn rfl)
/-! == of two lists of plain data -/
def rEqL (X : Cx) (neg : Bool) : R2 := fun x y H Q => ∃ n d e ds es, Is X.K H x d ∧ Is X.K H y e ∧ lsD d = some ds ∧ lsD e = some es ∧ Cms n ds es ∧ X.A.units + n + 1 < cLine ∧ Q (.bl (if neg then !eqb (.tup ds) (.tup es) else eqb (.tup ds) (.tup es))) H
theorem op_eqL : OpR X (compareOp .Eq) (rEqL X false) := by
  intro pins s σ H x y v u Q I rx ry h
  obtain ⟨n, d, e, ds, es, h1, h2, l1, l2, c, hu, q⟩ := h
  obtain ⟨a, xs, rfl, t1, q1⟩ := h1.lsD_inv l1
  obtain ⟨b, ys, rfl, t2, q2⟩ := h2.lsD_inv l2
  cases rx
  cases ry
  obtain ⟨us, w1, p1, _⟩ := I.list t1
  obtain ⟨ws, w2, p2, _⟩ := I.list t2
  have e1 : us.length = ds.length := by rw [← w1.length, q1.length]
  have e2 : ws.length = es.length := by rw [← w2.length, q2.length]
  by_cases hz : ds.length = es.length
  · refine SeqAt.eq_listAt p1.isList p2.isList (by simp; omega) (by omega) (fEq_items q1 q2 w1 w2 fun j d e v1 v2 u1 u2 d1 d2 i1 i2 k1 k2 => eqAt_D I X.A.in1 (c.get j _ _ d1 d2) (by show X.A.units + 1 + n < cLine; omega) i1 i2 k1 k2) ?_
    have ek : (List.range us.toArray.size).all (fEq ds es) = eqb (.tup ds) (.tup es) := by
      rw [fEq_all (n := us.length) (m := ws.length) e1 e2, List.size_toArray, show min us.length ws.length = us.length by omega, show (us.length == ws.length) = true by simp; omega, Bool.and_true]
    rw [ek]
    exact ⟨.bl _, H, I, rfl, q⟩
  · refine SeqAt.eq_list_lengthsAt p1.isList p2.isList (by simp; omega) (by omega) ?_
    have ek : eqb (.tup ds) (.tup es) = false := eqb_of (by
      constructor
      · intro z; cases z
      · intro z; cases z; exact absurd rfl hz)
    rw [ek] at q
    exact ⟨.bl _, H, I, rfl, q⟩
theorem rEqL_of {n m : Nat} {neg : Bool} {g : D} (hr : Room m X.A) (l1 : lsD f = some ds) (l2 : lsD g = some fs) (c : Cms n ds fs) (hn : n ≤ 60) (hk : d = .bl (if neg then !eqb (.tup ds) (.tup fs) else eqb (.tup ds) (.tup fs))) :
    ∀ v1 v2 H Q, Is X.K H v1 f → Is X.K H v2 g → (∀ v H', Same H H' → Is X.K H' v d → Q v H') → rEqL X neg v1 v2 H Q :=
  fun _ _ H _ h1 h2 q => ⟨n, f, g, ds, fs, h1, h2, l1, l2, c, (by have := hr.units; omega), q _ H (Same.refl H) (hk ▸ .bl _)⟩
theorem ev_eqL {n m : Nat} {g : D} (hr : Room m X.A) (ha : Ev X a ρ f) (hb : Ev X b ρ g) (l1 : lsD f = some ds) (l2 : lsD g = some fs) (c : Cms n ds fs) (hn : n ≤ 60 := by decide) : Ev X (.Compare a [.Eq] [b] pos) ρ (.bl (eqb (.tup ds) (.tup fs))) :=
  ev_cmp op_eqL ha hb (nomark _) (rEqL_of hr l1 l2 c hn rfl)
end
end FL

/-! FT: what sorted() gives for fewer than 64 items, for any order that whole numbers tell -/
namespace FT
open PySem PySem.W PyProof.Rows
section
variable {r : Nat → Int} {n : Nat} {p p' : Array Nat}
def kv (r : Nat → Int) (p : Array Nat) (i : Nat) : Int := r (p.getD i 0)
def Up (r : Nat → Int) (p : Array Nat) (k : Nat) : Prop := ∀ i j, i ≤ j → j < k → kv r p i ≤ kv r p j
def Pm (n : Nat) (p : Array Nat) : Prop := p.Perm (List.range n).toArray
theorem Pm.size (h : Pm n p) : p.size = n := by have := Array.Perm.size_eq h; simpa using this
theorem Pm.lt (h : Pm n p) (hn : 0 < n) (i : Nat) : p.getD i 0 < n := by
  by_cases hi : i < p.size
  · have : p.getD i 0 = p[i] := by simp [Array.getD, hi]
    rw [this]
    have m : p[i] ∈ (List.range n) := by
      have := (Array.perm_iff_toList_perm.mp h).mem_iff (a := p[i])
      simp only [Array.mem_toList_iff, List.toList_toArray] at this
      exact this.mp (by simp)
    exact List.mem_range.mp m
  · have : p.getD i 0 = 0 := by simp [Array.getD, hi]
    omega
end
end FT
/-! FT, further: the call of sorted() over a heap -/
namespace FT
open PySem PySem.W PySem.Calls PyProof.Rows
/-- nothing that was there is touched -/
def Kp (h h' : Heap) : Prop := ∀ b o, h.get? b = some o → h'.get? b = some o
theorem Kp.trans {h h1 h2 : Heap} (a : Kp h h1) (b : Kp h1 h2) : Kp h h2 := fun c o e => b c o (a c o e)
theorem Kp.push (h : Heap) (o : Obj) : Kp h (h.push o) := fun _ _ e => Heap.get?_push_of_some o e
/-- of what lies below d -/
theorem Kp.but {h h1 h2 : Heap} {d : Addr} (a : Kp h h1) (hd : h.objs.size ≤ d) (b : Heap.SameBut d h1 h2) : Kp h h2 := fun c o e =>
  (b.2 c (Nat.ne_of_lt (Nat.lt_of_lt_of_le (Heap.lt_size e) hd))).trans (a c o e)
section
variable {prog : Program} {w : World} {A : Around} {E : Value → Shared → Prop} {s : Shared} {vs : List Value} {r : Nat → Int} {κ : SortKind}
abbrev outs (vs : List Value) (p : Array Nat) : List Value := p.toList.map fun i => vs.getD i Value.none
theorem outs_all (vs : List Value) : outs vs (List.range vs.length).toArray = vs := by
  refine List.ext_getElem (by simp) fun i a b => ?_
  simp [b]
theorem snd_zip (vs : List Value) : (vs.toArray.zip vs.toArray).map (·.2) = vs.toArray := by
  refine Array.ext (by simp) fun i a b => ?_
  simp
/-- none or one -/
theorem lsort_few {a n : Nat} {P : PySem.Fin → Shared → Prop} {h0 : Heap} (K0 : Kp h0 s.heap) (ha : h0.objs.size ≤ a) (ho : s.heap.get? a = some (seqObj "list" vs.toArray n)) (h2 : vs.length < 2)
    (h : ∀ p h' c, Pm vs.length p → Up r p vs.length → Kp h0 h' → h'.get? a = some (seqObj "list" (outs vs p).toArray c) → P (.done (.ret .none)) { s with heap := h' }) :
    wpAny (model prog w) A (Builtin.«list.sort» ⟨[.ref a], []⟩) P E s := by
  have small : vs.length ≤ sizeLine := by rw [sizeLine_eq]; omega
  have sb1 := Heap.SameBut.update s.heap a (Obj.mapSeq fun _ => (#[] : Array Value))
  have g1 := get?_update_seq ho fun _ => (#[] : Array Value)
  generalize eh1 : s.heap.update a (Obj.mapSeq fun _ => (#[] : Array Value)) = h1 at sb1 g1
  have K1 : Kp h0 h1 := K0.but ha sb1
  rw [list_sort_plain]
  refine wpAny_bind (listItems_at ho rfl (wpAny_bind (listUpdate_at ho rfl ?_ (by rw [List.size_toArray]; exact small) (Nat.zero_le _))))
  rw [eh1]
  refine wpAny_bind (seqEpoch_at g1 rfl (wpAny_bind (wpAny_newTuple (wpAny_bind (wpAny_newList (wpAny_holding ?_) (Nat.zero_le _))) small)))
  show wpAny (model prog w) A _ P E { s with heap := (h1.push (seqObj "tuple" vs.toArray 0)).push (seqObj "list" #[] 0) }
  have g3 := Heap.get?_push_of_some (seqObj "list" #[] 0) (Heap.get?_push_of_some (seqObj "tuple" vs.toArray 0) g1)
  have K3 : Kp h0 ((h1.push (seqObj "tuple" vs.toArray 0)).push (seqObj "list" #[] 0)) := K1.trans ((Kp.push _ _).trans (Kp.push _ _))
  generalize (h1.push (seqObj "tuple" vs.toArray 0)).push (seqObj "list" #[] 0) = h3 at g3 K3 ⊢
  dsimp only
  have two : vs.toArray.size < 2 := by rw [List.size_toArray]; omega
  rw [if_pos two, if_pos two]
  refine wpAny_bind (wpAny_pure (wpAny_bind (show wpAny _ _ (pure _) _ _ _ from wpAny_pure ?_)))
  dsimp only
  have e0 : (arrOf (SortSt.mk' general' (vs.toArray.zip vs.toArray) #[] 7 none)).map (·.2) = (outs vs (List.range vs.length).toArray).toArray := by
    rw [outs_all]
    exact snd_zip vs
  have sb2 := Heap.SameBut.update h3 a (Obj.mapSeq fun _ => (outs vs (List.range vs.length).toArray).toArray)
  have g4 := get?_update_seq g3 fun _ => (outs vs (List.range vs.length).toArray).toArray
  rw [e0]
  refine wpAny_bind (seqEpoch_at g3 rfl (wpAny_bind (listUpdate_at g3 rfl ?_ (Nat.zero_le _) (by rw [outs_all, List.size_toArray]; first | exact small | exact Nat.le_succ_of_le small))))
  simp only [bne_self_eq_false, Bool.false_eq_true, if_false]
  refine wpAny_pure (h _ _ _ (Array.Perm.refl _) (fun i j x y => ?_) (K3.but ha sb2) g4)
  have : i = j := by omega
  rw [this]
  exact Int.le_refl _
end
end FT
/-! FT, the end: sorted() of tuples of whole numbers, fewer than 64 -/
namespace FT
open PySem PySem.W PySem.Spec PySem.Calls PyProof.Rows L2 FL
/-- rising, by the order of tuples -/
def srt (ts : List (List Int)) : List (List Int) := ts.mergeSort fun a b => decide (a ≤ b)
theorem srt_perm (ts : List (List Int)) : (srt ts).Perm ts := List.mergeSort_perm _ _
theorem srt_up (ts : List (List Int)) : (srt ts).Pairwise (· ≤ ·) := by
  have h := List.pairwise_mergeSort (le := fun a b : List Int => decide (a ≤ b)) (fun a b c x y => by
    simp only [decide_eq_true_eq] at x y ⊢
    exact List.le_trans x y) (fun a b => by
    simp only [Bool.or_eq_true, decide_eq_true_eq]
    exact List.le_total a b) ts
  exact h.imp fun x => by simpa using x
theorem srt_eq {l ts : List (List Int)} (hp : l.Perm ts) (hu : l.Pairwise (· ≤ ·)) : l = srt ts :=
  List.Perm.eq_of_pairwise (fun _ _ _ _ x y => List.le_antisymm x y) hu (srt_up ts) (hp.trans (srt_perm ts).symm)
theorem srt_same {l ts : List (List Int)} (hp : l.Perm ts) : srt l = srt ts := srt_eq ((srt_perm l).trans hp) (srt_up l)
theorem srt_len (ts : List (List Int)) : (srt ts).length = ts.length := (srt_perm ts).length_eq
theorem count_lt {α : Type} {p q : α → Bool} : ∀ {l : List α}, (∀ x ∈ l, p x = true → q x = true) → (∃ x ∈ l, q x = true ∧ p x = false) → l.countP p < l.countP q
  | [], _, ⟨x, hx, _⟩ => by cases hx
  | y :: l, h, ⟨x, hx, h1, h2⟩ => by
    have hm : l.countP p ≤ l.countP q := List.countP_mono_left fun z hz => h z (List.mem_cons_of_mem _ hz)
    rw [List.countP_cons, List.countP_cons]
    rcases List.mem_cons.mp hx with rfl | hx
    · rw [h1, h2]; simp; omega
    · have := count_lt (fun z hz => h z (List.mem_cons_of_mem _ hz)) ⟨x, hx, h1, h2⟩
      have hy := h y List.mem_cons_self
      by_cases z : p y = true
      · rw [z, hy z]; simp; omega
      · have : p y = false := by simpa using z
        rw [this]
        simp
        split <;> omega
def rank (ts : List (List Int)) (t : List Int) : Int := (ts.countP fun u => decide (u < t) : Nat)
theorem rank_lt {ts : List (List Int)} {t u : List Int} (h : t ∈ ts) : decide (rank ts t < rank ts u) = decide (t < u) := by
  by_cases c : t < u
  · rw [decide_eq_true c, decide_eq_true_eq]
    unfold rank
    have := count_lt (p := fun x => decide (x < t)) (q := fun x => decide (x < u)) (l := ts) (fun x _ z => by
      simp only [decide_eq_true_eq] at z ⊢
      exact List.lt_trans z c) ⟨t, h, by simpa using c, by simpa using List.lt_irrefl t⟩
    omega
  · rw [decide_eq_false c, decide_eq_false_iff_not]
    unfold rank
    have : ts.countP (fun x => decide (x < u)) ≤ ts.countP fun x => decide (x < t) := List.countP_mono_left fun x _ z => by
      simp only [decide_eq_true_eq] at z ⊢
      by_cases e : u < t
      · exact List.lt_trans z e
      · have : u = t := List.le_antisymm (List.not_lt.mp c) (List.not_lt.mp e)
        exact this ▸ z
    omega
theorem rank_le {ts : List (List Int)} {t u : List Int} (h : u ∈ ts) (hr : rank ts t ≤ rank ts u) : t ≤ u := by
  refine List.not_lt.mp fun c => ?_
  have := rank_lt (ts := ts) (t := u) (u := t) h
  rw [decide_eq_true c, decide_eq_true_eq] at this
  omega
abbrev tupI (t : List Int) : D := .tup (t.map D.int)
theorem perm_out {n : Nat} {ts : List (List Int)} {p : Array Nat} (hn : ts.length = n) (hp : Pm n p) : (p.toList.map fun i => ts.getD i []).Perm ts := by
  have h1 : p.toList.Perm (List.range n) := by simpa using Array.perm_iff_toList_perm.mp hp
  have h2 := h1.map fun i => ts.getD i []
  have h3 : (List.range n).map (fun i => ts.getD i []) = ts := by
    refine List.ext_getElem (by simp [hn]) fun i a b => ?_
    simp [b]
  rwa [h3] at h2
theorem sorted_out {n : Nat} {ts : List (List Int)} {p : Array Nat} (hn : ts.length = n) (hp : Pm n p) (hu : Up (fun i => rank ts (ts.getD i [])) p n) : (p.toList.map fun i => ts.getD i []) = srt ts := by
  refine srt_eq (perm_out hn hp) ?_
  have sz := hp.size
  rw [List.pairwise_iff_getElem]
  intro i j a b hij
  simp only [List.length_map, Array.length_toList] at a b
  have h := hu i j (Nat.le_of_lt hij) (by omega)
  have ei : p.getD i 0 = p[i] := by simp [Array.getD, a]
  have ej : p.getD j 0 = p[j] := by simp [Array.getD, b]
  unfold kv at h
  rw [ei, ej] at h
  simp only [List.getElem_map, Array.getElem_toList]
  refine rank_le ?_ h
  have : p[j] < ts.length := by rw [← ej, hn]; exact hp.lt (by omega) j
  rw [List.getD_eq_getElem?_getD, List.getElem?_eq_getElem this]
  exact List.getElem_mem this
section
variable {prog : Program} {w : World} {A : Around} {s : Shared}
theorem lex_ints {Q : Bool → Shared → Prop} : ∀ {xs ys : List V} {us vs : List Value} {ns ms : List Int} (i : Nat), xs = ns.map V.int → ys = ms.map V.int → Vals xs us → Vals ys vs → ns.length = ms.length → Q (decide (ns < ms)) s →
    KatLex prog w A true false Q (us.zip vs) i s
  | _, _, _, _, [], [], i, rfl, rfl, .nil, .nil, _, h => kat_nil (by simpa using h)
  | _, _, _, _, n :: ns, m :: ms, i, rfl, rfl, .cons r1 q1, .cons r2 q2, hl, h => by
    obtain ⟨t, rfl⟩ := r1
    obtain ⟨u, rfl⟩ := r2
    refine kat_cons (wpAny_eqBool_int (kat_go (fun e => kat_yes ?_) fun e => kat_no ?_))
    · have e' : n = m := by simpa using e
      subst e'
      refine lex_ints (i + 1) rfl rfl q1 q2 (by simpa using hl) ?_
      have : decide (n :: ns < n :: ms) = decide (ns < ms) := by
        rw [decide_eq_decide, List.cons_lt_cons_iff]
        simp
      rwa [this] at h
    · have e' : n ≠ m := by simpa using e
      have : decide (n :: ns < m :: ms) = decide (n < m) := by
        rw [decide_eq_decide, List.cons_lt_cons_iff]
        simp [e']
      rw [this] at h
      cases i with
      | zero => exact oneLt_int h
      | succ i => exact kat_one _ _ (lt_int h)
end
end FT
namespace FT
open PySem PySem.W PySem.Spec PySem.Calls PyProof.Rows L2 FL
theorem ints_of {K : PySem.W.Frag} {H : Hp} : ∀ {ys : List V} {ns : List Int}, IsAll K H ys (ns.map D.int) → ys = ns.map V.int
  | _, [], h => by cases h; rfl
  | _, n :: ns, h => by
    cases h with
    | cons h1 h2 => rw [h1.int_inv, ints_of h2]; rfl
section
variable {X : Cx} {pins : List (Addr × Obj)} {σ : L2.St} {H : Hp} {s : Shared}
/-- a tuple of whole numbers, as it lies there -/
def TupAt (h : Heap) (v : Value) (t : List Int) : Prop := ∃ a o its n, v = .ref a ∧ h.get? a = some o ∧ o.cls = .type "tuple" ∧ o.data = .seq (List.toArray its) n ∧ Vals (t.map V.int) its
theorem TupAt.kp {h h' : Heap} {v : Value} {t : List Int} (k : Kp h h') (x : TupAt h v t) : TupAt h' v t := let ⟨a, o, its, n, e, g, r⟩ := x; ⟨a, o, its, n, e, k a o g, r⟩
theorem pair_kp {h h' : Heap} (k : Kp h h') : ∀ {vs : List Value} {ts : List (List Int)}, Paired (TupAt h) vs ts → Paired (TupAt h') vs ts
  | _, _, .nil => .nil
  | _, _, .cons q r => .cons (q.kp k) (pair_kp k r)
theorem tup_at (I : L2.Inv X pins σ H s) {v : V} {u : Value} {t : List Int} (h : Is X.K H v (tupI t)) (r : RelV v u) : TupAt s.heap u t := by
  obtain ⟨a, xs, rfl, h1, h2⟩ := h.tup_inv
  cases ints_of h2
  cases r
  obtain ⟨its, q, ⟨o, g, c, n, d⟩, _⟩ := I.tuple h1
  exact ⟨a, o, its, n, rfl, g, c, d, q⟩
theorem tups_at (I : L2.Inv X pins σ H s) : ∀ {ts : List (List Int)} {xs : List V} {vs : List Value}, IsAll X.K H xs (ts.map tupI) → Vals xs vs → Paired (TupAt s.heap) vs ts
  | [], _, _, h, r => by cases h; cases r; exact .nil
  | t :: ts, _, _, h, r => by
    cases h with
    | cons h1 h2 =>
      cases r with
      | cons r1 r2 => exact .cons (tup_at I h1 r1) (tups_at I h2 r2)
theorem tups_get {h : Heap} : ∀ {vs : List Value} {ts : List (List Int)}, Paired (TupAt h) vs ts → ∀ i, i < ts.length → TupAt h (vs.getD i .none) (ts.getD i [])
  | _, _, .cons q _, 0, _ => q
  | _, _, .cons _ r, i + 1, hi => by
    have := tups_get r i (by simpa using hi)
    simpa using this
theorem kat_tups {h : Heap} : ∀ {vs : List Value} {ts : List (List Int)}, Paired (TupAt h) vs ts → (∀ t ∈ ts, t ≠ []) → ∃ fs, KatTups h vs fs ∧ fs.length = ts.length ∧ ∀ v ∈ fs, ∃ n t, v = .int n t
  | _, _, .nil, _ => ⟨[], .nil, rfl, fun v hv => by cases hv⟩
  | _, t :: ts, .cons q r, hz => by
    obtain ⟨fs, h1, h2, h3⟩ := kat_tups r fun t ht => hz t (List.mem_cons_of_mem _ ht)
    obtain ⟨a, o, its, n, rfl, g, c, d, w⟩ := q
    cases t with
    | nil => exact absurd rfl (hz [] List.mem_cons_self)
    | cons m ms =>
      cases w with
      | cons w1 w2 =>
        obtain ⟨tk, rfl⟩ := w1
        refine ⟨.int m tk :: fs, .cons g c d (by simp) h1, by simp [h2], fun v hv => ?_⟩
        rcases List.mem_cons.mp hv with rfl | hv
        · exact ⟨m, tk, rfl⟩
        · exact h3 v hv
theorem pick_out {K : PySem.W.Frag} {H : Hp} {xs : List V} {vs : List Value} {ds : List D} (h : IsAll K H xs ds) (r : Vals xs vs) : ∀ q : List Nat, (∀ i ∈ q, i < ds.length) →
    Vals (q.map fun i => xs.getD i .non) (q.map fun i => vs.getD i Value.none) ∧ IsAll K H (q.map fun i => xs.getD i .non) (q.map fun i => ds.getD i .non)
  | [], _ => ⟨.nil, .nil⟩
  | i :: q, hq => by
    obtain ⟨a, b⟩ := pick_out h r q fun j hj => hq j (List.mem_cons_of_mem _ hj)
    have hi := hq i List.mem_cons_self
    obtain ⟨v, e1, e2⟩ := h.get (List.getElem?_eq_getElem hi)
    obtain ⟨u, e3, e4⟩ := r.get e1
    refine ⟨.cons ?_ a, .cons ?_ b⟩
    · dsimp only
      rw [List.getD_eq_getElem?_getD, List.getD_eq_getElem?_getD, e1, e3]; exact e4
    · dsimp only
      rw [List.getD_eq_getElem?_getD, List.getD_eq_getElem?_getD, e1, List.getElem?_eq_getElem hi]; exact e2
variable {e : Expr} {ρ : Ro} {d : D} {pos p : Pos} {ts : List (List Int)} {k : Nat}
end
end FT

/-! FU: the order of tuples of whole numbers, asked by >= -/
namespace FU
open PySem PyProof.Rows HT
section
open PySem.SeqAt
open PySem.AutoSeq1 (wpAny_loadPart')
open PySem.MeetsSeq PySem.MeetsSeq2 PySem.MeetsSeq3
end
section
variable {prog : Program} {w : World} {A : Around} {E : Value → Shared → Prop} {s : Shared}
end
end FU
namespace FU
open PySem PySem.Spec PyProof.Rows L2 FL
section
variable {X : Cx} {a b : Expr} {ρ : Ro} {pos : Pos} {ns ms : List Int} {m : Nat}
end
end FU

/-! FV: names of the text that hold plain data; chains of comparisons; a list that is extended -/
namespace FL
open PySem PySem.Spec PyProof.Rows L2
/-- a name of the text that holds plain data -/
def Con (K : PySem.W.Frag) (mg : Str → Option Value) (x : Str) (d : D) : Prop := ∃ v u, mg x = some u ∧ RelV v u ∧ ∀ H, Is K H v d
theorem con_int {K : PySem.W.Frag} {mg : Str → Option Value} {x : Str} {i : Int} {t : Tok} (h : mg x = some (.int i t)) : Con K mg x (.int i) := ⟨.int i, _, h, ⟨t, rfl⟩, fun _ => .int i⟩
inductive IntsOf : List Value → List Int → Prop
  | nil : IntsOf [] []
  | cons {i : Int} {t : Tok} {us : List Value} {ns : List Int} (h : IntsOf us ns) : IntsOf (.int i t :: us) (i :: ns)
theorem IntsOf.vals : ∀ {us : List Value} {ns : List Int}, IntsOf us ns → Vals (ns.map V.int) us
  | _, _, .nil => .nil
  | _, _, .cons h => .cons ⟨_, rfl⟩ h.vals
theorem con_tup {K : PySem.W.Frag} {mg : Str → Option Value} {x : Str} {a : Addr} {od : Option Addr} {its : Array Value} {n : Nat} {sl : Array (Option Value)} {ns : List Int} (h : mg x = some (.ref a)) (hl : K.lookup a = some ⟨.type "tuple", od, .seq its n, sl⟩) (hi : IntsOf its.toList ns) (hn : its.size ≤ 1000 := by decide) : Con K mg x (.tup (ns.map D.int)) :=
  ⟨.ref a, _, h, rfl, fun _ => .tup (.inr ⟨_, its, n, hl, rfl, rfl, Nat.le_of_lt (small1000 hn), hi.vals⟩) (IsAll.ints ns)⟩
section
variable {X : Cx} {e a b c f : Expr} {es : List Expr} {ρ : Ro} {d : D} {ds gs : List D} {pos : Pos} {i j k l : Int} {rest : List Stmt} {P : Po}
theorem ev_con {x : Str} (C : Con X.K X.mg x d) (hg : Gl X x := by rfl) (hd : (x == ("__debug__" : Str)) = false := by decide) : Ev X (.Name x pos) ρ d := by
  obtain ⟨v, u, hm, r, h⟩ := C
  exact PE.imp (pe_glob hg hm r hd) fun _ H _ ⟨_, q⟩ => q _ H (Same.refl H) (h H)
/-- a op b op' c op'' d -/
def tChain3 (r r' r'' : R2) (ta tb tc td : TE) : TE := fun σ H Q => ta σ H fun x H1 => tb σ H1 fun y H2 => r x y H2 fun z H3 => ∃ k, z = .bl k ∧
  (if k = true then tc σ H3 fun w' H4 => r' y w' H4 fun z' H5 => ∃ k', z' = .bl k' ∧ (if k' = true then td σ H5 fun w2 H6 => r'' w' w2 H6 Q else Q (.bl false) H5) else Q (.bl false) H3)
theorem pe_chain3 {op op' op'' : CmpOp} {r r' r'' : R2} {ta tb tc td : TE} (ho : OpR X (compareOp op) r) (ho' : OpR X (compareOp op') r') (ho'' : OpR X (compareOp op'') r'') (ha : PE X a ta) (hb : PE X b tb) (hc : PE X c tc) (hf : PE X f td)
    (hm : lastMarks [op, op', op''] [b, c, f] = false := by with_unfolding_all rfl) : PE X (.Compare a [op, op', op''] [b, c, f] pos) (tChain3 r r' r'' ta tb tc td) := by
  intro pins s σ H Q I h
  refine Compare_chain (thn (ha pins s σ H _ I h) fun v s1 ⟨x, H1, I1, r1, q1⟩ => chain_link (thn (hb pins s1 σ H1 _ I1 q1) fun u s2 ⟨y, H2, I2, r2, q2⟩ =>
    thn (ho pins s2 σ H2 x y v u _ I2 r1 r2 q2) fun d s3 ⟨z, H3, I3, r3, k, e, q3⟩ => ?_)) hm
  subst e
  cases r3
  refine wpAny_truthy_bool ?_
  cases k with
  | false => exact ite_ff ⟨.bl false, H3, I3, rfl, q3⟩
  | true =>
    refine ite_tt (chain_link (thn (hc pins s3 σ H3 _ I3 q3) fun w' s4 ⟨z', H4, I4, r4, q4⟩ => thn (ho' pins s4 σ H4 y z' u w' _ I4 r2 r4 q4) fun d' s5 ⟨z2, H5, I5, r5, k2, e2, q5⟩ => ?_))
    subst e2
    cases r5
    refine wpAny_truthy_bool ?_
    cases k2 with
    | false => exact ite_ff ⟨.bl false, H5, I5, rfl, q5⟩
    | true => exact ite_tt (chain_last (thn (hf pins s5 σ H5 _ I5 q5) fun w2 s6 ⟨z3, H6, I6, r6, q6⟩ => ho'' pins s6 σ H6 z' z3 w' w2 Q I6 r4 r6 q6))
/-- three comparisons of whole numbers, as a value -/
theorem ev_chain3 {op op' op'' : CmpOp} {g g' g'' : Int → Int → Bool} (ho : OpR X (compareOp op) (rI0 fun i j => .bl (g i j))) (ho' : OpR X (compareOp op') (rI0 fun i j => .bl (g' i j))) (ho'' : OpR X (compareOp op'') (rI0 fun i j => .bl (g'' i j)))
    (ha : Ev X a ρ (.int i)) (hb : Ev X b ρ (.int j)) (hc : Ev X c ρ (.int k)) (hf : Ev X f ρ (.int l)) (hm : lastMarks [op, op', op''] [b, c, f] = false := by with_unfolding_all rfl) : Ev X (.Compare a [op, op', op''] [b, c, f] pos) ρ (.bl (g i j && (g' j k && g'' k l))) := by
  refine PE.imp (pe_chain3 ho ho' ho'' ha hb hc hf hm) ?_
  rintro σ H Q ⟨r, q⟩
  refine ⟨r, fun v1 H1 s1 h1 => ⟨r.mono s1, fun v2 H2 s2 h2 => ⟨i, j, h1.int_inv, h2.int_inv, g i j, rfl, ?_⟩⟩⟩
  cases hg : g i j with
  | false => rw [hg] at q; exact iteF (q _ H2 (s1.trans s2) (.bl _))
  | true =>
    rw [hg] at q
    refine iteT ⟨r.mono (s1.trans s2), fun v3 H3 s3 h3 => ⟨j, k, h2.int_inv, h3.int_inv, g' j k, rfl, ?_⟩⟩
    cases hg' : g' j k with
    | false => rw [hg'] at q; exact iteF (q _ H3 ((s1.trans s2).trans s3) (.bl _))
    | true =>
      rw [hg'] at q
      exact iteT ⟨r.mono ((s1.trans s2).trans s3), fun v4 H4 s4 h4 => ⟨k, l, h3.int_inv, h4.int_inv, q _ H4 (((s1.trans s2).trans s3).trans s4) (.bl _)⟩⟩
theorem et_chain {op op' : CmpOp} {g g' : Int → Int → Bool} (ho : OpR X (compareOp op) (rI0 fun i j => .bl (g i j))) (ho' : OpR X (compareOp op') (rI0 fun i j => .bl (g' i j)))
    (ha : Ev X a ρ (.int i)) (hb : Ev X b ρ (.int j)) (hc : Ev X c ρ (.int k)) (hm : lastMarks [op, op'] [b, c] = false := by with_unfolding_all rfl) : Et X (.Compare a [op, op'] [b, c] pos) ρ (g i j && g' j k) := by
  refine PT.imp (pt_chain ho ho' ha hb hc hm) ?_
  rintro σ H Q ⟨r, q⟩
  refine ⟨r, fun v1 H1 s1 h1 => ⟨r.mono s1, fun v2 H2 s2 h2 => ⟨i, j, h1.int_inv, h2.int_inv, g i j, rfl, ?_⟩⟩⟩
  cases hg : g i j with
  | false => rw [hg] at q; exact iteF ⟨false, rfl, q H2 (s1.trans s2)⟩
  | true =>
    rw [hg] at q
    exact iteT ⟨r.mono (s1.trans s2), fun v3 H3 s3 h3 => ⟨j, k, h2.int_inv, h3.int_inv, g' j k, rfl, q H3 ((s1.trans s2).trans s3)⟩⟩
/-- xs.extend(a new list) -/
theorem do_extend (n : Nat) {x : Str} {l : Addr} {p1 p2 p3 : Pos} (hρ : ρ[n]? = some (some (.lst l ds))) (he : EvN X e ρ gs) (hz : ∀ d ∈ gs, Fz d) (hl : ds.length + gs.length < 1000000) (hothers : ∀ (j : Nat) (es : List D), j ≠ n → ρ[j]? ≠ some (some (.lst l es)))
    (h : Do X rest (ρ.set n (some (.lst l (ds ++ gs)))) P) (hN : X.N[n]? = some x := by rfl) (hv : Vis X.env.scope x := by first | exact Or.inl rfl | exact Or.inr (Or.inl rfl) | exact Or.inr (Or.inr rfl))
    (hd : (x == ("__debug__" : Str)) = false := by decide) (hcd : (x == ("__classdict__" : Str)) = false := by decide)
    (hbase : attributeBase (.Name x p1) "extend" X.env (eval (.Name x p1) X.env) = eval (.Name x p1) X.env := by rfl)
    (hfew : ((backTo p3 (starEach [e] X.env)).all (fun x => !x.1) && (backToKw p3 (keywordEach [] X.env)).all (fun x => x.1.isSome) && decide ([e].length + ([] : List Keyword).length + (if ([] : List Keyword).isEmpty then 0 else 1) < 30)) = true := by rfl)
    (hline : (p2.endLine == p3.line) = true := by rfl) (hstar : starEach [e] X.env = [(false, eval e X.env)] := by rfl) (hs : swapsWith (.Call (.Attribute (.Name x p1) "extend" p2) [e] [] p3) none pos.line X.env = pure false := by rfl) :
    Do X (.Expr (.Call (.Attribute (.Name x p1) "extend" p2) [e] [] p3) pos :: rest) ρ P := by
  refine do_seq (M := fun ρ' => ρ' = ρ.set n (some (.lst l (ds ++ gs)))) (PS.imp (ps_expr (pe_bm PySem.F.plainAttrs_list PySem.F.slot_list_extend PySem.F.type_list_extend mt_extend (pe_var hN hv hd hcd) (pa_cons he pa_nil hstar) hbase hfew hline hstar rfl) hs) ?_) (fun _ z => z ▸ h)
  rintro D σ H ⟨r, q1, q2, q3, q4⟩
  obtain ⟨v, e1, h1, h2⟩ := r.val n _ hρ
  obtain ⟨rfl, xs, hT, hA⟩ := h1.lst_inv
  have fds : ∀ e ∈ ds, Fz e := by
    rcases h2 with z | z | ⟨a, es, z, f⟩
    · cases z
    · obtain ⟨_, ys, z, _⟩ := z.lst_inv
      rw [r.own l ⟨n, ds, hρ⟩] at z
      cases z
    · cases z; exact f
  refine ⟨_, e1, .inl ⟨rfl, xs, .of hT⟩, r.e, fun b zs H2 hfr s2 hB h3 => ?_⟩
  have hT2 := s2 _ _ hT
  have lx : xs.length = ds.length := hA.length
  have lz : zs.length = gs.length := h3.length
  refine ⟨l, b, xs, zs, rfl, rfl, hT2, hB, by rw [sizeLine_eq]; omega, ?_⟩
  have kt : KT H2 (upd H2 l (.lst (xs ++ zs))) :=
    ⟨fun b xs h => by rw [upd_ne (ne_of h hT2 (by intro z; cases z))]; exact h, fun b o u h => by rw [upd_ne (ne_of h hT2 (by intro z; cases z))]; exact h⟩
  have r2 := r.mono s2
  have h0 : X.H₀ l = none := r.own l ⟨n, ds, hρ⟩
  have same : Same X.H₀ (upd H2 l (.lst (xs ++ zs))) := fun b o h => by
    rw [upd_ne (ne_of_none h h0)]
    exact r2.same b o h
  have hnl : n < ρ.length := (List.getElem?_eq_some_iff.mp hρ).1
  have go : Go ρ H (ρ.set n (some (.lst l (ds ++ gs)))) (upd H2 l (.lst (xs ++ zs))) := by
    refine ⟨fun b o h nm => ?_, ?_⟩
    · have : b ≠ l := fun z => nm (z ▸ ⟨n, ds, hρ⟩)
      rw [upd_ne this]
      exact s2 _ _ h
    · rintro a ⟨j, es, hj⟩
      rcases set_get hj with ⟨rfl, z, _⟩ | ⟨_, hj⟩
      · cases z
        exact .inl ⟨_, ds, hρ⟩
      · exact .inl ⟨j, es, hj⟩
  have own : ∀ a, Mu (ρ.set n (some (.lst l (ds ++ gs)))) a → X.H₀ a = none := by
    rintro a ⟨j, es, hj⟩
    rcases set_get hj with ⟨rfl, z, _⟩ | ⟨_, hj⟩
    · cases z
      exact h0
    · exact r.own a ⟨j, es, hj⟩
  refine q1 _ _ _ go ⟨same, by simp [r.len], fun j e' hj => ?_, own⟩ rfl
  rcases set_get hj with ⟨rfl, rfl, _⟩ | ⟨hne, hj⟩
  · refine ⟨.ref l, e1, .lst upd_same ?_, .inr (.inr ⟨l, _, rfl, fun e' he' => ?_⟩)⟩
    · exact ((hA.mono s2).keep kt fds).append (h3.keep kt hz)
    · rcases List.mem_append.mp he' with z | z
      · exact fds _ z
      · exact hz _ z
  · obtain ⟨u, f1, f2, f3⟩ := r2.val j e' hj
    refine ⟨u, f1, ?_, f3⟩
    rcases f3 with z | z | ⟨a, es, rfl, z⟩
    · exact f2.keep kt z
    · exact z.mono same
    · obtain ⟨rfl, ys, g1, g2⟩ := f2.lst_inv
      have : a ≠ l := fun z => hothers j es hne (z ▸ hj)
      exact .lst (by rw [upd_ne this]; exact g1) (g2.keep kt z)
end
/-- the names that a comprehension takes from around it -/
theorem hcl_of {cl cells : List (Str × Addr)} (h : ∀ p ∈ cl, cells.lookup p.1 = some p.2) : ∀ y c, cl.lookup y = some c → cells.lookup y = some c := fun y c e => h (y, c) (PySem.mem_of_lookup e)
theorem has_of {scope : Scope} {env : Env} {cl : List (Str × Addr)} (h1 : ∀ p ∈ scope.names, p.2 ≠ .cell) (h2 : ∀ p ∈ scope.names, p.2 = .free → ∃ c, cl.lookup p.1 = some c) :
    ∀ y, (relabel scope env).names.lookup y = some .cell ∨ (relabel scope env).names.lookup y = some .free → ∃ c, cl.lookup y = some c := by
  have key : ∀ p ∈ (relabel scope env).names, (p.2 = .cell ∨ p.2 = .free) → ∃ c, cl.lookup p.1 = some c := by
    intro p hp hk'
    obtain ⟨⟨n, k⟩, hm, e⟩ := List.mem_map.mp (show p ∈ scope.names.map _ from hp)
    have hk := h1 _ hm
    by_cases hf : k = .free
    · have h3 := h2 _ hm hf
      have e1 : p.1 = n := by
        rw [← e]
        dsimp only
        split <;> rfl
      rw [e1]
      exact h3
    · have hf' : (k == NameKind.free) = false := by simpa using hf
      simp only [hf', Bool.false_and, Bool.false_eq_true, if_false] at e
      subst e
      rcases hk' with z | z
      · exact absurd z hk
      · exact absurd z hf
  intro y z
  rcases z with z | z
  · exact key _ (PySem.mem_of_lookup z) (.inl rfl)
  · exact key _ (PySem.mem_of_lookup z) (.inr rfl)
end FL

/-! FW: floor division by any number but nought; tuple(list); comprehensions, with what they take from around them -/
namespace FL
open PySem PySem.Spec PyProof.Rows L2
section
variable {X : Cx} {e a b c f : Expr} {es : List Expr} {ρ : Ro} {d d' : D} {ds gs : List D} {pos : Pos} {i j k l : Int} {rest : List Stmt} {P : Po}
theorem map_at {α β : Type} {g h : α → β} : ∀ {xs : List α}, xs.map g = xs.map h → ∀ x ∈ xs, g x = h x
  | [], _, x, hx => by cases hx
  | y :: ys, e, x, hx => by
    simp only [List.map_cons, List.cons.injEq] at e
    rcases List.mem_cons.mp hx with rfl | hx
    · exact e.1
    · exact map_at e.2 x hx
/-- a comprehension that takes names from around it -/
theorem evn_compC {elt iter : Expr} {x : Str} {px : Pos} {ifs : List Expr} {scope : Scope} (cl : List (Str × Addr)) (ys : List Str) (js : List Nat) (p : D → Bool) (f : D → D)
    (hi : Src X (.Name x px) iter ρ ds) (hz : ds.length ≤ 1000000) (hfz : ∀ d ∈ ds, p d = true → Fz (f d))
    (ht : ∀ C s₀ H₀ fp, ∀ d ∈ ds, Ets (blk X scope cl (x :: ys) C s₀ H₀ fp) ifs (some d :: freesD js ρ) (p d))
    (he : ∀ C s₀ H₀ fp, ∀ d ∈ ds, p d = true → Ev (blk X scope cl (x :: ys) C s₀ H₀ fp) elt (some d :: freesD js ρ) (f d))
    (hc : X.calm = true := by rfl) (hclos : closureFor scope X.env = pure cl := by rfl) (hcell : scope.names.all (fun y => !(y.2 == .cell)) = true := by rfl) (hkind : scope.kind = .function := by rfl)
    (hnames : scope.names.all (fun y => !(y.2 == .local) || (scope.names.lookup y.1 == some .local)) = true := by rfl) (hx : scope.names.lookup x = some .local := by rfl) (hnd : (x :: ys).Nodup := by decide)
    (hcl : cl.map (fun p => X.env.cells.lookup p.1) = cl.map (fun p => some p.2) := by rfl) (hhas : scope.names.all (fun y => !(y.2 == .free) || (cl.lookup y.1).isSome) = true := by rfl)
    (hjs : js.length = ys.length := by rfl) (hN : js.map (fun j => X.N[j]?) = ys.map some := by rfl) (hK : ys.map (fun y => X.env.scope.names.lookup y) = ys.map (fun _ => some .cell) := by rfl) (hR : ys.map (fun y => (relabel scope X.env).names.lookup y) = ys.map (fun _ => some .cell) := by rfl)
    (hs : ∀ x, foldedSetIterable iter X.env x = pure x := by intro _; rfl) : EvN X (.ListComp elt [⟨.Name x px, iter, ifs, 0⟩] scope pos) ρ ((ds.filter p).map f) := by
  have hcell' : ∀ y ∈ scope.names, y.2 ≠ .cell := fun y hy z => by
    have := List.all_eq_true.mp hcell y hy
    rw [z] at this
    cases this
  refine evn_comp (cl := cl) (ys := ys) (js := js) p f hc hi hz hfz ht he hclos hcell' hkind (fun y hy z => ?_) hx hnd (hcl_of fun q hq => map_at hcl q hq) (has_of hcell' fun q hq z => ?_) hjs (fun i j y hj hy => ?_) hs
  · have := List.all_eq_true.mp hnames y hy
    rw [z] at this
    simpa using this
  · have := List.all_eq_true.mp hhas q hq
    rw [z] at this
    have h2 : (cl.lookup q.1).isSome = true := by simpa using this
    exact Option.isSome_iff_exists.mp h2
  · have my : y ∈ ys := List.mem_of_getElem? hy
    have e1 : X.N[j]? = some y := by
      have : (js.map (fun j => X.N[j]?))[i]? = (ys.map some)[i]? := by rw [hN]
      rw [List.getElem?_map, List.getElem?_map, hj, hy] at this
      simpa using this
    have e2 := map_at hK y my
    have e3 := map_at hR y my
    exact ⟨e1, .inr (.inl e2), .inl e2, .inl e3⟩
end
end FL
namespace FL
open PySem PySem.Spec PyProof.Rows L2
section
variable {P : Program} {w : World} {K : PySem.W.Frag} {mg : Str → Option Value} {base : Heap} {k : Nat} {x : Str}
end
end FL

/-! FX: a comprehension that is stored under a name -/
namespace FL
open PySem PySem.Spec PyProof.Rows L2
theorem comp_core {X : Cx} {elt iter : Expr} {x : Str} {px : Pos} {ifs : List Expr} {scope : Scope} {cl : List (Str × Addr)} {pos : Pos} {ys : List Str} {js : List Nat} {wi : TI} {tt : Cx → TT} {te : Cx → TE}
    (hc : X.calm = true) (hi : PI X (.Name x px) iter wi)
    (ht : ∀ C s₀ H₀ fp, PTs (blk X scope cl (x :: ys) C s₀ H₀ fp) ifs (tt (blk X scope cl (x :: ys) C s₀ H₀ fp)))
    (he : ∀ C s₀ H₀ fp, PE (blk X scope cl (x :: ys) C s₀ H₀ fp) elt (te (blk X scope cl (x :: ys) C s₀ H₀ fp)))
    (hclos : closureFor scope X.env = pure cl) (hcell : ∀ y ∈ scope.names, y.2 ≠ .cell) (hkind : scope.kind = .function)
    (hnames : ∀ y ∈ scope.names, y.2 = .local → scope.names.lookup y.1 = some .local) (hx : scope.names.lookup x = some .local) (hnd : (x :: ys).Nodup)
    (hcl : ∀ y c, cl.lookup y = some c → X.env.cells.lookup y = some c)
    (hhas : ∀ y, (relabel scope X.env).names.lookup y = some .cell ∨ (relabel scope X.env).names.lookup y = some .free → ∃ c, cl.lookup y = some c)
    (hjs : js.length = ys.length) (hjy : ∀ (i j : Nat) (y : Str), js[i]? = some j → ys[i]? = some y → X.N[j]? = some y ∧ Vis X.env.scope y ∧ (X.env.kindOf y = some .cell ∨ X.env.kindOf y = some .free) ∧ ((relabel scope X.env).names.lookup y = some .cell ∨ (relabel scope X.env).names.lookup y = some .free))
    (hs : ∀ x, foldedSetIterable iter X.env x = pure x)
    {use : Option (Value → Sem Unit)} {R : Value → Shared → Prop} {pins : List (Addr × Obj)} {s : Shared} {σ : L2.St} {H : Hp} {Q : VK} {pos2 : Pos} (I : Inv X pins σ H s) (h : tComp X js wi tt te σ H Q)
    (hend : ∀ D C s5 H4, Q (.ref D) H4 → H4 C = none → (∃ m, s5.heap.Ns C m) → (∀ h6, Heap.SameBut C s5.heap h6 → Inv X pins σ H4 { s5 with heap := h6 }) →
      (X.s₀.heap.objs.size ≤ C ∧ C ≠ X.env.locals ∧ (∀ x c, X.env.cells.lookup x = some c → c ≠ C) ∧ ∀ p ∈ X.pn ++ pins, p.1 ≠ C) → compPost (model X.prog X.w) X.A X.xe use R (.ref D) C (.ok .next) s5) :
    wpAny (model X.prog X.w) X.A (comprehension (.ListComp elt [⟨.Name x px, iter, ifs, 0⟩] scope pos) scope X.env pos2 (newList []) false (eval iter X.env) use) R X.xe s := by
  refine wpAny_comprehension_free (use := use) rfl hs hclos hkind hnames (thn (hi pins s σ H _ I h) fun v s1 h1 => thn h1 fun itv s2 h2 => ?_)
  obtain ⟨it, fp, tn, J, H2, e, I2, T, st2, f2, h2⟩ := h2
  subst e
  refine wpAny_newObj_type (wpAny_newFunctionEnv hcell (by intro y hy; simp at hy) (fun h₁ hns₁ hsb₁ => ?_) hkind)
  dsimp only at hns₁ hsb₁ ⊢
  -- the list
  have hD : H2 s2.heap.objs.size = none := I2.hok.fresh (Nat.le_refl _)
  generalize eD : s2.heap.objs.size = D at hD hns₁ hsb₁ ⊢
  generalize eH : s2.heap.push { cls := .type "list", dict := none, data := .seq ([] : List Value).toArray } = P3 at hns₁ hsb₁ ⊢
  have k23 : ∀ b o, s2.heap.get? b = some o → P3.get? b = some o := fun b o q => by rw [← eH]; exact Heap.get?_push_of_some _ q
  have hDo : P3.get? D = some { cls := .type "list", dict := none, data := .seq ([] : List Value).toArray } := by rw [← eH, ← eD]; exact Heap.get?_push_size _ rfl
  have I3 : Inv X pins σ (upd H2 D (.lst [])) { s2 with heap := P3, toks := s2.toks } := I2.laid (t' := s2.toks) k23 (Nat.le_of_eq eD) ⟨Nat.zero_le _, [], 0, .nil, hDo⟩
  have hCs : P3.objs.size = D + 1 := by rw [← eH, Heap.size_push, eD]
  generalize eC : P3.objs.size = C at hns₁ hsb₁ hCs ⊢
  have k34 : ∀ b o, P3.get? b = some o → h₁.get? b = some o := fun b o q => hsb₁.extBut b o (by rw [← eC]; exact Nat.ne_of_lt (Heap.lt_size q)) (Heap.get?_push_of_some _ q)
  have fpD : ∀ b ∈ fp, b < D := fun b hb => by
    obtain ⟨o, q, _⟩ := T.obj 0 _ st2 b hb
    rw [← eD]
    exact Heap.lt_size q
  have hC0 : upd H2 D (.lst []) C = none := I3.hok.fresh (by show P3.objs.size ≤ C; rw [eC]; exact Nat.le_refl _)
  -- the block's context
  have okY : (blk X scope cl (x :: ys) C { s2 with heap := P3, toks := s2.toks } (upd H2 D (.lst [])) fp).Ok := by
    refine ⟨I3.ok.mod, hkind, I3.ok.glob, I3.ok.blt, by show P3.objs.size ≤ C; rw [eC]; exact Nat.le_refl _, fun y z c h1 h2 => I3.ok.inj y z c (hcl y c h1) (hcl z c h2), fun y hy => hhas y hy, fun y c hf _ => (by cases hf),
      I3.ok.hd, I3.ok.frames, .inl rfl, fun b hb => ⟨(by show b ≠ C; rw [hCs]; exact Nat.ne_of_lt (Nat.lt_succ_of_lt (fpD b hb))), fun y c hy => (f2 b hb).2.2.2.2.1 y c (hcl y c hy)⟩, fun b o q => ?_, ?_, fun b o q hb => ?_, fun b hb z => ?_, I3.stack, I3.stkFree⟩
    · exact I3.bs b o q
    · exact Nat.le_trans I3.ok.bsz I3.sz
    · rcases (f2 b hb).2.2.2.1 with z | z
      · exact I3.ok.noex b o q z
      · exact absurd (Nat.lt_of_lt_of_le (Heap.lt_size (I3.ok.bs b o q).1) z) (Nat.lt_irrefl _)
    · rcases List.mem_cons.mp (I3.stkSub b z) with z | z
      · exact (f2 b hb).2.1 z
      · exact (f2 b hb).2.2.1 z
  generalize eY : blk X scope cl (x :: ys) C { s2 with heap := P3, toks := s2.toks } (upd H2 D (.lst [])) fp = Y at okY
  have IY : Inv Y [] (none :: frees js σ) (upd H2 D (.lst [])) { s2 with heap := h₁, toks := s2.toks + ([] : List (Str × Value)).length } := by
    subst eY
    refine ⟨okY, I3.os.trans I3.os.symm |>.trans rfl, I3.bare, Un.kept k34, ⟨_, hns₁, fun i y v h1 h2 h3 => ?_⟩, fun y c hy => ?_, hC0, fun y c hy => I3.freeC y c (hcl y c hy), fun p hp => absurd (show p ∈ ([] : List (Addr × Obj)) from hp) (by simp), I3.hok.kept k34, ?_⟩
    · cases i with
      | zero => cases h2
      | succ i =>
        have h1' : ys[i]? = some y := h1
        have h2' : (frees js σ)[i]? = some (some v) := h2
        unfold frees at h2'
        rw [List.getElem?_map] at h2'
        cases q : js[i]? with
        | none => rw [q] at h2'; cases h2'
        | some j =>
          rw [q] at h2'
          have h4 : (σ[j]?).join = some v := Option.some.inj h2'
          have h5 : σ[j]? = some (some v) := by
            cases z : σ[j]? with
            | none => rw [z] at h4; cases h4
            | some o => rw [z] at h4; have h4' : o = some v := h4; rw [h4']
          obtain ⟨n1, n2, n3, n4⟩ := hjy i j y q h1'
          obtain ⟨m, _, hl⟩ := I3.loc
          obtain ⟨u, ru, lk⟩ := hl j y v n1 h5 n2
          refine ⟨u, ru, .inr ⟨n4, ?_⟩⟩
          obtain ⟨c, hc'⟩ := hhas y n4
          rcases lk with ⟨z, _⟩ | ⟨_, c', e1, e2⟩
          · rcases n3 with n3 | n3 <;> (rw [n3] at z; cases z)
          · have : c' = c := Option.some.inj (e1.symm.trans (hcl y c hc'))
            subst this
            obtain ⟨o, ho, hod⟩ := e2
            exact ⟨c', hc', o, k34 _ _ ho, hod⟩
    · obtain ⟨v, o, ho, hod⟩ := I3.cell y c (hcl y c hy)
      exact ⟨v, o, k34 _ _ ho, hod⟩
    · show (frees js σ).length + 1 = (x :: ys).length
      unfold frees
      simp [hjs]
  have eYA : Y.A = X.A := by rw [← eY]; rfl
  have eYp : Y.prog = X.prog := by rw [← eY]; rfl
  have eYw : Y.w = X.w := by rw [← eY]; rfl
  have eYK : Y.K = X.K := by rw [← eY]; rfl
  have eYe : Y.env = compEnvC scope cl C X.env := by rw [← eY]; rfl
  have eYH : Y.H₀ = upd H2 D (.lst []) := by rw [← eY]; rfl
  have eYc : Y.calm = true := by rw [← eY]; exact hc
  have eYx : Y.xe = fun _ _ => False := by rw [← eY]; rfl
  have eYex : Y.ex = fp := by rw [← eY]; rfl
  have eYfs : Y.fs = frs X.stack := by rw [← eY]; rfl
  have eYs : Y.s₀ = { s2 with heap := P3, toks := s2.toks } := by rw [← eY]; rfl
  have eYl : Y.env.locals = C := by rw [eYe]; rfl
  have ht' : PTs Y ifs (tt Y) := by rw [← eY]; exact ht C _ _ fp
  have he' : PE Y elt (te Y) := by rw [← eY]; exact he C _ _ fp
  have hg' : PG Y (.Name x px) (gName 0) := by
    rw [← eY]
    exact pg_name hnd rfl (.inl (lookup_relabel_local hx)) (.inr (lookup_relabel_local hx))
  have T' : Turn Y.prog Y.w Y.K (.Name x px) J fp it tn := by rw [eYp, eYw, eYK]; exact T
  obtain ⟨W, ⟨m0, w0⟩, turn⟩ := h2 D hD Y eYH eYK
  have stat : ∀ {H' : Hp}, (∀ b ∈ fp, H' b = none) → ∀ b ∈ fp, FpOk Y [] H' b := fun {H'} hn b hb => by
    obtain ⟨_, g1, g2, g3, g4, g5⟩ := f2 b hb
    refine ⟨hn b hb, (by rw [eYl, hCs]; exact Nat.ne_of_lt (Nat.lt_succ_of_lt (fpD b hb))), fun z => ?_, .inl (by rw [eYex]; exact hb), fun y c hy => ?_, fun p hp => ?_⟩
    · rw [eYfs] at z
      rcases List.mem_cons.mp (I3.stkSub b z) with z | z
      · exact g1 z
      · exact g2 z
    · rw [eYe] at hy
      exact g4 y c (hcl y c hy)
    · have e0 : Y.pn = [] := by rw [← eY]; rfl
      rw [e0] at hp
      exact absurd (show p ∈ ([] : List (Addr × Obj)) from hp) (by simp)
  -- the loop
  have loop : ∀ s₃ : Shared, s₃ = { s2 with heap := h₁, toks := s2.toks + ([] : List (Str × Value)).length } →
      codeAny (model X.prog X.w) X.A (.compLoop (.ListComp elt [⟨.Name x px, iter, ifs, 0⟩] scope pos) 0 (.ref it) (.ref D) (compEnvC scope cl C X.env))
        (compPost (model X.prog X.w) X.A X.xe use R (.ref D) C) s₃ := by
    rintro s₃ rfl
    rw [← eYe, ← eYA, ← eYp, ← eYw]
    refine compLoop_any (fun n s' => ∃ i z H' zs, Inv Y [] (z :: frees js σ) H' s' ∧ tn i s'.heap ∧ (∀ b ∈ fp, H' b = none) ∧ H' D = some (.lst zs) ∧ W i n zs H') ?_ m0
      ⟨0, none, _, [], IY, T.keep 0 _ _ st2 (fun b _ o q => k34 b o (k23 b o q)), fun b hb => ?_, upd_same, w0⟩
    · rintro n s4 ⟨i, z, H4, zs, I4, st4, fr4, hz4, w4⟩
      rcases turn i n zs H4 hz4 w4 with ⟨stop, qn⟩ | ⟨go, step⟩
      · refine thn (T'.done Y rfl rfl rfl eYc i [] s4 _ H4 _ I4 (stat fr4) st4 stop) fun r s5 ⟨hr, I5⟩ => ?_
        subst hr
        obtain ⟨m, hm, _⟩ := id I5.loc
        rw [eYl] at hm
        have hC5 : H4 C = none := by rw [← eYl]; exact I5.free
        have hC3 : P3.objs.size = C := eC
        show compPost (model Y.prog Y.w) Y.A X.xe use R (.ref D) C (.ok .next) s5
        rw [eYp, eYw, eYA]
        refine hend D C s5 H4 qn hC5 ⟨m, hm⟩ (fun h6 sb => ?_) ⟨?_, ?_, ?_, ?_⟩
        · have un5 := I5.base
          rw [eYfs, eYex, eYH, eYs] at un5
          have un6 : Un (frs X.stack) fp (upd H2 D (.lst [])) H4 P3 h6 := by
            have nC : ∀ b o, P3.get? b = some o → b ≠ C := fun b o q => by rw [← eC]; exact Nat.ne_of_lt (Heap.lt_size q)
            refine ⟨fun b o q n hb hx => (sb.2 b (nC b o q)).trans (un5.keep b o q n hb hx), fun b o q n hb hx => ?_, un5.free, fun b o q hx => ?_, un5.tups, un5.frzs, un5.tbls⟩
            · obtain ⟨sl, q2⟩ := un5.slot b o q n hb hx
              exact ⟨sl, (sb.2 b (nC b o q)).trans q2⟩
            · obtain ⟨o', q2⟩ := un5.there b o q hx
              exact ⟨o', (sb.2 b (nC b o q)).trans q2⟩
          have hok6 : HOk X.prog X.w H4 h6 := fun b ob q => by
            have q5 := I5.hok b ob q
            rw [eYp, eYw] at q5
            refine q5.stay (fun c w' hc' q' => (sb.2 c ?_).trans q') (fun _ q' => q') fun _ _ q' => q'
            rintro rfl
            rcases hc' with rfl | hc'
            · rw [hC5] at q; cases q
            · rw [hC5] at hc'; cases hc'
          have os5 : s5.os = s2.os := by have := I5.os; rw [eYs] at this; exact this
          refine I3.call' (s' := { s5 with heap := h6 }) (ch := fp) os5 un6 hok6 I5.bare fun b hb => ?_
          obtain ⟨_, g1, g2, g3, g4, g5⟩ := f2 b hb
          exact ⟨g3, g1, g4, g5⟩
        · rw [← hC3]
          exact I3.sz
        · obtain ⟨m', ⟨oL, _, _, hoL, _⟩, _⟩ := I3.loc
          rw [← hC3]
          exact (Nat.ne_of_lt (Heap.lt_size hoL)).symm
        · intro y c hy
          obtain ⟨_, o, ho, _⟩ := I3.cell y c hy
          rw [← hC3]
          exact Nat.ne_of_lt (Heap.lt_size ho)
        · intro p hp
          rw [← hC3]
          exact Nat.ne_of_lt (Heap.lt_size (I3.pin p hp).1)
      · refine thn (T'.item Y rfl rfl rfl eYc i [] s4 _ H4 _ I4 (stat fr4) st4 go) fun r s5 ⟨u, hr, h5⟩ => ?_
        subst hr
        refine thn h5 fun _ s6 ⟨y, H6, I6, r6, y6, st6, fr6⟩ => ?_
        have I6' := I6.pinned (stat fr6) (T.obj _ _ st6)
        have q6 := step y H6 y6
        have back : ∀ {σ7 : L2.St} {H7 : Hp} {s7 : Shared}, Inv Y ([] ++ pinsAt fp s6.heap) σ7 H7 s7 → tn (i + 1) s7.heap ∧ ∀ b ∈ fp, H7 b = none := fun {σ7 H7 s7} I7 =>
          ⟨T.keep _ _ _ st6 fun b hb o e => (I7.pin (b, o) (List.mem_append_right _ (List.mem_append_right _ (mem_pinsAt hb e)))).1, fun b hb => by
            obtain ⟨o, e, _⟩ := T.obj _ _ st6 b hb
            exact (I7.pin (b, o) (List.mem_append_right _ (List.mem_append_right _ (mem_pinsAt hb e)))).2.1⟩
        refine wpAny_mono (hg' _ s6 _ H6 y u (fun σ' H' => σ' = some y :: frees js σ ∧ H' = H6) I6' r6 ⟨rfl, rfl⟩) (fun _ s7 ⟨σ7, H7, I7, e7, e7'⟩ => ?_) fun _ _ z => by rw [eYx] at z; exact z
        subst e7 e7'
        refine wpAny_mono (ht' _ s7 _ H7 _ I7 q6) (fun ok s8 ⟨H8, I8, q8⟩ => ?_) fun _ _ z => by rw [eYx] at z; exact z
        cases ok with
        | false =>
          rw [if_neg Bool.false_ne_true] at q8 ⊢
          obtain ⟨zs', m', hz', hm', w'⟩ := q8
          obtain ⟨b1, b2⟩ := back I8
          exact ⟨m', hm', i + 1, some y, H8, zs', I8.unpinned, b1, b2, hz', w'⟩
        | true =>
          rw [if_pos rfl] at q8 ⊢
          refine wpAny_mono (he' _ s8 _ H8 _ I8 q8) (fun u9 s9 ⟨v9, H9, I9, r9, zs9, hz9, hl9, m9, hm9, w9⟩ => ?_) fun _ _ z => by rw [eYx] at z; exact z
          refine wpAny_mono (mt_append (X := Y) _ s9 _ H9 (.ref D) [v9] (.ref D) [u9] (fun _ H' => H' = upd H9 D (.lst (zs9 ++ [v9]))) I9 rfl (.cons r9 .nil) ⟨D, zs9, v9, rfl, rfl, hz9, hl9, rfl⟩) (fun _ s10 ⟨_, H10, I10, _, e10⟩ => ?_) fun _ _ z => by rw [eYx] at z; exact z
          subst e10
          obtain ⟨b1, b2⟩ := back I10
          exact ⟨m9, hm9, i + 1, some y, _, zs9 ++ [v9], I10.unpinned, b1, b2, upd_same, w9⟩
    · rw [upd_ne (Nat.ne_of_lt (fpD b hb))]
      exact (f2 b hb).1
  exact codeAny_compStart_list (loop _ rfl) (T.self _ 0 _ _ _ (T.keep 0 _ _ st2 (fun b _ o q => k34 b o (k23 b o q))) (loop _ rfl))

theorem comp_reading {X : Cx} {js : List Nat} {ρ : Ro} {ds : List D} (p : D → Bool) (f : D → D) (hz : ds.length ≤ 1000000) (hfz : ∀ d ∈ ds, p d = true → Fz (f d)) :
    ∀ σ H Q, tN X ρ ((ds.filter p).map f) σ H Q → tComp X js (tSrc X ρ ds) (fun Y σ H Q => ∃ d, d ∈ ds ∧ tB Y (some d :: freesD js ρ) (p d) σ H Q) (fun Y σ H Q => ∃ d, d ∈ ds ∧ p d = true ∧ tD Y (some d :: freesD js ρ) (f d) σ H Q) σ H Q := by
  rintro σ H Q ⟨r, q⟩
  refine ⟨r, fun J H2 s2 ok D hD Y eH eK => ?_⟩
  -- the invariant: what was there stands, the list holds what came of the items so far
  have fzs : ∀ (i : Nat), ∀ d ∈ ((ds.take i).filter p).map f, Fz d := fun i d hd => by
    obtain ⟨d', h1, rfl⟩ := List.mem_map.mp hd
    obtain ⟨h2, h3⟩ := List.mem_filter.mp h1
    exact hfz d' (List.mem_of_mem_take h2) h3
  refine ⟨fun i m zs H3 => m = ds.length - i ∧ i ≤ ds.length ∧ (∀ b o, H2 b = some o → H3 b = some o) ∧ IsAll X.K H3 zs (((ds.take i).filter p).map f), ⟨ds.length, by simp, Nat.zero_le _, same_new hD, ?_⟩, ?_⟩
  · simpa using IsAll.nil
  · rintro i m zs H3 hzs ⟨rfl, hil, k3, hA⟩
    obtain ⟨stop, go⟩ := ok H3 k3
    by_cases hlt : i < ds.length
    · obtain ⟨g, y⟩ := go i ds[i] (by simp [hlt])
      refine .inr ⟨g, fun v H4 hy => ?_⟩
      obtain ⟨rfl, hv⟩ := y v H4 hy
      have hmem : ds[i] ∈ ds := List.getElem_mem hlt
      have r3 : RelE X H4 σ ρ := r.mono (s2.trans k3)
      refine ⟨ds[i], hmem, relE_blk eK r3 hv, fun H5 s5 => ?_⟩
      have etake : ds.take (i + 1) = ds.take i ++ [ds[i]] := by rw [List.take_succ_eq_append_getElem hlt]
      cases hp : p ds[i] with
      | false =>
        refine iteF ⟨zs, ds.length - (i + 1), s5 _ _ hzs, by omega, rfl, hlt, fun b o h => s5 _ _ (k3 b o h), ?_⟩
        rw [etake, List.filter_append]
        simpa [hp] using hA.mono s5
      | true =>
        refine iteT ⟨ds[i], hmem, hp, (relE_blk eK r3 hv).mono s5, fun y H6 s6 hy6 => ⟨zs, s6 _ _ (s5 _ _ hzs), ?_, ds.length - (i + 1), by omega, rfl, hlt, fun b o h => ?_, ?_⟩⟩
        · have e1 := hA.length
          rw [List.length_map] at e1
          have e2 := List.length_filter_le p (ds.take i)
          rw [List.length_take] at e2
          rw [sizeLine_eq]
          omega
        · rw [upd_ne (ne_of_none h hD)]
          exact s6 _ _ (s5 _ _ (k3 b o h))
        · have hD6 : H6 D = some (.lst zs) := s6 _ _ (s5 _ _ hzs)
          have kt : KT H6 (upd H6 D (.lst (zs ++ [y]))) :=
            ⟨fun b xs h => by rw [upd_ne (ne_of h hD6 (by intro z; cases z))]; exact h, fun b o u h => by rw [upd_ne (ne_of h hD6 (by intro z; cases z))]; exact h⟩
          rw [etake, List.filter_append, List.map_append]
          refine IsAll.append ((hA.mono (s5.trans s6)).keep kt (fzs i)) ?_
          rw [eK] at hy6
          simpa [hp] using IsAll.cons (hy6.keep kt (hfz _ hmem hp)) .nil
    · refine .inl ⟨stop i (by omega), q D zs H3 (s2.free hD) (s2.trans k3) hzs ?_⟩
      have : ds.take i = ds := List.take_of_length_le (by omega)
      rw [this] at hA
      exact hA

theorem ps_setComp {X : Cx} {elt iter : Expr} {x : Str} {px : Pos} {ifs : List Expr} {scope : Scope} {cl : List (Str × Addr)} {pos : Pos} {ys : List Str} {js : List Nat} {wi : TI} {tt : Cx → TT} {te : Cx → TE} {i : Nat} {y : Str} {py spos : Pos}
    (hN : X.N.Nodup) (hi0 : X.N[i]? = some y) (hy : X.env.scope.names.lookup y = some .local) (hsw : swapsWith (.ListComp elt [⟨.Name x px, iter, ifs, 0⟩] scope pos) (some (.Name y py)) spos.line X.env = pure true)
    (hc : X.calm = true) (hi : PI X (.Name x px) iter wi)
    (ht : ∀ C s₀ H₀ fp, PTs (blk X scope cl (x :: ys) C s₀ H₀ fp) ifs (tt (blk X scope cl (x :: ys) C s₀ H₀ fp)))
    (he : ∀ C s₀ H₀ fp, PE (blk X scope cl (x :: ys) C s₀ H₀ fp) elt (te (blk X scope cl (x :: ys) C s₀ H₀ fp)))
    (hclos : closureFor scope X.env = pure cl) (hcell : ∀ y ∈ scope.names, y.2 ≠ .cell) (hkind : scope.kind = .function)
    (hnames : ∀ y ∈ scope.names, y.2 = .local → scope.names.lookup y.1 = some .local) (hx : scope.names.lookup x = some .local) (hnd : (x :: ys).Nodup)
    (hcl : ∀ y c, cl.lookup y = some c → X.env.cells.lookup y = some c)
    (hhas : ∀ y, (relabel scope X.env).names.lookup y = some .cell ∨ (relabel scope X.env).names.lookup y = some .free → ∃ c, cl.lookup y = some c)
    (hjs : js.length = ys.length) (hjy : ∀ (i j : Nat) (y : Str), js[i]? = some j → ys[i]? = some y → X.N[j]? = some y ∧ Vis X.env.scope y ∧ (X.env.kindOf y = some .cell ∨ X.env.kindOf y = some .free) ∧ ((relabel scope X.env).names.lookup y = some .cell ∨ (relabel scope X.env).names.lookup y = some .free))
    (hs : ∀ x, foldedSetIterable iter X.env x = pure x) :
    PS X (.Assign [.Name y py] (.ListComp elt [⟨.Name x px, iter, ifs, 0⟩] scope pos) spos) (tAsg (tComp X js wi tt te) (gName i)) := by
  intro pins s σ H Dn I h
  rw [exec_Assign_Name_used _ _ _ _ hsw]
  refine wpAny_bind (wpAny_standAt (wpAny_bind ?_))
  show wpAny _ X.A (do let _ ← comprehension (.ListComp elt [⟨.Name x px, iter, ifs, 0⟩] scope pos) scope X.env _ (newList []) false (eval iter X.env) (some (assign (.Name y py) X.env))) _ _ s
  refine wpAny_bind (wpAny_mono (comp_core (use := some (assign (.Name y py) X.env)) (R := fun _ s' => SP X pins Dn .next s') hc hi ht he hclos hcell hkind hnames hx hnd hcl hhas hjs hjy hs I h (fun D C s5 H4 q hC ns inv cc => ?_)) (fun _ s' hq => wpAny_pure (wpAny_pure hq)) fun _ _ e => e)
  show wpAny _ X.A (assign (.Name y py) X.env (.ref D)) _ _ s5
  have I5 : Inv X pins σ H4 s5 := inv s5.heap (Heap.SameBut.refl _ _)
  refine wpAny_assign_Name (store_ok2 (v := .ref D) I5 hN hi0 (.inl hy) rfl (fun s6 I6 ⟨a, sb, ha⟩ => ?_) (.inr hy))
  obtain ⟨m, hm⟩ := ns
  have aC : C ≠ a := by
    rcases ha with rfl | ha
    · exact cc.2.1
    · exact fun z => cc.2.2.1 _ _ ha z.symm
  refine ⟨m, hm.sameBut sb aC, fun h7 sb7 => ⟨_, H4, ?_, q⟩⟩
  have un : Un (frs X.stack) [C] H4 H4 s6.heap h7 := by
    have nC : ∀ b, b ∉ [C] → b ≠ C := fun b hb z => hb (z ▸ List.mem_cons_self)
    exact ⟨fun b o q n hb hx => (sb7.2 b (nC b hx)).trans q, fun b o q n hb hx => ⟨o.slots, (sb7.2 b (nC b hx)).trans q⟩, fun b o q n hx => n, fun b o q hx => ⟨o, (sb7.2 b (nC b hx)).trans q⟩, fun _ _ q => q, fun _ _ _ q => q, fun _ ps q => ⟨#[], by rw [Array.append_empty]; exact q⟩⟩
  have hok7 : HOk X.prog X.w H4 h7 := fun b ob q => by
    refine (I6.hok b ob q).stay (fun c w' hc' q' => (sb7.2 c ?_).trans q') (fun _ q' => q') fun _ _ q' => q'
    rintro rfl
    rcases hc' with rfl | hc'
    · rw [hC] at q; cases q
    · rw [hC] at hc'; cases hc'
  refine I6.call' (s' := { s6 with heap := h7 }) (ch := [C]) rfl un hok7 I6.bare fun b hb => ?_
  obtain rfl : b = C := List.mem_singleton.mp hb
  exact ⟨.inr cc.1, cc.2.1, cc.2.2.1, cc.2.2.2⟩
section
variable {X : Cx} {ρ : Ro} {ds : List D} {pos spos py : Pos} {rest : List Stmt} {P : Po}
/-- x = [.. for .. in ..] -/
theorem do_setC (n : Nat) {elt iter : Expr} {x y : Str} {px : Pos} {ifs : List Expr} {scope : Scope} (cl : List (Str × Addr)) (ys : List Str) (js : List Nat) (p : D → Bool) (f : D → D)
    (hi : Src X (.Name x px) iter ρ ds) (hz : ds.length ≤ 1000000) (hfz : ∀ d ∈ ds, p d = true → Fz (f d))
    (ht : ∀ C s₀ H₀ fp, ∀ d ∈ ds, Ets (blk X scope cl (x :: ys) C s₀ H₀ fp) ifs (some d :: freesD js ρ) (p d))
    (he : ∀ C s₀ H₀ fp, ∀ d ∈ ds, p d = true → Ev (blk X scope cl (x :: ys) C s₀ H₀ fp) elt (some d :: freesD js ρ) (f d))
    (h : ∀ l, ¬ Mu ρ l → Do X rest (ρ.set n (some (.lst l ((ds.filter p).map f)))) P) (hN : X.N.Nodup) (hi0 : X.N[n]? = some y := by rfl) (hy : X.env.scope.names.lookup y = some .local := by rfl)
    (hsw : swapsWith (.ListComp elt [⟨.Name x px, iter, ifs, 0⟩] scope pos) (some (.Name y py)) spos.line X.env = pure true := by rfl)
    (hc : X.calm = true := by rfl) (hclos : closureFor scope X.env = pure cl := by rfl) (hcell : scope.names.all (fun y => !(y.2 == .cell)) = true := by rfl) (hkind : scope.kind = .function := by rfl)
    (hnames : scope.names.all (fun y => !(y.2 == .local) || (scope.names.lookup y.1 == some .local)) = true := by rfl) (hx : scope.names.lookup x = some .local := by rfl) (hnd : (x :: ys).Nodup := by decide)
    (hcl : cl.map (fun p => X.env.cells.lookup p.1) = cl.map (fun p => some p.2) := by rfl) (hhas : scope.names.all (fun y => !(y.2 == .free) || (cl.lookup y.1).isSome) = true := by rfl)
    (hjs : js.length = ys.length := by rfl) (hNj : js.map (fun j => X.N[j]?) = ys.map some := by rfl) (hK : ys.map (fun y => X.env.scope.names.lookup y) = ys.map (fun _ => some .cell) := by rfl) (hR : ys.map (fun y => (relabel scope X.env).names.lookup y) = ys.map (fun _ => some .cell) := by rfl)
    (hs : ∀ x, foldedSetIterable iter X.env x = pure x := by intro _; rfl) : Do X (.Assign [.Name y py] (.ListComp elt [⟨.Name x px, iter, ifs, 0⟩] scope pos) spos :: rest) ρ P := by
  have hcell' : ∀ y ∈ scope.names, y.2 ≠ .cell := fun y hy z => by
    have := List.all_eq_true.mp hcell y hy
    rw [z] at this
    cases this
  have hz' : ∀ d ∈ (ds.filter p).map f, Fz d := fun d hd => by
    obtain ⟨d', h1, rfl⟩ := List.mem_map.mp hd
    exact hfz d' (List.mem_filter.mp h1).1 (List.mem_filter.mp h1).2
  refine do_seq (M := fun ρ' => ∃ l, ¬ Mu ρ l ∧ ρ' = ρ.set n (some (.lst l ((ds.filter p).map f)))) (PS.imp (ps_setComp (cl := cl) (ys := ys) (js := js) (wi := tSrc X ρ ds) (tt := fun Y σ H Q => ∃ d, d ∈ ds ∧ tB Y (some d :: freesD js ρ) (p d) σ H Q) (te := fun Y σ H Q => ∃ d, d ∈ ds ∧ p d = true ∧ tD Y (some d :: freesD js ρ) (f d) σ H Q) hN hi0 hy hsw hc hi
    (fun C s₀ H₀ fp pins s σ H Q I ⟨d, hd, q⟩ => ht C s₀ H₀ fp d hd pins s σ H Q I q) (fun C s₀ H₀ fp pins s σ H Q I ⟨d, hd, hp, q⟩ => he C s₀ H₀ fp d hd hp pins s σ H Q I q) hclos hcell' hkind (fun y hy z => ?_) hx hnd (hcl_of fun q hq => map_at hcl q hq) (has_of hcell' fun q hq z => ?_) hjs (fun i j y hj hy => ?_) hs) ?_) (fun _ ⟨l, z, e⟩ => e ▸ h l z)
  · have := List.all_eq_true.mp hnames y hy
    rw [z] at this
    simpa using this
  · have := List.all_eq_true.mp hhas q hq
    rw [z] at this
    have h2 : (cl.lookup q.1).isSome = true := by simpa using this
    exact Option.isSome_iff_exists.mp h2
  · have my : y ∈ ys := List.mem_of_getElem? hy
    have e1 : X.N[j]? = some y := by
      have : (js.map (fun j => X.N[j]?))[i]? = (ys.map some)[i]? := by rw [hNj]
      rw [List.getElem?_map, List.getElem?_map, hj, hy] at this
      simpa using this
    have e2 := map_at hK y my
    have e3 := map_at hR y my
    exact ⟨e1, .inr (.inl e2), .inl e2, .inl e3⟩
  · rintro D σ H ⟨r, q1, q2, q3, q4⟩
    refine comp_reading p f hz hfz σ H _ ⟨r.e, fun l vs H' hl s e1 h' => q1 _ H' _ (Go.set s fun a es z => ?_) ((r.mono s).set (.lst e1 h') n (.inr (.inr ⟨l, _, rfl, hz'⟩)) fun a es z => ?_) ⟨l, fun m => ?_, rfl⟩⟩
    · cases z
      exact .inr hl
    · cases z
      exact r.same.free hl
    · obtain ⟨ys, z⟩ := r.mu m
      rw [hl] at z
      cases z
end
end FL

/-! the mathematics of k03 -/
namespace M
theorem fmod_gcd (a b : Int) : Int.gcd b (a.fmod b) = Int.gcd a b := by
  rw [Int.fmod_def, Int.gcd_sub_mul_left_right, Int.gcd_comm]
theorem emod_gcd (a b : Int) : Int.gcd b (a % b) = Int.gcd a b := by
  rw [Int.emod_def, Int.gcd_sub_mul_left_right, Int.gcd_comm]
theorem fmod_lt (a : Int) {b : Int} (h : b ≠ 0) : (a.fmod b).natAbs < b.natAbs := by
  rcases Int.lt_or_gt_of_ne h with h | h
  · have e : a.fmod b = -((-a).fmod (-b)) := by rw [Int.neg_fmod_neg]; omega
    have h1 := Int.fmod_nonneg_of_pos (-a) (show 0 < -b by omega)
    have h2 := Int.fmod_lt_of_pos (-a) (show 0 < -b by omega)
    omega
  · have h1 := Int.fmod_nonneg_of_pos a h
    have h2 := Int.fmod_lt_of_pos a h
    omega
theorem gcd_abs (a b : Int) : Int.gcd (a.natAbs : Int) (b.natAbs : Int) = Int.gcd a b := by
  simp [Int.gcd]
/-- a form's bar is below nought -/
theorem bar_neg {a b g : Int} (ha : 0 < a) (hg : 0 ≤ g) : b * b - 4 * a * (b * b / (4 * a) + 1 + g) < 0 := by
  have h4 : 0 < 4 * a := by omega
  have h1 := Int.lt_mul_ediv_self_add (x := b * b) h4
  have h2 : 4 * a * (b * b / (4 * a) + 1 + g) = 4 * a * (b * b / (4 * a)) + 4 * a + 4 * a * g := by
    rw [Int.mul_add, Int.mul_add, Int.mul_one]
  have h3 : 0 ≤ 4 * a * g := Int.mul_nonneg (by omega) hg
  omega
end M

/-! MT: forms, turnings, least forms: the mathematics -/
namespace MT
def Wo (a b c x y : Int) : Int := a * x * x + b * x * y + c * y * y
/-- a least form -/
structure Least (a b c : Int) : Prop where
  lo : -a < b
  hi : b ≤ a
  ac : a ≤ c
  eq : a = c → 0 ≤ b
theorem sq_pos {x : Int} (h : x ≠ 0) : 1 ≤ x * x := by
  rcases Int.lt_or_gt_of_ne h with h | h
  · have := Int.mul_pos (show 0 < -x by omega) (show 0 < -x by omega)
    grind
  · have := Int.mul_pos h h
    omega
theorem sq_nonneg (x : Int) : 0 ≤ x * x := by
  by_cases h : x = 0
  · subst h; decide
  · have := sq_pos h; omega
/-- at a place off the two lines a least form is worth at least its last number and more -/
theorem worth_ge {a b c x y : Int} (ha : 0 < a) (L : Least a b c) (hx : x ≠ 0) (hy : y ≠ 0) :
    ∃ m e : Int, 1 ≤ m ∧ 0 ≤ e ∧ (x * y = m ∧ e = a + b ∨ x * y = -m ∧ e = a - b) ∧ m ≤ x * x + y * y - m ∧ Wo a b c x y = a * (x * x + y * y - m) + e * m + (c - a) * (y * y) := by
  have h0 : x * y ≠ 0 := Int.mul_ne_zero hx hy
  have h1 := sq_nonneg (x - y)
  have h2 := sq_nonneg (x + y)
  have lo := L.lo
  have hi := L.hi
  rcases Int.lt_or_gt_of_ne h0 with h | h
  · refine ⟨-(x * y), a - b, by omega, by omega, .inr ⟨by omega, rfl⟩, by grind, ?_⟩
    unfold Wo; grind
  · refine ⟨x * y, a + b, by omega, by omega, .inl ⟨rfl, rfl⟩, by grind, ?_⟩
    unfold Wo; grind
theorem sum3 {u v w : Int} (hu : 0 ≤ u) (hv : 0 ≤ v) (hw : 0 ≤ w) (h : u + v + w = 0) : u = 0 ∧ v = 0 ∧ w = 0 := by omega
theorem sum2 {u v : Int} (hu : 0 ≤ u) (hv : 0 ≤ v) (h : u + 4 * v = 0) : u = 0 := by omega
theorem mul_nn {x y : Int} (hx : 0 ≤ x) (hy : 0 ≤ y) : 0 ≤ x * y := Int.mul_nonneg hx hy
theorem worth_ge_a {a b c x y : Int} (ha : 0 < a) (L : Least a b c) (h : x ≠ 0 ∨ y ≠ 0) : a ≤ Wo a b c x y := by
  have ac := L.ac
  by_cases hy : y = 0
  · subst hy
    have hx : x ≠ 0 := by omega
    have := Int.mul_le_mul_of_nonneg_left (sq_pos hx) (Int.le_of_lt ha)
    unfold Wo; grind
  · by_cases hx : x = 0
    · subst hx
      have := Int.mul_le_mul_of_nonneg_left (sq_pos hy) (show 0 ≤ c by omega)
      unfold Wo; grind
    · obtain ⟨m, e, h1, h2, _, h4, h5⟩ := worth_ge ha L hx hy
      have t1 := mul_nn (Int.le_of_lt ha) (show 0 ≤ x * x + y * y - m - 1 by omega)
      have t2 := mul_nn h2 (show 0 ≤ m by omega)
      have t3 := mul_nn (show 0 ≤ c - a by omega) (sq_nonneg y)
      rw [h5]
      grind
/-- where it is worth just its first number -/
theorem worth_eq_a {a b c x y : Int} (ha : 0 < a) (L : Least a b c) (hx : x ≠ 0) (hy : y ≠ 0) (h : Wo a b c x y = a) : a = c ∧ b = a ∧ x * y = -1 := by
  obtain ⟨m, e, h1, h2, h3, h4, h5⟩ := worth_ge ha L hx hy
  have ac := L.ac
  have lo := L.lo
  have t1 := mul_nn (Int.le_of_lt ha) (show 0 ≤ x * x + y * y - m - 1 by omega)
  have t2 := mul_nn h2 (show 0 ≤ m by omega)
  have t3 := mul_nn (show 0 ≤ c - a by omega) (sq_nonneg y)
  rw [h5] at h
  obtain ⟨s1, s2, s3⟩ := sum3 t1 t2 t3 (by grind)
  have e0 : e = 0 := by
    rcases Int.mul_eq_zero.mp s2 with z | z
    · exact z
    · omega
  have c0 : c - a = 0 := by
    rcases Int.mul_eq_zero.mp s3 with z | z
    · exact z
    · have := sq_pos hy; omega
  have q0 : x * x + y * y - m - 1 = 0 := by
    rcases Int.mul_eq_zero.mp s1 with z | z
    · omega
    · exact z
  have m1 : m = 1 := by omega
  rcases h3 with ⟨g1, g2⟩ | ⟨g1, g2⟩
  · omega
  · exact ⟨by omega, by omega, by omega⟩
/-- a multiple of 2 a that lies near nought -/
theorem near_mod {a b b' k : Int} (ha : 0 < a) (h : b' = b + 2 * a * k) (l1 : -a < b) (l2 : b ≤ a) (l3 : -a < b') (l4 : b' ≤ a) : k = 0 := by
  have h1 : a * (2 * k) = b' - b := by grind
  rcases (show k = 0 ∨ 1 ≤ k ∨ k ≤ -1 by omega) with z | z | z
  · exact z
  · have := Int.mul_le_mul_of_nonneg_left (show (2 : Int) ≤ 2 * k by omega) (Int.le_of_lt ha)
    omega
  · have := Int.mul_le_mul_of_nonneg_left (show 2 * k ≤ (-2 : Int) by omega) (Int.le_of_lt ha)
    omega
/-- led by a turning whose first number is no greater: the very same -/
theorem least_le {a b c a' b' c' p q r s : Int} (ha : 0 < a) (ha' : 0 < a') (L : Least a b c) (L' : Least a' b' c') (det : p * s - q * r = 1)
    (e1 : a' = Wo a b c p r) (e2 : b' = 2 * a * p * q + b * (p * s + q * r) + 2 * c * r * s) (e3 : c' = Wo a b c q s) (le : a' ≤ a) : a' = a ∧ b' = b ∧ c' = c := by
  have bar : b' * b' - 4 * a' * c' = b * b - 4 * a * c := by rw [e1, e2, e3]; unfold Wo; grind
  have lo := L.lo
  have hi := L.hi
  have ac := L.ac
  have lo' := L'.lo
  have hi' := L'.hi
  have ac' := L'.ac
  have ge : a ≤ a' := by
    rw [e1]
    refine worth_ge_a ha L ?_
    by_cases hp : p = 0
    · refine .inr fun hr => ?_
      rw [hp, hr] at det
      simp at det
    · exact .inl hp
  have ea : a' = a := by omega
  subst ea
  have fin : b' = b → a' = a' ∧ b' = b ∧ c' = c := fun z => ⟨rfl, z, by
    subst z
    have : a' * (4 * (c' - c)) = 0 := by grind
    rcases Int.mul_eq_zero.mp this with w | w <;> omega⟩
  by_cases hr : r = 0
  · -- a shift
    subst hr
    have ps : p * s = 1 := by omega
    have e2' : b' = b + 2 * a' * (p * q) := by grind
    have := near_mod ha e2' lo hi lo' hi'
    exact fin (by rw [e2', this]; omega)
  · by_cases hp : p = 0
    · -- the ends change places
      subst hp
      have qr : q * r = -1 := by omega
      have rr : r * r = 1 := by
        have h1 : q * q * (r * r) = 1 := by grind
        have h2 := sq_pos hr
        have h3 := sq_nonneg q
        have h4 : q * q ≠ 0 := by intro z; rw [z] at h1; simp at h1
        have h5 : 0 ≤ (q * q - 1) * (r * r) := mul_nn (by omega) (by omega)
        have h6 : 0 ≤ (r * r - 1) * (q * q) := mul_nn (by omega) h3
        grind
      have ca : c = a' := by unfold Wo at e1; grind
      have b0 : 0 ≤ b := L.eq ca.symm
      have e2' : b' = -b + 2 * a' * (r * s) := by grind
      by_cases hb : b = a'
      · -- (a, a, a)
        have : b' * b' - 4 * a' * c' = a' * a' - 4 * a' * a' := by rw [bar, hb, ca]
        have t1 := mul_nn (show 0 ≤ a' - b' by omega) (show 0 ≤ a' + b' by omega)
        have t2 := mul_nn (Int.le_of_lt ha) (show 0 ≤ c' - a' by omega)
        have s1 : (a' - b') * (a' + b') = 0 := sum2 t1 t2 (by grind)
        rcases Int.mul_eq_zero.mp s1 with w | w
        · exact fin (by omega)
        · omega
      · have := near_mod ha e2' (by omega) (by omega) lo' hi'
        rw [this] at e2'
        have e4 : b' = -b := by omega
        have : a' * (4 * (c' - c)) = 0 := by rw [e4] at bar; grind
        have ec : c' = c := by rcases Int.mul_eq_zero.mp this with w | w <;> omega
        have b0' := L'.eq (by omega)
        exact fin (by omega)
    · -- (a, a, a)
      obtain ⟨g1, g2, g3⟩ := worth_eq_a ha L hp hr e1.symm
      have : b' * b' - 4 * a' * c' = a' * a' - 4 * a' * a' := by rw [bar, g2, ← g1]
      have t1 := mul_nn (show 0 ≤ a' - b' by omega) (show 0 ≤ a' + b' by omega)
      have t2 := mul_nn (Int.le_of_lt ha) (show 0 ≤ c' - a' by omega)
      have s1 : (a' - b') * (a' + b') = 0 := sum2 t1 t2 (by grind)
      rcases Int.mul_eq_zero.mp s1 with w | w
      · exact fin (by omega)
      · omega
/-- one form has just one least form -/
theorem least_unique {a b c a' b' c' p q r s : Int} (ha : 0 < a) (ha' : 0 < a') (L : Least a b c) (L' : Least a' b' c') (det : p * s - q * r = 1)
    (e1 : a' = Wo a b c p r) (e2 : b' = 2 * a * p * q + b * (p * s + q * r) + 2 * c * r * s) (e3 : c' = Wo a b c q s) : a' = a ∧ b' = b ∧ c' = c := by
  by_cases h : a' ≤ a
  · exact least_le ha ha' L L' det e1 e2 e3 h
  · -- the way back
    have det' : s * p - (-q) * (-r) = 1 := by grind
    have f1 : a = Wo a' b' c' s (-r) := by rw [e1, e2, e3]; unfold Wo; grind
    have f2 : b = 2 * a' * s * (-q) + b' * (s * p + (-q) * (-r)) + 2 * c' * (-r) * p := by rw [e1, e2, e3]; unfold Wo; grind
    have f3 : c = Wo a' b' c' (-q) p := by rw [e1, e2, e3]; unfold Wo; grind
    obtain ⟨g1, g2, g3⟩ := least_le ha' ha L' L det' f1 f2 f3 (by omega)
    exact ⟨g1.symm, g2.symm, g3.symm⟩
end MT
namespace MT
theorem wo_pos {a b c x y : Int} (ha : 0 < a) (hd : b * b - 4 * a * c < 0) (h : x ≠ 0 ∨ y ≠ 0) : 0 < Wo a b c x y := by
  have e : 4 * (a * Wo a b c x y) = (2 * a * x + b * y) * (2 * a * x + b * y) + (4 * a * c - b * b) * (y * y) := by unfold Wo; grind
  have s1 := sq_nonneg (2 * a * x + b * y)
  have key : 0 < a * Wo a b c x y := by
    by_cases hy : y = 0
    · subst hy
      have hx : x ≠ 0 := by omega
      have h1 := sq_pos hx
      have h2 : 0 < a * (x * x) := Int.mul_pos ha (by omega)
      have h3 : 0 < a * (a * (x * x)) := Int.mul_pos ha h2
      unfold Wo
      grind
    · have h1 := sq_pos hy
      have h2 : 0 < (4 * a * c - b * b) * (y * y) := Int.mul_pos (by omega) (by omega)
      omega
  by_cases z : 0 < Wo a b c x y
  · exact z
  · have : a * Wo a b c x y ≤ 0 := Int.mul_nonpos_of_nonneg_of_nonpos (Int.le_of_lt ha) (by omega)
    omega
/-- least, as an answer -/
def leastB (a b c : Int) : Bool := decide (-a < b) && decide (b ≤ a) && decide (a ≤ c) && (decide (a ≠ c) || decide (0 ≤ b))
theorem leastB_iff {a b c : Int} : leastB a b c = true ↔ Least a b c := by
  unfold leastB
  simp only [Bool.and_eq_true, Bool.or_eq_true, decide_eq_true_eq]
  constructor
  · rintro ⟨⟨⟨h1, h2⟩, h3⟩, h4⟩
    exact ⟨h1, h2, h3, fun z => by rcases h4 with h | h <;> omega⟩
  · rintro ⟨h1, h2, h3, h4⟩
    refine ⟨⟨⟨h1, h2⟩, h3⟩, ?_⟩
    by_cases z : a = c
    · exact .inr (h4 z)
    · exact .inl z
/-- the numbers of a least form are no greater than its bar -/
theorem least_small {a b c : Int} (ha : 0 < a) (L : Least a b c) : a ≤ 4 * a * c - b * b ∧ c ≤ 4 * a * c - b * b ∧ b.natAbs ≤ (4 * a * c - b * b).natAbs := by
  have lo := L.lo
  have hi := L.hi
  have ac := L.ac
  have h1 := mul_nn (show 0 ≤ a - b by omega) (show 0 ≤ a + b by omega)
  have h2 := mul_nn (Int.le_of_lt ha) (show 0 ≤ c - a by omega)
  have h3 := mul_nn (show 0 ≤ a - 1 by omega) (show 0 ≤ c by omega)
  have h4 : 3 * (a * c) ≤ 4 * a * c - b * b := by grind
  have h5 : c ≤ a * c := by grind
  omega
/-- the numbers of a turning, by the form that it leads from and what comes -/
theorem turn_small {a b c x y v : Int} (ha : 0 < a) (hd : b * b - 4 * a * c < 0) (e : v = Wo a b c x y) : y * y ≤ 4 * (a * v) ∧ (2 * a * x + b * y) * (2 * a * x + b * y) ≤ 4 * (a * v) := by
  have e1 : 4 * (a * v) = (2 * a * x + b * y) * (2 * a * x + b * y) + (4 * a * c - b * b) * (y * y) := by rw [e]; unfold Wo; grind
  have s1 := sq_nonneg (2 * a * x + b * y)
  have s2 := mul_nn (show 0 ≤ 4 * a * c - b * b - 1 by omega) (sq_nonneg y)
  have s3 : (4 * a * c - b * b) * (y * y) = (4 * a * c - b * b - 1) * (y * y) + y * y := by grind
  have s4 := sq_nonneg y
  omega
end MT
namespace MT
theorem z_small {x y z : Int} (hx : 0 < x) (h1 : -x ≤ y) (h2 : y ≤ x) (hd : y * y - 4 * x * z < 0) : 0 < z ∧ 4 * z ≤ x - (y * y - 4 * x * z) := by
  have t1 := mul_nn (show 0 ≤ x - y by omega) (show 0 ≤ x + y by omega)
  have t2 := mul_nn (show 0 ≤ x - 1 by omega) (show 0 ≤ -(y * y - 4 * x * z) by omega)
  constructor
  · by_cases hz : 0 < z
    · exact hz
    · have := mul_nn (Int.le_of_lt hx) (show 0 ≤ -z by omega)
      have := sq_nonneg y
      grind
  · refine Int.le_of_mul_le_mul_left (a := x) ?_ hx
    grind
/-- a measure of how far a form is from a least one -/
def meas (x y z : Int) : Nat := 3 * x.natAbs + (if -x < y ∧ y ≤ x then (if x = z ∧ y < 0 then 1 else 0) else 2)
end MT

/-! MO: a least form's own turnings -/
namespace MT
end MT

/-! CM: what the laws of this program have in common, without a row: promises of defs, what the script draws -/
namespace CM
open PySem PySem.Spec L2 FL
/-! ### formturn.whole -/
def p_is_whole (ds : List D) (d : D) : Prop := ∃ i : Int, ds = [.int i] ∧ d = .bl true
def p_is_whole_tuple (ds : List D) (d : D) : Prop := ∃ ns : List Int, ds = [.tup (ns.map D.int), .int (ns.length : Int)] ∧ ns.length ≤ 1000 ∧ d = .bl true
def p_common_divisor (ds : List D) (d : D) : Prop := ∃ a b : Int, ds = [.int a, .int b] ∧ d = .int (Int.gcd a b : Int)
/-! ### formturn.forms -/
def p_bar_of_numbers (ds : List D) (d : D) : Prop := ∃ a b c : Int, ds = [.int a, .int b, .int c] ∧ Bd a 8000 ∧ Bd b 8000 ∧ Bd c 8000 ∧ d = .int (b * b - 4 * a * c)
/-- the numbers of a form, of moderate size -/
structure FormN (a b c : Int) : Prop where
  pos : 0 < a
  bar : b * b - 4 * a * c < 0
  sa : Bd a 8000
  sb : Bd b 8000
  sc : Bd c 8000
abbrev formD (a b c : Int) : D := .tup [.int a, .int b, .int c]
def p_is_form (ds : List D) (d : D) : Prop := ∃ a b c : Int, ds = [formD a b c] ∧ FormN a b c ∧ d = .bl true
def p_require_form (ds : List D) (d : D) : Prop := ∃ a b c : Int, ds = [formD a b c] ∧ FormN a b c ∧ d = .non
def p_bar_of (ds : List D) (d : D) : Prop := ∃ a b c : Int, ds = [formD a b c] ∧ FormN a b c ∧ d = .int (b * b - 4 * a * c)
def p_is_bare (ds : List D) (d : D) : Prop := ∃ a b c : Int, ds = [formD a b c] ∧ FormN a b c ∧ d = .bl (decide ((Int.gcd (Int.gcd a b) c : Int) = 1))
/-! ### the law's own defs -/
def p_law_ints (ds : List D) (d : D) : Prop := ∃ ns : List Int, ds = [.tup (ns.map D.int), .int (ns.length : Int)] ∧ d = .bl true
/-- a cell of the script -/
abbrev cell (ns : List Int) (k : Nat) : Int := ns.getD k 0
abbrev scrD (ns : List Int) : D := .ls (ns.map D.int)
def p_law_cell_at (ds : List D) (d : D) : Prop := ∃ (ns : List Int) (k : Nat), ds = [scrD ns, .int (k : Int)] ∧ d = .int (cell ns k)
def p_law_worth (ds : List D) (d : D) : Prop := ∃ a b c x y : Int, ds = [formD a b c, .tup [.int x, .int y]] ∧ Bd a 8000 ∧ Bd b 8000 ∧ Bd c 8000 ∧ Bd x 8000 ∧ Bd y 8000 ∧ d = .int (a * x * x + b * x * y + c * y * y)
def Sizes (ns : List Int) : Prop := ∀ k : Nat, Bd (cell ns k) 1048576
def p_law_divisor (ds : List D) (d : D) : Prop := ∃ a b : Int, ds = [.int a, .int b] ∧ d = .int (Int.gcd a b : Int)
theorem fz_ints (ns : List Int) : Fz (.tup (ns.map D.int)) := .tup fun d hd => by
  obtain ⟨z, _, rfl⟩ := List.mem_map.mp hd
  exact .int z
theorem fz3 (a b c : Int) : Fz (formD a b c) := fz_ints [a, b, c]
def p_law (ds : List D) (d : D) : Prop := ∃ ns : List Int, ds = [scrD ns] ∧ ns.length ≤ 63 ∧ Sizes ns ∧ d = .bl true
theorem law_sp (ns : List Int) (hl : ns.length ≤ 63) (hb : ∀ z ∈ ns, Builtin.Int.intBits z ≤ 1048576) : p_law [.ls (ns.map D.int)] (.bl true) := by
  refine ⟨ns, rfl, hl, fun k => ⟨?_⟩, rfl⟩
  by_cases h : k < ns.length
  · have e : cell ns k = ns[k] := by simp [cell, List.getD, List.getElem?_eq_getElem h]
    rw [e]
    exact hb _ (List.getElem_mem h)
  · have e : cell ns k = 0 := by simp [cell, List.getD, List.getElem?_eq_none (Nat.le_of_not_lt h)]
    rw [e]
    exact Nat.le_trans (bd_0).lt (by decide)
/-- what the built-in names mean -/
structure Tx (mg : Str → Option Value) : Prop where
  abs : mg "abs" = none
  all : mg "all" = none
  any : mg "any" = none
  bool : mg "bool" = none
  dict : mg "dict" = none
  enumerate : mg "enumerate" = none
  int : mg "int" = none
  isi : mg "isinstance" = none
  len : mg "len" = none
  list : mg "list" = none
  max : mg "max" = none
  min : mg "min" = none
  range : mg "range" = none
  reversed : mg "reversed" = none
  sorted : mg "sorted" = none
  str : mg "str" = none
  sum : mg "sum" = none
  tuple : mg "tuple" = none
  zip : mg "zip" = none

/-! ### turnings -/
abbrev turD (p q r s : Int) : D := .tup [.int p, .int q, .int r, .int s]
abbrev plD (x y : Int) : D := .tup [.int x, .int y]
def p_law_sent (ds : List D) (d : D) : Prop := ∃ p q r s x y : Int, ds = [turD p q r s, plD x y] ∧ Bd p 8000 ∧ Bd q 8000 ∧ Bd r 8000 ∧ Bd s 8000 ∧ Bd x 8000 ∧ Bd y 8000 ∧ d = plD (p * x + q * y) (r * x + s * y)
/-- a form led by a turning -/
abbrev wo (a b c x y : Int) : Int := a * x * x + b * x * y + c * y * y
/-! ### a part of the script -/
/-! ### formturn.turning -/
structure TurnN (p q r s : Int) : Prop where
  det : p * s - q * r = 1
  sp : Bd p 7000
  sq : Bd q 7000
  sr : Bd r 7000
  ss : Bd s 7000
theorem turned_worth (a b c p q r s x y : Int) : wo (wo a b c p r) (2 * a * p * q + b * (p * s + q * r) + 2 * c * r * s) (wo a b c q s) x y = wo a b c (p * x + q * y) (r * x + s * y) := by grind
/-! ### least forms -/
/-- a form whose bar is of moderate size too -/
structure FormS (a b c : Int) : Prop where
  pos : 0 < a
  bar : b * b - 4 * a * c < 0
  sa : Bd a 3000
  sb : Bd b 3000
  sc : Bd c 3000
  sd : Bd (b * b - 4 * a * c) 1200
theorem FormS.n {a b c : Int} (h : FormS a b c) : FormN a b c := ⟨h.pos, h.bar, h.sa.up _ (by decide), h.sb.up _ (by decide), h.sc.up _ (by decide)⟩
/-- the turning leads from the first form to the second -/
structure Leads (a b c p q r s a' b' c' : Int) : Prop where
  det : p * s - q * r = 1
  e1 : a' = MT.Wo a b c p r
  e2 : b' = 2 * a * p * q + b * (p * s + q * r) + 2 * c * r * s
  e3 : c' = MT.Wo a b c q s
theorem Leads.bar {a b c p q r s a' b' c' : Int} (h : Leads a b c p q r s a' b' c') : b' * b' - 4 * a' * c' = b * b - 4 * a * c := by
  rw [h.e1, h.e2, h.e3]
  have := h.det
  unfold MT.Wo
  grind
theorem Leads.trans {a b c p q r s a' b' c' x y z v a2 b2 c2 : Int} (h : Leads a b c p q r s a' b' c') (g : Leads a' b' c' x y z v a2 b2 c2) : Leads a b c (p * x + q * z) (p * y + q * v) (r * x + s * z) (r * y + s * v) a2 b2 c2 := by
  have d1 := h.det
  have d2 := g.det
  refine ⟨by grind, ?_, ?_, ?_⟩
  · rw [g.e1, h.e1, h.e2, h.e3]; unfold MT.Wo; grind
  · rw [g.e2, h.e1, h.e2, h.e3]; unfold MT.Wo; grind
  · rw [g.e3, h.e1, h.e2, h.e3]; unfold MT.Wo; grind
theorem Leads.back {a b c p q r s a' b' c' : Int} (h : Leads a b c p q r s a' b' c') : Leads a' b' c' s (-q) (-r) p a b c := by
  have d := h.det
  refine ⟨by grind, ?_, ?_, ?_⟩
  · rw [h.e1, h.e2, h.e3]; unfold MT.Wo; grind
  · rw [h.e1, h.e2, h.e3]; unfold MT.Wo; grind
  · rw [h.e1, h.e2, h.e3]; unfold MT.Wo; grind
/-- the column of a turning, by the size of what it makes -/
theorem col_bd {a b c x y v : Int} {n k : Nat} (ha : 0 < a) (hd : b * b - 4 * a * c < 0) (sa : Bd a 3000) (sb : Bd b 3000) (sv : Bd v n) (e : v = MT.Wo a b c x y) (hk : 3003 + n ≤ k + k) : Bd y k ∧ Bd x (3002 + k) := by
  obtain ⟨h1, h2⟩ := MT.turn_small ha hd e
  have s4 : Bd (4 * (a * v)) (k + k) := Bd.mul bd_4 (Bd.mul sa sv (3000 + n) (Nat.le_refl _)) _ (by omega)
  have by' : Bd y k := Bd.sqrt h1 s4
  have bz : Bd (2 * a * x + b * y) k := Bd.sqrt h2 s4
  refine ⟨by', Bd.factor ha ?_⟩
  have e2 : 2 * a * x = (2 * a * x + b * y) - b * y := by omega
  rw [e2]
  exact Bd.sub bz (Bd.mul sb by' (3000 + k) (Nat.le_refl _)) _ (by omega)
def pre_form (ds : List D) : Prop := ∃ a b c : Int, ds = [formD a b c] ∧ FormS a b c
def post_least_of (ds : List D) (d : D) : Prop := ∀ a b c : Int, ds = [formD a b c] → ∃ a' b' c' p q r s : Int, d = .tup [formD a' b' c', turD p q r s] ∧ MT.Least a' b' c' ∧ FormS a' b' c' ∧ TurnN p q r s ∧ Leads a b c p q r s a' b' c'
def p_is_least (ds : List D) (d : D) : Prop := ∃ a b c : Int, ds = [formD a b c] ∧ FormN a b c ∧ d = .bl (MT.leastB a b c)
/-- the sizes of a least form, by its bar -/
theorem least_bd {a b c : Int} (ha : 0 < a) (L : MT.Least a b c) (hd : b * b - 4 * a * c < 0) (sd : Bd (b * b - 4 * a * c) 1200) : FormS a b c := by
  obtain ⟨h1, h2, h3⟩ := MT.least_small ha L
  have ac := L.ac
  have up : ∀ {z : Int}, z.natAbs ≤ (b * b - 4 * a * c).natAbs → Bd z 3000 := fun h => (sd.le h).up _ (by decide)
  exact ⟨ha, hd, up (by omega), up (by omega), up (by omega), sd⟩
theorem fz_pair {d e : D} (h1 : Fz d) (h2 : Fz e) : Fz (.tup [d, e]) := .tup fun x hx => by
  simp only [List.mem_cons, List.not_mem_nil, or_false] at hx
  rcases hx with rfl | rfl
  · exact h1
  · exact h2
theorem fz_post {ds : List D} {d : D} {a b c : Int} (hd : ds = [formD a b c]) (h : post_least_of ds d) : Fz d := by
  obtain ⟨a', b', c', p, q, r, s, rfl, _⟩ := h a b c hd
  exact fz_pair (fz3 _ _ _) (fz_ints [_, _, _, _])
/-- the form in a slot -/
def measAt (ρ : Ro) (i : Nat) : Nat := match ρ[i]? with
  | some (some (.tup [.int x, .int y, .int z])) => MT.meas x y z
  | _ => 0
theorem Leads.turn {a b c p q r s x y z : Int} (h : Leads a b c p q r s x y z) (f : FormS a b c) (g : FormS x y z) : TurnN p q r s := by
  obtain ⟨h1, h2⟩ := col_bd (k := 3002) f.pos f.bar f.sa f.sb g.sa h.e1 (by decide)
  obtain ⟨h3, h4⟩ := col_bd (k := 3002) f.pos f.bar f.sa f.sb g.sc h.e3 (by decide)
  exact ⟨h.det, h2.up _ (by decide), h4.up _ (by decide), h1.up _ (by decide), h3.up _ (by decide)⟩
theorem bd_quarter {z w : Int} {k : Nat} (hz : 0 < z) (h : 4 * z ≤ w) (hw : Bd w (k + 1)) : Bd z k := by
  refine .of_lt ?_
  have h1 := intBits_le_iff.mp hw.lt
  rw [Nat.pow_succ] at h1
  generalize 2 ^ k = m at *
  omega
/-- a shift of the middle number into its bounds -/
theorem shift_ok {x y z : Int} (f : FormS x y z) : ∃ y' z' : Int, y' = y + 2 * x * ((x - y) / (2 * x)) ∧ -x < y' ∧ y' ≤ x ∧ Leads x y z 1 ((x - y) / (2 * x)) 0 1 x y' z' ∧ FormS x y' z' := by
  have hx := f.pos
  generalize hk : (x - y) / (2 * x) = k
  have h1 : (x - y) = 2 * x * k + (x - y) % (2 * x) := by rw [← hk]; exact (Int.mul_ediv_add_emod (x - y) (2 * x)).symm
  have h2 := Int.emod_nonneg (x - y) (show 2 * x ≠ 0 by omega)
  have h3 := Int.emod_lt_of_pos (x - y) (show 0 < 2 * x by omega)
  have lo : -x < y + 2 * x * k := by omega
  have hi : y + 2 * x * k ≤ x := by omega
  have L : Leads x y z 1 k 0 1 x (y + 2 * x * k) (x * k * k + y * k + z) := by
    refine ⟨by omega, ?_, ?_, ?_⟩ <;> (try unfold MT.Wo) <;> grind
  have bar := L.bar
  refine ⟨_, _, rfl, lo, hi, L, hx, by rw [bar]; exact f.bar, f.sa, f.sa.le (by omega), ?_, by rw [bar]; exact f.sd⟩
  obtain ⟨z0, z1⟩ := MT.z_small hx (by omega) hi (by rw [bar]; exact f.bar)
  rw [bar] at z1
  exact bd_quarter z0 z1 (Bd.sub f.sa (f.sd.up 3000 (by decide)) _ (by decide))
/-- the ends change places -/
theorem swap_ok {x y z : Int} (f : FormS x y z) (hz : 0 < z) : Leads x y z 0 (-1) 1 0 z (-y) x ∧ FormS z (-y) x := by
  have L : Leads x y z 0 (-1) 1 0 z (-y) x := by
    refine ⟨by omega, ?_, ?_, ?_⟩ <;> (try unfold MT.Wo) <;> grind
  have bar := L.bar
  exact ⟨L, hz, by rw [bar]; exact f.bar, f.sc, ⟨intBits_neg_le f.sb.lt⟩, f.sa, by rw [bar]; exact f.sd⟩
theorem FormS.zpos {x y z : Int} (f : FormS x y z) : 0 < z := by
  have h1 := f.pos
  have h2 := f.bar
  by_cases hz : 0 < z
  · exact hz
  · have := MT.mul_nn (Int.le_of_lt h1) (show 0 ≤ -z by omega)
    have := MT.sq_nonneg y
    grind
/-! ### a drawn least form -/
/-! ### two forms alike -/
end CM

/-! C7: a form's own turnings, its smallest worth -/
namespace CM
open PySem PySem.Spec L2 FL FT
end CM
namespace CM
open PySem PySem.Spec L2 FL FT
end CM
namespace CM
open PySem PySem.Spec L2 FL FT
def isL : Option D → Bool
  | some (.lst _ _) => true
  | _ => false
theorem others_of {ρ : Ro} {n : Nat} (h : (ρ.set n none).any isL = false) {l : Addr} : ∀ (j : Nat) (es : List D), j ≠ n → ρ[j]? ≠ some (some (.lst l es)) := fun j es hj e => by
  have : (ρ.set n none)[j]? = some (some (.lst l es)) := by rw [List.getElem?_set_ne (fun z => hj z.symm)]; exact e
  have m := List.mem_of_getElem? this
  rw [List.any_eq_false] at h
  exact absurd rfl (h _ m)
end CM
namespace CM
open PySem PySem.Spec L2 FL FT
end CM
namespace CM
open PySem PySem.Spec L2 FL FT
end CM

/-! C8: the steps towards a least form -/
namespace CM
open PySem PySem.Spec L2 FL FT
def p_stepped (ds : List D) (d : D) : Prop := ∃ a b c k : Int, ds = [formD a b c, .int k] ∧ Bd a 8000 ∧ Bd b 8000 ∧ Bd k 8000 ∧ d = formD a (b + 2 * a * k) (c + k * (b + a * k))
def p_behind_step (ds : List D) (d : D) : Prop := ∃ p q r s k : Int, ds = [turD p q r s, .int k] ∧ Bd p 8000 ∧ Bd r 8000 ∧ Bd k 8000 ∧ d = turD p (q + p * k) r (s + r * k)
def p_swapped (ds : List D) (d : D) : Prop := ∃ a b c : Int, ds = [formD a b c] ∧ d = formD c (-b) a
def p_behind_swap (ds : List D) (d : D) : Prop := ∃ p q r s : Int, ds = [turD p q r s] ∧ d = turD q (-p) s (-r)
def p_step_to_middle (ds : List D) (d : D) : Prop := ∃ a b c : Int, ds = [formD a b c] ∧ 0 < a ∧ Bd a 8000 ∧ d = .int ((a - b) / (2 * a))
theorem Leads.stepK {a b c p q r s x y z : Int} (h : Leads a b c p q r s x y z) (k : Int) : Leads a b c p (q + p * k) r (s + r * k) x (y + 2 * x * k) (z + k * (y + x * k)) := by
  have d := h.det
  refine ⟨by grind, h.e1, ?_, ?_⟩
  · rw [h.e2, h.e1]; unfold MT.Wo; grind
  · rw [h.e3, h.e2, h.e1]; unfold MT.Wo; grind
theorem Leads.swapK {a b c p q r s x y z : Int} (h : Leads a b c p q r s x y z) : Leads a b c q (-p) s (-r) z (-y) x := by
  have d := h.det
  refine ⟨by grind, h.e3, ?_, ?_⟩
  · rw [h.e2]; grind
  · rw [h.e1]; unfold MT.Wo; grind
theorem shift_S {x y z : Int} (f : FormS x y z) : -x < y + 2 * x * ((x - y) / (2 * x)) ∧ y + 2 * x * ((x - y) / (2 * x)) ≤ x ∧ FormS x (y + 2 * x * ((x - y) / (2 * x))) (z + ((x - y) / (2 * x)) * (y + x * ((x - y) / (2 * x)))) ∧ Bd ((x - y) / (2 * x)) 7000 := by
  obtain ⟨y', z', ey, lo, hi, L, g⟩ := shift_ok f
  have t := L.turn f g
  generalize (x - y) / (2 * x) = k at *
  have ez : z' = z + k * (y + x * k) := by rw [L.e3]; unfold MT.Wo; grind
  subst ey ez
  exact ⟨lo, hi, g, t.sq⟩
def meas2At (x y : Int) : Nat := (2 * x + if y < 0 then 1 else 0).toNat
def meas2 (ρ : Ro) (i : Nat) : Nat := match ρ[i]? with
  | some (some (.tup [.int x, .int y, .int _])) => meas2At x y
  | _ => 0
theorem meas2_lt {x y z : Int} (hz : 0 < z) (hlo : -x < y) (hk : z < x ∨ x = z ∧ y < 0) : meas2At z (-y + 2 * z * ((z - -y) / (2 * z))) < meas2At x y := by
  unfold meas2At
  rcases hk with h | ⟨rfl, h⟩
  · generalize -y + 2 * z * ((z - -y) / (2 * z)) = w
    have h1 : (if w < 0 then (1 : Int) else 0) ≤ 1 := by split <;> omega
    have h2 : (0 : Int) ≤ if y < 0 then (1 : Int) else 0 := by split <;> omega
    omega
  · have e : (x - -y) / (2 * x) = 0 := Int.ediv_eq_zero_of_lt (by omega) (by omega)
    rw [e, if_pos h, if_neg (by omega)]
    omega
end CM
namespace CM
open PySem PySem.Spec L2 FL FT
end CM
namespace CM
open PySem PySem.Spec L2 FL FT
theorem zpos_of {x y z : Int} (hx : 0 < x) (hd : y * y - 4 * x * z < 0) : 0 < z := by
  refine Int.not_le.mp fun h => ?_
  have h1 := Int.mul_nonpos_of_nonneg_of_nonpos (show 0 ≤ 4 * x by omega) h
  have h2 := MT.sq_nonneg y
  omega
/-- every form is led to a least one -/
theorem least_ex' : ∀ (n : Nat) (a b c : Int), a.toNat ≤ n → 0 < a → b * b - 4 * a * c < 0 → ∃ p q r s x y z : Int, Leads a b c p q r s x y z ∧ MT.Least x y z ∧ 0 < x := by
  intro n
  induction n with
  | zero => intro a b c h ha; omega
  | succ n ih =>
    intro a b c hn ha hd
    have L0 : Leads a b c 1 0 0 1 a b c := by
      refine ⟨by omega, ?_, ?_, ?_⟩ <;> (try unfold MT.Wo) <;> grind
    have L1 := L0.stepK ((a - b) / (2 * a))
    have h1 : (a - b) = 2 * a * ((a - b) / (2 * a)) + (a - b) % (2 * a) := (Int.mul_ediv_add_emod (a - b) (2 * a)).symm
    have h2 := Int.emod_nonneg (a - b) (show 2 * a ≠ 0 by omega)
    have h3 := Int.emod_lt_of_pos (a - b) (show 0 < 2 * a by omega)
    generalize (a - b) / (2 * a) = k at *
    have lo : -a < b + 2 * a * k := by omega
    have hi : b + 2 * a * k ≤ a := by omega
    have bar := L1.bar
    generalize b + 2 * a * k = y at *
    generalize c + k * (b + a * k) = z at *
    have hd' : y * y - 4 * a * z < 0 := by omega
    have z0 := zpos_of ha hd'
    by_cases h : a < z ∨ (a = z ∧ 0 ≤ y)
    · exact ⟨_, _, _, _, a, y, z, L1, ⟨lo, hi, by omega, fun e => by omega⟩, ha⟩
    · have L2 := L1.swapK
      by_cases e : a = z
      · exact ⟨_, _, _, _, z, -y, a, L2, ⟨by omega, by omega, by omega, fun _ => by omega⟩, z0⟩
      · have hd2 : -y * -y - 4 * z * a < 0 := by
          have : -y * -y - 4 * z * a = y * y - 4 * a * z := by grind
          omega
        obtain ⟨p, q, r, s, x', y', z', l, L, px⟩ := ih z (-y) a (by omega) z0 hd2
        exact ⟨_, _, _, _, x', y', z', L2.trans l, L, px⟩
end CM

/-! ME: common divisors with shares -/
namespace ME
theorem bezN (n m : Nat) : ∃ x y : Int, x * n + y * m = (Nat.gcd n m : Nat) := by
  induction n, m using Nat.gcd.induction with
  | H0 n => exact ⟨0, 1, by simp⟩
  | H1 m n hm ih =>
    obtain ⟨x, y, h⟩ := ih
    refine ⟨y - x * (n / m : Nat), x, ?_⟩
    rw [Nat.gcd_rec, ← h]
    have e := Nat.div_add_mod n m
    have e' : (n : Int) = (m : Int) * (n / m : Nat) + (n % m : Nat) := by exact_mod_cast e.symm
    generalize ((n / m : Nat) : Int) = q at *
    generalize ((n % m : Nat) : Int) = r at *
    rw [e']
    grind
theorem bez (a b : Int) : ∃ x y : Int, x * a + y * b = (Int.gcd a b : Nat) := by
  obtain ⟨x, y, h⟩ := bezN a.natAbs b.natAbs
  have e : (Int.gcd a b : Nat) = Nat.gcd a.natAbs b.natAbs := rfl
  rw [e, ← h]
  rcases Int.natAbs_eq a with ha | ha <;> rcases Int.natAbs_eq b with hb | hb
  · exact ⟨x, y, by rw [← ha, ← hb]⟩
  · refine ⟨x, -y, ?_⟩
    have : ((b.natAbs : Nat) : Int) = -b := by omega
    rw [this, ← ha]
    grind
  · refine ⟨-x, y, ?_⟩
    have : ((a.natAbs : Nat) : Int) = -a := by omega
    rw [this, ← hb]
    grind
  · refine ⟨-x, -y, ?_⟩
    have h1 : ((a.natAbs : Nat) : Int) = -a := by omega
    have h2 : ((b.natAbs : Nat) : Int) = -b := by omega
    rw [h1, h2]
    grind
end ME

/-! MJ: the joining of two forms -/
namespace MJ
/-- what a form is worth -/
abbrev W (a b c x y : Int) : Int := a * x * x + b * x * y + c * y * y
/-- the two sums of a joining -/
abbrev S (R0 R1 R2 R3 x y u v : Int) : Int := R0 * x * u + R1 * x * v + R2 * y * u + R3 * y * v
/-- the product of two forms is a third one of two sums; the first two bounds are the forms' first numbers -/
structure Comp (a b c d e f A B C X0 X1 X2 X3 Y0 Y1 Y2 Y3 : Int) : Prop where
  prod : ∀ x y u v : Int, W a b c x y * W d e f u v = W A B C (S X0 X1 X2 X3 x y u v) (S Y0 Y1 Y2 Y3 x y u v)
  m01 : X0 * Y1 - X1 * Y0 = a
  m02 : X0 * Y2 - X2 * Y0 = d
theorem mul_cancel {g x y : Int} (hg : g ≠ 0) (h : g * x = g * y) : x = y := Int.eq_of_mul_eq_mul_left hg h
/-! ### one joint only -/
structure Minors (a b c d e f X0 X1 X2 X3 Y0 Y1 Y2 Y3 : Int) : Prop where
  m01 : X0 * Y1 - X1 * Y0 = a
  m02 : X0 * Y2 - X2 * Y0 = d
  m03 : (X0 * Y3 - X3 * Y0) + (X1 * Y2 - X2 * Y1) = e
  m12 : (X0 * Y3 - X3 * Y0) - (X1 * Y2 - X2 * Y1) = b
  m13 : X1 * Y3 - X3 * Y1 = f
  m23 : X2 * Y3 - X3 * Y2 = c
theorem quart {d e f E F : Int} (hd : d ≠ 0) (h : ∀ u v : Int, W d E F u v * W d E F u v = W d e f u v * W d e f u v) : E = e ∧ F = f := by
  have h1 := h 1 1
  have h2 := h 1 (-1)
  have h3 := h 0 1
  have h4 := h 2 1
  unfold W at h1 h2 h3 h4
  have k1 : d * (E - e) = 0 := by grind
  have e1 : E = e := by
    rcases Int.mul_eq_zero.mp k1 with z | z
    · exact absurd z hd
    · omega
  subst e1
  have k2 : d * (F - f) = 0 := by grind
  rcases Int.mul_eq_zero.mp k2 with z | z
  · exact absurd z hd
  · exact ⟨rfl, by omega⟩
theorem Comp.swap {a b c d e f A B C X0 X1 X2 X3 Y0 Y1 Y2 Y3 : Int} (h : Comp a b c d e f A B C X0 X1 X2 X3 Y0 Y1 Y2 Y3) : Comp d e f a b c A B C X0 X2 X1 X3 Y0 Y2 Y1 Y3 := by
  refine ⟨fun x y u v => ?_, h.m02, h.m01⟩
  have e1 : S X0 X2 X1 X3 x y u v = S X0 X1 X2 X3 u v x y := by unfold S; grind
  have e2 : S Y0 Y2 Y1 Y3 x y u v = S Y0 Y1 Y2 Y3 u v x y := by unfold S; grind
  rw [e1, e2, ← h.prod, Int.mul_comm]
theorem Comp.half {a b c d e f A B C X0 X1 X2 X3 Y0 Y1 Y2 Y3 : Int} (h : Comp a b c d e f A B C X0 X1 X2 X3 Y0 Y1 Y2 Y3) (hd : d ≠ 0) (hD : b * b - 4 * a * c ≠ 0) (e1 : B * B - 4 * A * C = b * b - 4 * a * c) :
    (X0 * Y3 - X3 * Y0) + (X1 * Y2 - X2 * Y1) = e ∧ X1 * Y3 - X3 * Y1 = f := by
  refine quart (d := d) hd fun u v => ?_
  have p1 := h.prod 1 0 u v
  have p2 := h.prod 0 1 u v
  have p3 := h.prod 1 1 u v
  generalize hg : W d e f u v = g at *
  have hm : W d (X0 * Y3 - X3 * Y0 + (X1 * Y2 - X2 * Y1)) (X1 * Y3 - X3 * Y1) u v = (X0 * u + X1 * v) * (Y2 * u + Y3 * v) - (X2 * u + X3 * v) * (Y0 * u + Y1 * v) := by
    unfold W
    rw [← h.m02]
    grind
  rw [hm]
  have a1 : S X0 X1 X2 X3 1 0 u v = X0 * u + X1 * v := by unfold S; grind
  have a2 : S Y0 Y1 Y2 Y3 1 0 u v = Y0 * u + Y1 * v := by unfold S; grind
  have a3 : S X0 X1 X2 X3 0 1 u v = X2 * u + X3 * v := by unfold S; grind
  have a4 : S Y0 Y1 Y2 Y3 0 1 u v = Y2 * u + Y3 * v := by unfold S; grind
  have a5 : S X0 X1 X2 X3 1 1 u v = (X0 * u + X1 * v) + (X2 * u + X3 * v) := by unfold S; grind
  have a6 : S Y0 Y1 Y2 Y3 1 1 u v = (Y0 * u + Y1 * v) + (Y2 * u + Y3 * v) := by unfold S; grind
  rw [a1, a2] at p1
  rw [a3, a4] at p2
  rw [a5, a6] at p3
  generalize X0 * u + X1 * v = P at *
  generalize X2 * u + X3 * v = Q at *
  generalize Y0 * u + Y1 * v = R at *
  generalize Y2 * u + Y3 * v = T at *
  refine mul_cancel hD ?_
  have f1 : a * g = W A B C P R := by rw [← p1]; unfold W; grind
  have f2 : c * g = W A B C Q T := by rw [← p2]; unfold W; grind
  have f3 : b * g = 2 * A * P * Q + B * (P * T + Q * R) + 2 * C * R * T := by
    have : (a + b + c) * g = W A B C (P + Q) (R + T) := by rw [← p3]; unfold W; grind
    unfold W at *
    grind
  have f4 : (b * b - 4 * a * c) * (g * g) = (b * g) * (b * g) - 4 * (a * g) * (c * g) := by grind
  rw [f4, f1, f2, f3, ← e1]
  unfold W
  grind
theorem Comp.minors {a b c d e f A B C X0 X1 X2 X3 Y0 Y1 Y2 Y3 : Int} (h : Comp a b c d e f A B C X0 X1 X2 X3 Y0 Y1 Y2 Y3) (ha : a ≠ 0) (hd : d ≠ 0) (hD : b * b - 4 * a * c ≠ 0) (hE : e * e - 4 * d * f = b * b - 4 * a * c) (e1 : B * B - 4 * A * C = b * b - 4 * a * c) :
    Minors a b c d e f X0 X1 X2 X3 Y0 Y1 Y2 Y3 := by
  obtain ⟨h1, h2⟩ := h.half hd hD e1
  obtain ⟨h3, h4⟩ := h.swap.half ha (by rw [hE]; exact hD) (by rw [hE]; exact e1)
  exact ⟨h.m01, h.m02, h1, by rw [← h3]; grind, h2, h4⟩
/-- the form led by (p, q, r, s) -/
structure Led (a b c p q r s a' b' c' : Int) : Prop where
  det : p * s - q * r = 1
  e1 : a' = W a b c p r
  e2 : b' = 2 * a * p * q + b * (p * s + q * r) + 2 * c * r * s
  e3 : c' = W a b c q s
theorem Led.at {a b c p q r s a' b' c' : Int} (h : Led a b c p q r s a' b' c') (x y : Int) : W a' b' c' x y = W a b c (p * x + q * y) (r * x + s * y) := by
  rw [h.e1, h.e2, h.e3]
  unfold W
  grind
/-- the first form put by an alike one -/
theorem Comp.pull {a b c d e f A B C X0 X1 X2 X3 Y0 Y1 Y2 Y3 p q r s a' b' c' : Int} (h : Comp a b c d e f A B C X0 X1 X2 X3 Y0 Y1 Y2 Y3) (m : Minors a b c d e f X0 X1 X2 X3 Y0 Y1 Y2 Y3) (l : Led a b c p q r s a' b' c') :
    Comp a' b' c' d e f A B C (X0 * p + X2 * r) (X1 * p + X3 * r) (X0 * q + X2 * s) (X1 * q + X3 * s) (Y0 * p + Y2 * r) (Y1 * p + Y3 * r) (Y0 * q + Y2 * s) (Y1 * q + Y3 * s) := by
  refine ⟨fun x y u v => ?_, ?_, ?_⟩
  · rw [l.at, h.prod]
    have e1 : S X0 X1 X2 X3 (p * x + q * y) (r * x + s * y) u v = S (X0 * p + X2 * r) (X1 * p + X3 * r) (X0 * q + X2 * s) (X1 * q + X3 * s) x y u v := by unfold S; grind
    have e2 : S Y0 Y1 Y2 Y3 (p * x + q * y) (r * x + s * y) u v = S (Y0 * p + Y2 * r) (Y1 * p + Y3 * r) (Y0 * q + Y2 * s) (Y1 * q + Y3 * s) x y u v := by unfold S; grind
    rw [e1, e2]
  · rw [l.e1, ← m.m01, ← m.m12, ← m.m23]
    unfold W
    grind
  · have d := l.det
    rw [← m.m02]
    grind
/-- the joint put by an alike one -/
theorem Comp.target {a b c d e f A B C X0 X1 X2 X3 Y0 Y1 Y2 Y3 p q r s A' B' C' : Int} (h : Comp a b c d e f A B C X0 X1 X2 X3 Y0 Y1 Y2 Y3) (l : Led A B C p q r s A' B' C') :
    Comp a b c d e f A' B' C' (s * X0 + -q * Y0) (s * X1 + -q * Y1) (s * X2 + -q * Y2) (s * X3 + -q * Y3) (-r * X0 + p * Y0) (-r * X1 + p * Y1) (-r * X2 + p * Y2) (-r * X3 + p * Y3) := by
  have d := l.det
  refine ⟨fun x y u v => ?_, ?_, ?_⟩
  · rw [l.at, h.prod]
    have e1 : p * S (s * X0 + -q * Y0) (s * X1 + -q * Y1) (s * X2 + -q * Y2) (s * X3 + -q * Y3) x y u v + q * S (-r * X0 + p * Y0) (-r * X1 + p * Y1) (-r * X2 + p * Y2) (-r * X3 + p * Y3) x y u v = (p * s - q * r) * S X0 X1 X2 X3 x y u v := by unfold S; grind
    have e2 : r * S (s * X0 + -q * Y0) (s * X1 + -q * Y1) (s * X2 + -q * Y2) (s * X3 + -q * Y3) x y u v + s * S (-r * X0 + p * Y0) (-r * X1 + p * Y1) (-r * X2 + p * Y2) (-r * X3 + p * Y3) x y u v = (p * s - q * r) * S Y0 Y1 Y2 Y3 x y u v := by unfold S; grind
    rw [e1, e2, d, Int.one_mul, Int.one_mul]
  · rw [← h.m01]
    have : (s * X0 + -q * Y0) * (-r * X1 + p * Y1) - (s * X1 + -q * Y1) * (-r * X0 + p * Y0) = (p * s - q * r) * (X0 * Y1 - X1 * Y0) := by grind
    rw [this, d, Int.one_mul]
  · rw [← h.m02]
    have : (s * X0 + -q * Y0) * (-r * X2 + p * Y2) - (s * X2 + -q * Y2) * (-r * X0 + p * Y0) = (p * s - q * r) * (X0 * Y2 - X2 * Y0) := by grind
    rw [this, d, Int.one_mul]
/-- two rows with the same bounds: X' is told by X and Y -/
theorem cramer {Xi Xj Xk Yi Yj Yk Xi' Xj' Xk' Yi' Yj' Yk' : Int} (h1 : Xi * Yj - Xj * Yi = Xi' * Yj' - Xj' * Yi') (h2 : Xi * Yk - Xk * Yi = Xi' * Yk' - Xk' * Yi') (h3 : Xj * Yk - Xk * Yj = Xj' * Yk' - Xk' * Yj') :
    (Xi * Yj - Xj * Yi) * Xk' = (Xi' * Yj - Xj' * Yi) * Xk + (Xi * Xj' - Xj * Xi') * Yk := by
  have e : (Xi * Yj - Xj * Yi) * Xk' - ((Xi' * Yj - Xj' * Yi) * Xk + (Xi * Xj' - Xj * Xi') * Yk) = Xk' * (Xi * Yj - Xj * Yi) - Xj' * (Xi * Yk - Xk * Yi) + Xi' * (Xj * Yk - Xk * Yj) := by grind
  rw [h1, h2, h3] at e
  grind
/-- a form that is nought at two places with a bound and at their sum is nought -/
theorem form_zero {α β γ X0 Y0 X1 Y1 a : Int} (ha : a ≠ 0) (hm : X0 * Y1 - X1 * Y0 = a) (h0 : W α β γ X0 Y0 = 0) (h1 : W α β γ X1 Y1 = 0) (h2 : W α β γ (X0 + X1) (Y0 + Y1) = 0) : α = 0 ∧ β = 0 ∧ γ = 0 := by
  have hB : 2 * α * X0 * X1 + β * (X0 * Y1 + X1 * Y0) + 2 * γ * Y0 * Y1 = 0 := by
    unfold W at *
    grind
  have key : ∀ x y : Int, a * a * W α β γ x y = 0 := fun x y => by
    have : a * a * W α β γ x y = (x * Y1 - y * X1) * (x * Y1 - y * X1) * W α β γ X0 Y0 + (x * Y1 - y * X1) * (y * X0 - x * Y0) * (2 * α * X0 * X1 + β * (X0 * Y1 + X1 * Y0) + 2 * γ * Y0 * Y1) + (y * X0 - x * Y0) * (y * X0 - x * Y0) * W α β γ X1 Y1 := by
      rw [← hm]
      unfold W
      grind
    rw [this, h0, h1, hB]
    grind
  have z : ∀ x y : Int, W α β γ x y = 0 := fun x y => by
    rcases Int.mul_eq_zero.mp (key x y) with q | q
    · rcases Int.mul_eq_zero.mp q with q | q <;> exact absurd q ha
    · exact q
  have z1 := z 1 0
  have z2 := z 0 1
  have z3 := z 1 1
  unfold W at z1 z2 z3
  omega
theorem told {X0 X1 X2 X3 Y0 Y1 Y2 Y3 X0' X1' X2' X3' Y0' Y1' Y2' Y3' Xk Yk Xk' Yk' l1 l2 l3 : Int}
    (k01 : X0 * Y1 - X1 * Y0 = X0' * Y1' - X1' * Y0') (k03 : X0 * Y3 - X3 * Y0 = X0' * Y3' - X3' * Y0') (k12 : X1 * Y2 - X2 * Y1 = X1' * Y2' - X2' * Y1') (k23 : X2 * Y3 - X3 * Y2 = X2' * Y3' - X3' * Y2')
    (g0 : X0 * Yk - Xk * Y0 = X0' * Yk' - Xk' * Y0') (g1 : X1 * Yk - Xk * Y1 = X1' * Yk' - Xk' * Y1') (g2 : X2 * Yk - Xk * Y2 = X2' * Yk' - Xk' * Y2') (g3 : X3 * Yk - Xk * Y3 = X3' * Yk' - Xk' * Y3')
    (one : l1 * (X0 * Y1 - X1 * Y0) + l2 * (X0 * Y3 - X3 * Y0) - l2 * (X1 * Y2 - X2 * Y1) + l3 * (X2 * Y3 - X3 * Y2) = 1) :
    Xk' = (l1 * (X0' * Y1 - X1' * Y0) + l2 * (X0' * Y3 - X3' * Y0) - l2 * (X1' * Y2 - X2' * Y1) + l3 * (X2' * Y3 - X3' * Y2)) * Xk + (l1 * (X0 * X1' - X1 * X0') + l2 * (X0 * X3' - X3 * X0') - l2 * (X1 * X2' - X2 * X1') + l3 * (X2 * X3' - X3 * X2')) * Yk := by
  have c1 := cramer k01 g0 g1
  have c2 := cramer k03 g0 g3
  have c3 := cramer k12 g1 g2
  have c4 := cramer k23 g2 g3
  have e : Xk' = (l1 * (X0 * Y1 - X1 * Y0) + l2 * (X0 * Y3 - X3 * Y0) - l2 * (X1 * Y2 - X2 * Y1) + l3 * (X2 * Y3 - X3 * Y2)) * Xk' := by rw [one, Int.one_mul]
  have e2 : (l1 * (X0 * Y1 - X1 * Y0) + l2 * (X0 * Y3 - X3 * Y0) - l2 * (X1 * Y2 - X2 * Y1) + l3 * (X2 * Y3 - X3 * Y2)) * Xk' = l1 * ((X0 * Y1 - X1 * Y0) * Xk') + l2 * ((X0 * Y3 - X3 * Y0) * Xk') - l2 * ((X1 * Y2 - X2 * Y1) * Xk') + l3 * ((X2 * Y3 - X3 * Y2) * Xk') := by grind
  rw [e2, c1, c2, c3, c4] at e
  rw [e]
  grind
/-- ONE JOINT ONLY: two forms that a bare form and another one are joined to are alike -/
theorem comp_one {a b c d e f A B C X0 X1 X2 X3 Y0 Y1 Y2 Y3 A' B' C' X0' X1' X2' X3' Y0' Y1' Y2' Y3' l1 l2 l3 : Int}
    (h : Comp a b c d e f A B C X0 X1 X2 X3 Y0 Y1 Y2 Y3) (h' : Comp a b c d e f A' B' C' X0' X1' X2' X3' Y0' Y1' Y2' Y3') (m : Minors a b c d e f X0 X1 X2 X3 Y0 Y1 Y2 Y3) (m' : Minors a b c d e f X0' X1' X2' X3' Y0' Y1' Y2' Y3')
    (ha : a ≠ 0) (hl : l1 * a + l2 * b + l3 * c = 1) : ∃ p q r s : Int, Led A' B' C' p q r s A B C := by
  obtain ⟨m01, m02, m03, m12, m13, m23⟩ := m
  obtain ⟨n01, n02, n03, n12, n13, n23⟩ := m'
  have k03 : X0 * Y3 - X3 * Y0 = X0' * Y3' - X3' * Y0' := by omega
  have k12 : X1 * Y2 - X2 * Y1 = X1' * Y2' - X2' * Y1' := by omega
  have k01 := m01.trans n01.symm
  have k02 := m02.trans n02.symm
  have k13 := m13.trans n13.symm
  have k23 := m23.trans n23.symm
  have one : l1 * (X0 * Y1 - X1 * Y0) + l2 * (X0 * Y3 - X3 * Y0) - l2 * (X1 * Y2 - X2 * Y1) + l3 * (X2 * Y3 - X3 * Y2) = 1 := by rw [m01, m23, ← hl, ← m12]; grind
  have x0 := told (Xk := X0) (Yk := Y0) (Xk' := X0') (Yk' := Y0') k01 k03 k12 k23 (by omega) (by omega) (by omega) (by omega) one
  have x1 := told (Xk := X1) (Yk := Y1) (Xk' := X1') (Yk' := Y1') k01 k03 k12 k23 (by omega) (by omega) (by omega) (by omega) one
  -- the other row: by Y' and -X'
  have j01 : X0 * Y1 - X1 * Y0 = Y0' * -X1' - Y1' * -X0' := by rw [k01]; grind
  have j03 : X0 * Y3 - X3 * Y0 = Y0' * -X3' - Y3' * -X0' := by rw [k03]; grind
  have j12 : X1 * Y2 - X2 * Y1 = Y1' * -X2' - Y2' * -X1' := by rw [k12]; grind
  have j23 : X2 * Y3 - X3 * Y2 = Y2' * -X3' - Y3' * -X2' := by rw [k23]; grind
  have j02 : X0 * Y2 - X2 * Y0 = Y0' * -X2' - Y2' * -X0' := by rw [k02]; grind
  have j13 : X1 * Y3 - X3 * Y1 = Y1' * -X3' - Y3' * -X1' := by rw [k13]; grind
  have y0 := told (Xk := X0) (Yk := Y0) (Xk' := Y0') (Yk' := -X0') j01 j03 j12 j23 (by omega) (by omega) (by omega) (by omega) one
  have y1 := told (Xk := X1) (Yk := Y1) (Xk' := Y1') (Yk' := -X1') j01 j03 j12 j23 (by omega) (by omega) (by omega) (by omega) one
  generalize l1 * (X0' * Y1 - X1' * Y0) + l2 * (X0' * Y3 - X3' * Y0) - l2 * (X1' * Y2 - X2' * Y1) + l3 * (X2' * Y3 - X3' * Y2) = p at *
  generalize l1 * (X0 * X1' - X1 * X0') + l2 * (X0 * X3' - X3 * X0') - l2 * (X1 * X2' - X2 * X1') + l3 * (X2 * X3' - X3 * X2') = q at *
  generalize l1 * (Y0' * Y1 - Y1' * Y0) + l2 * (Y0' * Y3 - Y3' * Y0) - l2 * (Y1' * Y2 - Y2' * Y1) + l3 * (Y2' * Y3 - Y3' * Y2) = r at *
  generalize l1 * (X0 * Y1' - X1 * Y0') + l2 * (X0 * Y3' - X3 * Y0') - l2 * (X1 * Y2' - X2 * Y1') + l3 * (X2 * Y3' - X3 * Y2') = s at *
  have det : p * s - q * r = 1 := by
    refine mul_cancel ha ?_
    have e1 : X0' * Y1' - X1' * Y0' = (p * s - q * r) * (X0 * Y1 - X1 * Y0) := by rw [x0, x1, y0, y1]; grind
    rw [n01, m01] at e1
    grind
  -- the two forms at the rows' places
  have at_ : ∀ u v : Int, W A B C (X0 * u + X1 * v) (Y0 * u + Y1 * v) = W A' B' C' (p * (X0 * u + X1 * v) + q * (Y0 * u + Y1 * v)) (r * (X0 * u + X1 * v) + s * (Y0 * u + Y1 * v)) := fun u v => by
    have p1 := (h.prod 1 0 u v).symm.trans (h'.prod 1 0 u v)
    have a1 : S X0 X1 X2 X3 1 0 u v = X0 * u + X1 * v := by unfold S; grind
    have a2 : S Y0 Y1 Y2 Y3 1 0 u v = Y0 * u + Y1 * v := by unfold S; grind
    have a3 : S X0' X1' X2' X3' 1 0 u v = p * (X0 * u + X1 * v) + q * (Y0 * u + Y1 * v) := by unfold S; rw [x0, x1]; grind
    have a4 : S Y0' Y1' Y2' Y3' 1 0 u v = r * (X0 * u + X1 * v) + s * (Y0 * u + Y1 * v) := by unfold S; rw [y0, y1]; grind
    rw [a1, a2, a3, a4] at p1
    exact p1
  have z : ∀ x y : Int, W (A - W A' B' C' p r) (B - (2 * A' * p * q + B' * (p * s + q * r) + 2 * C' * r * s)) (C - W A' B' C' q s) x y = W A B C x y - W A' B' C' (p * x + q * y) (r * x + s * y) := fun x y => by unfold W; grind
  have z0 := at_ 1 0
  have z1 := at_ 0 1
  have z2 := at_ 1 1
  simp only [Int.mul_one, Int.mul_zero, Int.add_zero, Int.zero_add] at z0 z1 z2
  obtain ⟨e1, e2, e3⟩ := form_zero (α := A - W A' B' C' p r) (β := B - (2 * A' * p * q + B' * (p * s + q * r) + 2 * C' * r * s)) (γ := C - W A' B' C' q s) ha m01 (by rw [z]; omega) (by rw [z]; omega) (by rw [z]; omega)
  exact ⟨p, q, r, s, det, by omega, by omega, by omega⟩
theorem div_of {x y z : Int} (hy : y ≠ 0) (h : x = y * z) : x / y = z := by rw [h]; exact Int.mul_ediv_cancel_left z hy
/-- two forms that agree in the middle number -/
theorem comp_agree (a b d k : Int) : Comp a b (d * k) d b (a * k) (a * d) b k 1 0 0 (-k) 0 a d b := by
  refine ⟨fun x y u v => ?_, by grind, by grind⟩
  unfold W S
  grind
end MJ

/-! MK: joints of classes -/
namespace MJ
/-- a form of a bar below nought -/
structure Fm (D a b c : Int) : Prop where
  pos : 0 < a
  bar : b * b - 4 * a * c = D
def CompE (a b c d e f A B C : Int) : Prop := ∃ X0 X1 X2 X3 Y0 Y1 Y2 Y3 : Int, Comp a b c d e f A B C X0 X1 X2 X3 Y0 Y1 Y2 Y3
theorem CompE.swap {a b c d e f A B C : Int} (h : CompE a b c d e f A B C) : CompE d e f a b c A B C := by
  obtain ⟨X0, X1, X2, X3, Y0, Y1, Y2, Y3, h⟩ := h
  exact ⟨_, _, _, _, _, _, _, _, h.swap⟩
theorem CompE.pull {D a b c d e f A B C p q r s a' b' c' : Int} (hD : D < 0) (h : CompE a b c d e f A B C) (f1 : Fm D a b c) (f2 : Fm D d e f) (f3 : Fm D A B C) (l : Led a b c p q r s a' b' c') : CompE a' b' c' d e f A B C := by
  obtain ⟨X0, X1, X2, X3, Y0, Y1, Y2, Y3, h⟩ := h
  have p1 := f1.pos
  have p2 := f2.pos
  have m := h.minors (by omega) (by omega) (by rw [f1.bar]; omega) (by rw [f1.bar, f2.bar]) (by rw [f1.bar, f3.bar])
  exact ⟨_, _, _, _, _, _, _, _, h.pull m l⟩
theorem CompE.one {D a b c d e f A B C A' B' C' l1 l2 l3 : Int} (hD : D < 0) (h : CompE a b c d e f A B C) (h' : CompE a b c d e f A' B' C') (f1 : Fm D a b c) (f2 : Fm D d e f) (f3 : Fm D A B C) (f4 : Fm D A' B' C') (hl : l1 * a + l2 * b + l3 * c = 1) :
    ∃ p q r s : Int, Led A' B' C' p q r s A B C := by
  obtain ⟨X0, X1, X2, X3, Y0, Y1, Y2, Y3, h⟩ := h
  obtain ⟨X0', X1', X2', X3', Y0', Y1', Y2', Y3', h'⟩ := h'
  have p1 := f1.pos
  have p2 := f2.pos
  have m := h.minors (by omega) (by omega) (by rw [f1.bar]; omega) (by rw [f1.bar, f2.bar]) (by rw [f1.bar, f3.bar])
  have m' := h'.minors (by omega) (by omega) (by rw [f1.bar]; omega) (by rw [f1.bar, f2.bar]) (by rw [f1.bar, f4.bar])
  exact comp_one h h' m m' (by omega) hl
theorem Led.bar {a b c p q r s a' b' c' : Int} (h : Led a b c p q r s a' b' c') : b' * b' - 4 * a' * c' = b * b - 4 * a * c := by
  obtain ⟨d, rfl, rfl, rfl⟩ := h
  unfold W
  have : (2 * a * p * q + b * (p * s + q * r) + 2 * c * r * s) * (2 * a * p * q + b * (p * s + q * r) + 2 * c * r * s) - 4 * (a * p * p + b * p * r + c * r * r) * (a * q * q + b * q * s + c * s * s) = (b * b - 4 * a * c) * ((p * s - q * r) * (p * s - q * r)) := by grind
  rw [this, d]
  omega
/-- the joint of two bare forms is bare -/
theorem comp_bare {a b c d e f A B C n : Int} (h : CompE a b c d e f A B C) {l1 l2 l3 m1 m2 m3 : Int} (hl : l1 * a + l2 * b + l3 * c = 1) (hm : m1 * d + m2 * e + m3 * f = 1) (hA : n ∣ A) (hB : n ∣ B) (hC : n ∣ C) : n ∣ 1 := by
  obtain ⟨X0, X1, X2, X3, Y0, Y1, Y2, Y3, h⟩ := h
  have all : ∀ x y u v : Int, n ∣ W a b c x y * W d e f u v := fun x y u v => by
    rw [h.prod]
    generalize S X0 X1 X2 X3 x y u v = X
    generalize S Y0 Y1 Y2 Y3 x y u v = Y
    unfold W
    exact Int.dvd_add (Int.dvd_add (Int.dvd_mul_of_dvd_left (Int.dvd_mul_of_dvd_left hA)) (Int.dvd_mul_of_dvd_left (Int.dvd_mul_of_dvd_left hB))) (Int.dvd_mul_of_dvd_left (Int.dvd_mul_of_dvd_left hC))
  have one : (1 : Int) = (l1 * a + l2 * b + l3 * c) * (m1 * d + m2 * e + m3 * f) := by rw [hl, hm]; rfl
  have ea : ∀ g : Int, n ∣ W a b c 1 0 * g → n ∣ W a b c 0 1 * g → n ∣ W a b c 1 1 * g → n ∣ (l1 * a + l2 * b + l3 * c) * g := fun g h1 h2 h3 => by
    have e1 : (l1 * a + l2 * b + l3 * c) * g = (l1 - l2) * (W a b c 1 0 * g) + l2 * (W a b c 1 1 * g) + (l3 - l2) * (W a b c 0 1 * g) := by unfold W; grind
    rw [e1]
    exact Int.dvd_add (Int.dvd_add (Int.dvd_mul_of_dvd_right h1) (Int.dvd_mul_of_dvd_right h3)) (Int.dvd_mul_of_dvd_right h2)
  have eb : ∀ g : Int, n ∣ g * W d e f 1 0 → n ∣ g * W d e f 0 1 → n ∣ g * W d e f 1 1 → n ∣ g * (m1 * d + m2 * e + m3 * f) := fun g h1 h2 h3 => by
    have e1 : g * (m1 * d + m2 * e + m3 * f) = (m1 - m2) * (g * W d e f 1 0) + m2 * (g * W d e f 1 1) + (m3 - m2) * (g * W d e f 0 1) := by unfold W; grind
    rw [e1]
    exact Int.dvd_add (Int.dvd_add (Int.dvd_mul_of_dvd_right h1) (Int.dvd_mul_of_dvd_right h3)) (Int.dvd_mul_of_dvd_right h2)
  rw [one]
  refine ea _ ?_ ?_ ?_
  · exact eb _ (all 1 0 1 0) (all 1 0 0 1) (all 1 0 1 1)
  · exact eb _ (all 0 1 1 0) (all 0 1 0 1) (all 0 1 1 1)
  · exact eb _ (all 1 1 1 0) (all 1 1 0 1) (all 1 1 1 1)
end MJ

/-! CJ: the promises of the joining -/
namespace CM
open PySem PySem.Spec L2 FL FT
structure FormJ (a b c : Int) : Prop where
  pos : 0 < a
  bar : b * b - 4 * a * c < 0
  sa : Bd a 1450
  sb : Bd b 1450
  sc : Bd c 1450
  sd : Bd (b * b - 4 * a * c) 1200
  bare : Int.gcd (Int.gcd a b) c = 1
theorem FormJ.bez {a b c : Int} (h : FormJ a b c) : ∃ l1 l2 l3 : Int, l1 * a + l2 * b + l3 * c = 1 := by
  obtain ⟨x, y, e1⟩ := ME.bez a b
  obtain ⟨z, w, e2⟩ := ME.bez (Int.gcd a b) c
  refine ⟨z * x, z * y, w, ?_⟩
  rw [h.bare, ← e1] at e2
  have : (1 : Int) = z * (x * a + y * b) + w * c := e2.symm
  rw [this]
  grind
/-! ### divisor_with_shares -/
/-! ### the joint -/
end CM
namespace CM
open PySem PySem.Spec L2 FL FT
end CM
namespace CM
open PySem PySem.Spec L2 FL FT
/-! ### the asker's forms that agree in the middle number -/
end CM
namespace CM
open PySem PySem.Spec L2 FL FT
end CM
namespace CM
open PySem PySem.Spec L2 FL FT
def p_is_bar (ds : List D) (d : D) : Prop := ∃ i : Int, ds = [.int i] ∧ i < 0 ∧ (i % 4 = 0 ∨ i % 4 = 1) ∧ d = .bl true
def p_require_bar (ds : List D) (d : D) : Prop := ∃ i : Int, ds = [.int i] ∧ i < 0 ∧ (i % 4 = 0 ∨ i % 4 = 1) ∧ d = .non
theorem bar_mod (a b c : Int) : (b * b - 4 * a * c) % 4 = 0 ∨ (b * b - 4 * a * c) % 4 = 1 := by
  rcases Int.emod_two_eq b with h | h
  · have e : b = 2 * (b / 2) := by omega
    generalize b / 2 = x at *
    subst e
    have : 2 * x * (2 * x) - 4 * a * c = 4 * (x * x - a * c) := by grind
    omega
  · have e : b = 2 * (b / 2) + 1 := by omega
    generalize b / 2 = x at *
    subst e
    have : (2 * x + 1) * (2 * x + 1) - 4 * a * c = 4 * (x * x + x - a * c) + 1 := by grind
    omega
/-- the neutral form is least, and of its bar -/
theorem neutral_least {i : Int} (hi : i < 0) (h4 : i % 4 = 0 ∨ i % 4 = 1) : MT.Least 1 (i % 2) ((i % 2 - i) / 4) ∧ (i % 2) * (i % 2) - 4 * 1 * ((i % 2 - i) / 4) = i := by
  rcases Int.emod_two_eq i with h | h
  · rw [h]
    exact ⟨⟨by omega, by omega, by omega, fun _ => by omega⟩, by omega⟩
  · rw [h]
    exact ⟨⟨by omega, by omega, by omega, fun _ => by omega⟩, by omega⟩
theorem Leads.refl (a b c : Int) : Leads a b c 1 0 0 1 a b c := by
  refine ⟨by omega, ?_, ?_, ?_⟩ <;> (try unfold MT.Wo) <;> grind
theorem bez_of {a b c : Int} (h : Int.gcd (Int.gcd a b) c = 1) : ∃ l1 l2 l3 : Int, l1 * a + l2 * b + l3 * c = 1 := by
  obtain ⟨x, y, e1⟩ := ME.bez a b
  obtain ⟨z, w, e2⟩ := ME.bez (Int.gcd a b) c
  refine ⟨z * x, z * y, w, ?_⟩
  rw [h, ← e1] at e2
  have : (1 : Int) = z * (x * a + y * b) + w * c := e2.symm
  rw [this]
  grind
end CM
namespace CM
open PySem PySem.Spec L2 FL FT
section
variable {X : Cx} {e1 e2 : Expr} {ρ : Ro} {p0 p1 p2 p3 : Pos} {m : Nat}
end
end CM

/-! MP: primes, and forms worth a number without a common divisor with another -/
namespace MP
theorem icd {p : Nat} {z : Int} : (p : Int) ∣ z ↔ p ∣ z.natAbs := by
  rw [← Int.natCast_dvd_natCast, Int.dvd_natAbs]
def Pr (p : Nat) : Prop := 2 ≤ p ∧ ∀ d, d ∣ p → d = 1 ∨ d = p
theorem pr_ex : ∀ n : Nat, 2 ≤ n → ∃ p, Pr p ∧ p ∣ n := by
  intro n
  induction n using Nat.strongRecOn with
  | ind n ih =>
    intro hn
    by_cases h : Pr n
    · exact ⟨n, h, Nat.dvd_refl n⟩
    · have : ∃ d, d ∣ n ∧ d ≠ 1 ∧ d ≠ n := by
        refine Classical.byContradiction fun hc => h ⟨hn, fun d hd => ?_⟩
        refine Classical.byContradiction fun hd' => hc ⟨d, hd, fun e => hd' (.inl e), fun e => hd' (.inr e)⟩
      obtain ⟨d, hd, h1, h2⟩ := this
      have hle := Nat.le_of_dvd (by omega) hd
      have h0 : d ≠ 0 := fun z => by
        subst z
        have := Nat.eq_zero_of_zero_dvd hd
        omega
      obtain ⟨p, hp, hpd⟩ := ih d (by omega) (by omega)
      exact ⟨p, hp, Nat.dvd_trans hpd hd⟩
theorem Pr.cop {p a : Nat} (hp : Pr p) (h : ¬ p ∣ a) : Nat.gcd p a = 1 := by
  rcases hp.2 _ (Nat.gcd_dvd_left p a) with e | e
  · exact e
  · exact absurd (e ▸ Nat.gcd_dvd_right p a) h
theorem Pr.mul {p a b : Nat} (hp : Pr p) (h : p ∣ a * b) : p ∣ a ∨ p ∣ b := by
  by_cases ha : p ∣ a
  · exact .inl ha
  · exact .inr (Nat.Coprime.dvd_of_dvd_mul_left (hp.cop ha) h)
theorem Pr.imul {p : Nat} {a b : Int} (hp : Pr p) (h : (p : Int) ∣ a * b) : (p : Int) ∣ a ∨ (p : Int) ∣ b := by
  rw [icd, Int.natAbs_mul] at h
  rw [icd, icd]
  exact hp.mul h
theorem Pr.one {p : Nat} (hp : Pr p) (h : (p : Int) ∣ 1) : False := by
  have := icd.mp h
  have := Nat.le_of_dvd (by decide) this
  have := hp.1
  simp at *
  omega
def prodN : List Nat → Nat
  | [] => 1
  | x :: xs => x * prodN xs
theorem mem_prod {p : Nat} : ∀ {l : List Nat}, p ∈ l → p ∣ prodN l
  | x :: xs, h => by
    rcases List.mem_cons.mp h with rfl | h
    · exact Nat.dvd_mul_right _ _
    · exact Nat.dvd_trans (mem_prod h) (Nat.dvd_mul_left _ _)
theorem Pr.mem {p : Nat} (hp : Pr p) : ∀ {l : List Nat}, (∀ q ∈ l, Pr q) → p ∣ prodN l → p ∈ l
  | [], _, h => by
    have := Nat.le_of_dvd (by decide) h
    have := hp.1
    simp [prodN] at *
    omega
  | x :: xs, hl, h => by
    rcases hp.mul h with h | h
    · rcases (hl x List.mem_cons_self).2 _ h with e | e
      · have := hp.1
        omega
      · exact e ▸ List.mem_cons_self
    · exact List.mem_cons_of_mem _ (hp.mem (fun q hq => hl q (List.mem_cons_of_mem _ hq)) h)
theorem prod_pos : ∀ {l : List Nat}, (∀ q ∈ l, Pr q) → 0 < prodN l
  | [], _ => by decide
  | x :: xs, hl => Nat.mul_pos (by have := (hl x List.mem_cons_self).1; omega) (prod_pos fun q hq => hl q (List.mem_cons_of_mem _ hq))
theorem gcd_one_of {m N : Int} (hN : N ≠ 0) (h : ∀ p : Nat, Pr p → (p : Int) ∣ N → ¬ (p : Int) ∣ m) : Int.gcd m N = 1 := by
  refine Classical.byContradiction fun hg => ?_
  have h0 : Int.gcd m N ≠ 0 := fun z => hN (Int.gcd_eq_zero_iff.mp z).2
  obtain ⟨p, hp, hd⟩ := pr_ex (Int.gcd m N) (by omega)
  have hd' : (p : Int) ∣ ((Int.gcd m N : Nat) : Int) := Int.natCast_dvd_natCast.mpr hd
  exact h p hp (Int.dvd_trans hd' (Int.gcd_dvd_right m N)) (Int.dvd_trans hd' (Int.gcd_dvd_left m N))
/-- at a place made of primes of N, by which of them divide the ends -/
theorem telling {a b c N x y l1 l2 l3 : Int} (hN : N ≠ 0) (hl : l1 * a + l2 * b + l3 * c = 1)
    (h1 : ∀ p : Nat, Pr p → (p : Int) ∣ N → ((p : Int) ∣ y ↔ ¬ (p : Int) ∣ a)) (h2 : ∀ p : Nat, Pr p → (p : Int) ∣ N → ((p : Int) ∣ x ↔ (p : Int) ∣ a ∧ ¬ (p : Int) ∣ c)) : Int.gcd (a * x * x + b * x * y + c * y * y) N = 1 := by
  refine gcd_one_of hN fun p hp hpN hm => ?_
  have e1 := h1 p hp hpN
  have e2 := h2 p hp hpN
  by_cases pa : (p : Int) ∣ a
  · have ny : ¬ (p : Int) ∣ y := fun z => (e1.mp z) pa
    by_cases pc : (p : Int) ∣ c
    · have nx : ¬ (p : Int) ∣ x := fun z => (e2.mp z).2 pc
      have hb : (p : Int) ∣ b * x * y := by
        have t1 : (p : Int) ∣ a * x * x := Int.dvd_mul_of_dvd_left (Int.dvd_mul_of_dvd_left pa)
        have t2 : (p : Int) ∣ c * y * y := Int.dvd_mul_of_dvd_left (Int.dvd_mul_of_dvd_left pc)
        have := Int.dvd_sub (Int.dvd_sub hm t1) t2
        have e : a * x * x + b * x * y + c * y * y - a * x * x - c * y * y = b * x * y := by omega
        rwa [e] at this
      rcases hp.imul hb with h | h
      · rcases hp.imul h with h | h
        · refine hp.one ?_
          rw [← hl]
          exact Int.dvd_add (Int.dvd_add (Int.dvd_mul_of_dvd_right pa) (Int.dvd_mul_of_dvd_right h)) (Int.dvd_mul_of_dvd_right pc)
        · exact nx h
      · exact ny h
    · have px := e2.mpr ⟨pa, pc⟩
      have hc : (p : Int) ∣ c * y * y := by
        have t1 : (p : Int) ∣ a * x * x := Int.dvd_mul_of_dvd_right px
        have t2 : (p : Int) ∣ b * x * y := Int.dvd_mul_of_dvd_left (Int.dvd_mul_of_dvd_right px)
        have := Int.dvd_sub (Int.dvd_sub hm t1) t2
        have e : a * x * x + b * x * y + c * y * y - a * x * x - b * x * y = c * y * y := by omega
        rwa [e] at this
      rcases hp.imul hc with h | h
      · rcases hp.imul h with h | h
        · exact pc h
        · exact ny h
      · exact ny h
  · have py := e1.mpr pa
    have nx : ¬ (p : Int) ∣ x := fun z => pa (e2.mp z).1
    have ha : (p : Int) ∣ a * x * x := by
      have t1 : (p : Int) ∣ c * y * y := Int.dvd_mul_of_dvd_right py
      have t2 : (p : Int) ∣ b * x * y := Int.dvd_mul_of_dvd_right py
      have := Int.dvd_sub (Int.dvd_sub hm t1) t2
      have e : a * x * x + b * x * y + c * y * y - c * y * y - b * x * y = a * x * x := by omega
      rwa [e] at this
    rcases hp.imul ha with h | h
    · rcases hp.imul h with h | h
      · exact pa h
      · exact nx h
    · exact nx h
open Classical in
/-- a bare form is worth, at some place of two numbers without a common divisor, a number that has none with N -/
theorem worth_cop {a b c N l1 l2 l3 : Int} (hN : N ≠ 0) (hl : l1 * a + l2 * b + l3 * c = 1) : ∃ x y : Int, Int.gcd x y = 1 ∧ Int.gcd (a * x * x + b * x * y + c * y * y) N = 1 := by
  let ps : List Nat := (List.range (N.natAbs + 1)).filter fun p => decide (Pr p ∧ (p : Int) ∣ N)
  have hps : ∀ p : Nat, p ∈ ps ↔ Pr p ∧ (p : Int) ∣ N := fun p => by
    simp only [ps, List.mem_filter, List.mem_range, decide_eq_true_eq]
    refine ⟨fun h => h.2, fun h => ⟨?_, h⟩⟩
    have := Nat.le_of_dvd (by omega) (icd.mp h.2)
    omega
  let ys : List Nat := ps.filter fun (p : Nat) => decide (¬ (p : Int) ∣ a)
  let xs : List Nat := ps.filter fun (p : Nat) => decide ((p : Int) ∣ a ∧ ¬ (p : Int) ∣ c)
  have pry : ∀ q ∈ ys, Pr q := fun q hq => ((hps q).mp (List.mem_filter.mp hq).1).1
  have prx : ∀ q ∈ xs, Pr q := fun q hq => ((hps q).mp (List.mem_filter.mp hq).1).1
  have hy : ∀ p : Nat, Pr p → (p : Int) ∣ N → ((p : Int) ∣ ((prodN ys : Nat) : Int) ↔ ¬ (p : Int) ∣ a) := fun p hp hpN => by
    rw [Int.natCast_dvd_natCast]
    constructor
    · intro h
      have := (List.mem_filter.mp (hp.mem pry h)).2
      simpa using this
    · intro h
      exact mem_prod (List.mem_filter.mpr ⟨(hps p).mpr ⟨hp, hpN⟩, by simpa using h⟩)
  have hx : ∀ p : Nat, Pr p → (p : Int) ∣ N → ((p : Int) ∣ ((prodN xs : Nat) : Int) ↔ (p : Int) ∣ a ∧ ¬ (p : Int) ∣ c) := fun p hp hpN => by
    rw [Int.natCast_dvd_natCast]
    constructor
    · intro h
      have := (List.mem_filter.mp (hp.mem prx h)).2
      simpa using this
    · intro h
      exact mem_prod (List.mem_filter.mpr ⟨(hps p).mpr ⟨hp, hpN⟩, by simpa using h⟩)
  refine ⟨(prodN xs : Nat), (prodN ys : Nat), ?_, telling hN hl hy hx⟩
  have py := prod_pos pry
  refine gcd_one_of (by omega) fun p hp h1 h2 => ?_
  have m1 := hp.mem pry (Int.natCast_dvd_natCast.mp h1)
  have m2 := hp.mem prx (Int.natCast_dvd_natCast.mp h2)
  have t1 := (List.mem_filter.mp m1).2
  have t2 := (List.mem_filter.mp m2).2
  simp only [decide_eq_true_eq] at t1 t2
  exact t1 t2.1
end MP

/-! MG: the classes of a bar make a group -/
namespace MG
open MJ
structure Q where
  a : Int
  b : Int
  c : Int
deriving DecidableEq
structure Ok (D : Int) (f : Q) : Prop where
  pos : 0 < f.a
  bar : f.b * f.b - 4 * f.a * f.c = D
theorem Ok.fm {D : Int} {f : Q} (h : Ok D f) : Fm D f.a f.b f.c := ⟨h.pos, h.bar⟩
def Bare (f : Q) : Prop := ∃ l1 l2 l3 : Int, l1 * f.a + l2 * f.b + l3 * f.c = 1
def Eqv (f g : Q) : Prop := ∃ p q r s : Int, Led f.a f.b f.c p q r s g.a g.b g.c
def Cp (f g h : Q) : Prop := CompE f.a f.b f.c g.a g.b g.c h.a h.b h.c
theorem Eqv.refl (f : Q) : Eqv f f := ⟨1, 0, 0, 1, by omega, by unfold W; grind, by grind, by unfold W; grind⟩
theorem Eqv.symm {f g : Q} (h : Eqv f g) : Eqv g f := by
  obtain ⟨p, q, r, s, d, e1, e2, e3⟩ := h
  refine ⟨s, -q, -r, p, by grind, ?_, ?_, ?_⟩
  · rw [e1, e2, e3]; unfold W; grind
  · rw [e1, e2, e3]; unfold W; grind
  · rw [e1, e2, e3]; unfold W; grind
theorem Eqv.trans {f g h : Q} (h1 : Eqv f g) (h2 : Eqv g h) : Eqv f h := by
  obtain ⟨p, q, r, s, d, e1, e2, e3⟩ := h1
  obtain ⟨x, y, z, v, d', f1, f2, f3⟩ := h2
  refine ⟨p * x + q * z, p * y + q * v, r * x + s * z, r * y + s * v, by grind, ?_, ?_, ?_⟩
  · rw [f1, e1, e2, e3]; unfold W; grind
  · rw [f2, e1, e2, e3]; unfold W; grind
  · rw [f3, e1, e2, e3]; unfold W; grind
theorem Eqv.bar {f g : Q} (h : Eqv f g) : g.b * g.b - 4 * g.a * g.c = f.b * f.b - 4 * f.a * f.c := by
  obtain ⟨p, q, r, s, l⟩ := h
  exact l.bar
theorem w_pos {a b c x y : Int} (ha : 0 < a) (hd : b * b - 4 * a * c < 0) (h : x ≠ 0 ∨ y ≠ 0) : 0 < W a b c x y := by
  have sq : ∀ z : Int, 0 ≤ z * z := fun z => by
    rcases Int.le_total 0 z with h | h
    · exact Int.mul_nonneg h h
    · exact Int.mul_nonneg_of_nonpos_of_nonpos h h
  have e : 4 * a * W a b c x y = (2 * a * x + b * y) * (2 * a * x + b * y) + (-(b * b - 4 * a * c)) * (y * y) := by unfold W; grind
  have h1 := sq (2 * a * x + b * y)
  have h2 := Int.mul_nonneg (show 0 ≤ -(b * b - 4 * a * c) by omega) (sq y)
  have key : 0 < 4 * a * W a b c x y := by
    by_cases hy : y = 0
    · subst hy
      have hx : x ≠ 0 := by omega
      have : 0 < (2 * a * x + b * 0) * (2 * a * x + b * 0) := by
        have e2 : (2 * a * x + b * 0) * (2 * a * x + b * 0) = 4 * a * a * (x * x) := by grind
        rw [e2]
        refine Int.mul_pos (Int.mul_pos (by omega) ha) ?_
        rcases Int.lt_or_gt_of_ne hx with h | h
        · exact Int.mul_pos_of_neg_of_neg h h
        · exact Int.mul_pos h h
      omega
    · have : 0 < y * y := by
        rcases Int.lt_or_gt_of_ne hy with h | h
        · exact Int.mul_pos_of_neg_of_neg h h
        · exact Int.mul_pos h h
      have := Int.mul_pos (show 0 < -(b * b - 4 * a * c) by omega) this
      omega
  refine Int.not_le.mp fun z => ?_
  have := Int.mul_nonpos_of_nonneg_of_nonpos (show 0 ≤ 4 * a by omega) z
  omega
theorem Ok.eqv {D : Int} {f g : Q} (hD : D < 0) (h : Ok D f) (e : Eqv f g) : Ok D g := by
  refine ⟨?_, by rw [e.bar]; exact h.bar⟩
  obtain ⟨p, q, r, s, l⟩ := e
  rw [l.e1]
  refine w_pos h.pos (by rw [h.bar]; exact hD) ?_
  by_cases z : p = 0
  · refine .inr fun w => ?_
    have := l.det
    rw [z, w] at this
    simp at this
  · exact .inl z
theorem Bare.eqv {f g : Q} (h : Bare f) (e : Eqv f g) : Bare g := by
  obtain ⟨l1, l2, l3, hl⟩ := h
  obtain ⟨p, q, r, s, d, e1, e2, e3⟩ := e.symm
  refine ⟨l1 * (p * p) + l2 * (2 * p * q) + l3 * (q * q), l1 * (p * r) + l2 * (p * s + q * r) + l3 * (q * s), l1 * (r * r) + l2 * (2 * r * s) + l3 * (s * s), ?_⟩
  rw [← hl, e1, e2, e3]
  unfold W
  grind
theorem Cp.swap {f g h : Q} (c : Cp f g h) : Cp g f h := CompE.swap c
theorem Cp.pull {D : Int} {f f' g h : Q} (hD : D < 0) (c : Cp f g h) (o1 : Ok D f) (o2 : Ok D g) (o3 : Ok D h) (e : Eqv f f') : Cp f' g h := by
  obtain ⟨p, q, r, s, l⟩ := e
  exact CompE.pull hD c o1.fm o2.fm o3.fm l
theorem Cp.pull2 {D : Int} {f g g' h : Q} (hD : D < 0) (c : Cp f g h) (o1 : Ok D f) (o2 : Ok D g) (o3 : Ok D h) (e : Eqv g g') : Cp f g' h := (c.swap.pull hD o2 o1 o3 e).swap
theorem Cp.one {D : Int} {f g h h' : Q} (hD : D < 0) (c : Cp f g h) (c' : Cp f g h') (o1 : Ok D f) (o2 : Ok D g) (o3 : Ok D h) (o4 : Ok D h') (b : Bare f) : Eqv h h' := by
  obtain ⟨l1, l2, l3, hl⟩ := b
  obtain ⟨p, q, r, s, l⟩ := CompE.one hD c' c o1.fm o2.fm o4.fm o3.fm hl
  exact ⟨p, q, r, s, l⟩
theorem Cp.target {f g h h' : Q} (c : Cp f g h) (e : Eqv h h') : Cp f g h' := by
  obtain ⟨X0, X1, X2, X3, Y0, Y1, Y2, Y3, c⟩ := c
  obtain ⟨p, q, r, s, l⟩ := e
  exact ⟨_, _, _, _, _, _, _, _, c.target l⟩
theorem cp_agree (a b d k : Int) : Cp ⟨a, b, d * k⟩ ⟨d, b, a * k⟩ ⟨a * d, b, k⟩ := ⟨_, _, _, _, _, _, _, _, comp_agree a b d k⟩
/-- to a form with a first number that has no common divisor with N -/
theorem cop_rep {N : Int} {f : Q} (hN : N ≠ 0) (hb : Bare f) : ∃ g : Q, Eqv f g ∧ Int.gcd g.a N = 1 := by
  obtain ⟨l1, l2, l3, hl⟩ := hb
  obtain ⟨x, y, hxy, hw⟩ := MP.worth_cop hN hl
  obtain ⟨u, v, e⟩ := ME.bez x y
  rw [hxy] at e
  refine ⟨⟨W f.a f.b f.c x y, 2 * f.a * x * -v + f.b * (x * u + -v * y) + 2 * f.c * y * u, W f.a f.b f.c (-v) u⟩, ⟨x, -v, y, u, ?_, rfl, rfl, rfl⟩, hw⟩
  have : u * x + v * y = 1 := e
  grind
/-- the middle number moved by twice the first one -/
theorem shift_eqv (f : Q) (t : Int) : Eqv f ⟨f.a, f.b + 2 * f.a * t, f.c + t * (f.b + f.a * t)⟩ := by
  refine ⟨1, t, 0, 1, by omega, ?_, ?_, ?_⟩ <;> (try unfold W) <;> (dsimp only) <;> grind
theorem crt {a d x y : Int} (h : Int.gcd a d = 1) : ∃ t u : Int, x + a * t = y + d * u := by
  obtain ⟨p, q, e⟩ := ME.bez a d
  rw [h] at e
  have e' : p * a + q * d = 1 := e
  refine ⟨p * (y - x), q * (x - y), ?_⟩
  have : (p * a + q * d) * (y - x) = y - x := by rw [e']; omega
  grind
theorem bar_parity {D : Int} {f : Q} (h : Ok D f) : ∃ t : Int, f.b = D % 2 + 2 * t := by
  have := h.bar
  refine ⟨f.b / 2, ?_⟩
  have e : D % 2 = f.b % 2 := by
    rcases Int.emod_two_eq f.b with hb | hb
    · have e : f.b = 2 * (f.b / 2) := by omega
      generalize f.b / 2 = x at e
      have : D = 2 * (2 * x * x - 2 * f.a * f.c) := by rw [← h.bar, e]; grind
      omega
    · have e : f.b = 2 * (f.b / 2) + 1 := by omega
      generalize f.b / 2 = x at e
      have : D = 2 * (2 * x * x + 2 * x - 2 * f.a * f.c) + 1 := by rw [← h.bar, e]; grind
      omega
  omega
theorem cop_dvd {a d m : Int} (h : Int.gcd a d = 1) (ha : a ∣ m) (hd : d ∣ m) : a * d ∣ m := by
  obtain ⟨p, q, e⟩ := ME.bez a d
  rw [h] at e
  have e' : p * a + q * d = 1 := e
  obtain ⟨x, hx⟩ := ha
  obtain ⟨y, hy⟩ := hd
  refine ⟨p * y + q * x, ?_⟩
  have : m = (p * a + q * d) * m := by rw [e']; omega
  rw [this]
  have k1 : p * a * m = a * d * (p * y) := by rw [hy]; grind
  have k2 : q * d * m = a * d * (q * x) := by rw [hx]; grind
  grind
/-- two forms agree in the middle number, after turnings -/
theorem agree2 {D : Int} {f g : Q} (o1 : Ok D f) (o2 : Ok D g) (h : Int.gcd f.a g.a = 1) : ∃ b k t : Int, b = f.b + 2 * f.a * t ∧ Eqv f ⟨f.a, b, g.a * k⟩ ∧ Eqv g ⟨g.a, b, f.a * k⟩ := by
  obtain ⟨x, ex⟩ := bar_parity o1
  obtain ⟨y, ey⟩ := bar_parity o2
  obtain ⟨t, u, e⟩ := crt (x := x) (y := y) h
  have s1 := shift_eqv f t
  have s2 := shift_eqv g u
  have eb : f.b + 2 * f.a * t = g.b + 2 * g.a * u := by rw [ex, ey]; grind
  have b1 := s1.bar
  have b2 := s2.bar
  rw [o1.bar] at b1
  rw [o2.bar] at b2
  dsimp only at b1 b2
  rw [← eb] at b2 s2
  generalize hb : f.b + 2 * f.a * t = b at *
  generalize f.c + t * (f.b + f.a * t) = c1 at *
  generalize g.c + u * (g.b + g.a * u) = c2 at *
  -- a c1 = d c2
  have q : f.a * c1 = g.a * c2 := by grind
  have hd : f.a * g.a ∣ f.a * c1 := cop_dvd h ⟨c1, rfl⟩ ⟨c2, q⟩
  obtain ⟨k, hk⟩ := hd
  have p1 := o1.pos
  have p2 := o2.pos
  have k1 : c1 = g.a * k := mul_cancel (show f.a ≠ 0 by omega) (by rw [hk]; grind)
  have k2 : c2 = f.a * k := mul_cancel (show g.a ≠ 0 by omega) (by rw [← q, hk]; grind)
  rw [k1] at s1
  rw [k2] at s2
  exact ⟨b, k, t, hb.symm, s1, s2⟩
/-- a joint there is -/
theorem cp_ex {D : Int} {f g : Q} (hD : D < 0) (o1 : Ok D f) (o2 : Ok D g) (b1 : Bare f) (b2 : Bare g) : ∃ h : Q, Ok D h ∧ Bare h ∧ Cp f g h := by
  have p1 := o1.pos
  obtain ⟨g', e, hg⟩ := cop_rep (N := f.a) (by omega) b2
  have o2' := o2.eqv hD e
  obtain ⟨b, k, _, _, s1, s2⟩ := agree2 o1 o2' (by rw [Int.gcd_comm]; exact hg)
  have a1 := o1.eqv hD s1
  have a2 := o2'.eqv hD s2
  have c := cp_agree f.a b g'.a k
  have oh : Ok D ⟨f.a * g'.a, b, k⟩ := ⟨Int.mul_pos o1.pos o2'.pos, by have := a1.bar; dsimp only at *; rw [← this]; grind⟩
  have c1 := c.pull hD a1 a2 oh s1.symm
  have c2 := c1.pull2 hD o1 a2 oh (e.trans s2).symm
  refine ⟨_, oh, ?_, c2⟩
  -- bare
  have bf := b1.eqv s1
  have bg := (b2.eqv e).eqv s2
  obtain ⟨l1, l2, l3, hl⟩ := bf
  obtain ⟨m1, m2, m3, hm⟩ := bg
  obtain ⟨x, y, e1⟩ := ME.bez (f.a * g'.a) b
  obtain ⟨z, w, e2⟩ := ME.bez (Int.gcd (f.a * g'.a) b) k
  have hn : Int.gcd (Int.gcd (f.a * g'.a) b) k = 1 := by
    have d1 : ((Int.gcd (Int.gcd (f.a * g'.a) b) k : Nat) : Int) ∣ ((Int.gcd (f.a * g'.a) b : Nat) : Int) := Int.gcd_dvd_left _ _
    have := comp_bare c hl hm (Int.dvd_trans d1 (Int.gcd_dvd_left _ _)) (Int.dvd_trans d1 (Int.gcd_dvd_right _ _)) (Int.gcd_dvd_right _ _)
    exact Nat.dvd_one.mp (Int.natCast_dvd_natCast.mp (show ((Int.gcd (Int.gcd (f.a * g'.a) b) k : Nat) : Int) ∣ ((1 : Nat) : Int) from this))
  refine ⟨z * x, z * y, w, ?_⟩
  rw [hn] at e2
  show z * x * (f.a * g'.a) + z * y * b + w * k = 1
  have e2' : z * ((Int.gcd (f.a * g'.a) b : Nat) : Int) + w * k = 1 := e2
  rw [← e1] at e2'
  grind
theorem shift_to {D a b c b' c' t : Int} (ha : 0 < a) (h1 : b * b - 4 * a * c = D) (e : b' = b + 2 * a * t) (h2 : b' * b' - 4 * a * c' = D) : Eqv ⟨a, b, c⟩ ⟨a, b', c'⟩ := by
  have s := shift_eqv ⟨a, b, c⟩ t
  dsimp only at s
  have k : c' = c + t * (b + a * t) := by
    refine mul_cancel (show 4 * a ≠ 0 by omega) ?_
    subst e
    grind
  rw [← e, ← k] at s
  exact s
/-- three forms agree in the middle number, after turnings -/
theorem agree3 {D : Int} {f g h : Q} (hD : D < 0) (o1 : Ok D f) (o2 : Ok D g) (o3 : Ok D h) (b2 : Bare g) (b3 : Bare h) : ∃ a b d e k : Int, 0 < a ∧ 0 < d ∧ 0 < e ∧ b * b - 4 * (a * d * e) * k = D ∧ Eqv f ⟨a, b, d * e * k⟩ ∧ Eqv g ⟨d, b, a * e * k⟩ ∧ Eqv h ⟨e, b, a * d * k⟩ := by
  have p1 := o1.pos
  obtain ⟨g', e1, hg⟩ := cop_rep (N := f.a) (by omega) b2
  have o2' := o2.eqv hD e1
  have p2 := o2'.pos
  have pp := Int.mul_pos p1 p2
  obtain ⟨h', e2, hh⟩ := cop_rep (N := f.a * g'.a) (by omega) b3
  have o3' := o3.eqv hD e2
  obtain ⟨b1, k1, _, _, s1, s2⟩ := agree2 o1 o2' (by rw [Int.gcd_comm]; exact hg)
  have a1 := o1.eqv hD s1
  have a2 := o2'.eqv hD s2
  have oF : Ok D ⟨f.a * g'.a, b1, k1⟩ := ⟨pp, by have := a1.bar; dsimp only at *; rw [← this]; grind⟩
  obtain ⟨b, k, t, eb, s3, s4⟩ := agree2 oF o3' (by rw [Int.gcd_comm]; exact hh)
  have a3 := oF.eqv hD s3
  dsimp only at eb a3 s3 s4
  have hb : b * b - 4 * (f.a * g'.a * h'.a) * k = D := by have := a3.bar; dsimp only at this; rw [← this]; grind
  refine ⟨f.a, b, g'.a, h'.a, k, p1, p2, o3'.pos, hb, s1.trans ?_, (e1.trans s2).trans ?_, e2.trans ?_⟩
  · have := a1.bar
    dsimp only at this
    exact shift_to (t := g'.a * t) p1 this (by rw [eb]; grind) (by rw [← hb]; grind)
  · have := a2.bar
    dsimp only at this
    exact shift_to (t := f.a * t) p2 this (by rw [eb]; grind) (by rw [← hb]; grind)
  · exact s4
/-- joined in threes -/
theorem cp_assoc {D : Int} {f g h x y z w : Q} (hD : D < 0) (o1 : Ok D f) (o2 : Ok D g) (o3 : Ok D h) (b1 : Bare f) (b2 : Bare g) (b3 : Bare h) (ox : Ok D x) (oy : Ok D y) (oz : Ok D z) (ow : Ok D w) (bx : Bare x)
    (c1 : Cp f g x) (c2 : Cp x h y) (c3 : Cp g h z) (c4 : Cp f z w) : Eqv y w := by
  obtain ⟨a, b, d, e, k, pa, pd, pe, hb, ef, eg, eh⟩ := agree3 hD o1 o2 o3 b2 b3
  have of := o1.eqv hD ef
  have og := o2.eqv hD eg
  have oh := o3.eqv hD eh
  have pad := Int.mul_pos pa pd
  have pde := Int.mul_pos pd pe
  have ox' : Ok D ⟨a * d, b, e * k⟩ := ⟨pad, by dsimp only; rw [← hb]; grind⟩
  have oz' : Ok D ⟨d * e, b, a * k⟩ := ⟨pde, by dsimp only; rw [← hb]; grind⟩
  have oy' : Ok D ⟨a * d * e, b, k⟩ := ⟨Int.mul_pos pad pe, hb⟩
  have k1 : Cp ⟨a, b, d * e * k⟩ ⟨d, b, a * e * k⟩ ⟨a * d, b, e * k⟩ := by
    have := cp_agree a b d (e * k)
    rwa [← Int.mul_assoc, ← Int.mul_assoc] at this
  have k2 : Cp ⟨a * d, b, e * k⟩ ⟨e, b, a * d * k⟩ ⟨a * d * e, b, k⟩ := cp_agree (a * d) b e k
  have k3 : Cp ⟨d, b, a * e * k⟩ ⟨e, b, a * d * k⟩ ⟨d * e, b, a * k⟩ := by
    have := cp_agree d b e (a * k)
    have q1 : e * (a * k) = a * e * k := by grind
    have q2 : d * (a * k) = a * d * k := by grind
    rwa [q1, q2] at this
  have k4 : Cp ⟨a, b, d * e * k⟩ ⟨d * e, b, a * k⟩ ⟨a * d * e, b, k⟩ := by
    have := cp_agree a b (d * e) k
    rwa [← Int.mul_assoc] at this
  -- x is alike (ad, b, ek)
  have hx : Eqv x ⟨a * d, b, e * k⟩ := (((c1.pull hD o1 o2 ox ef).pull2 hD of o2 ox eg).one hD k1 of og ox ox' (b1.eqv ef))
  have hz : Eqv z ⟨d * e, b, a * k⟩ := (((c3.pull hD o2 o3 oz eg).pull2 hD og o3 oz eh).one hD k3 og oh oz oz' (b2.eqv eg))
  have hy : Eqv y ⟨a * d * e, b, k⟩ := (((c2.pull hD ox o3 oy hx).pull2 hD ox' o3 oy eh).one hD k2 ox' oh oy oy' (bx.eqv hx))
  have hw : Eqv w ⟨a * d * e, b, k⟩ := (((c4.pull hD o1 oz ow ef).pull2 hD of oz ow hz).one hD k4 of oz' ow oy' (b1.eqv ef))
  exact hy.trans hw.symm
end MG

/-! MH: the group of the classes of a bar -/
namespace MG
open MJ
/-! ### groups -/
class AbG (G : Type) where
  mul : G → G → G
  one : G
  inv : G → G
  comm : ∀ x y, mul x y = mul y x
  assoc : ∀ x y z, mul (mul x y) z = mul x (mul y z)
  mul_one : ∀ x, mul x one = x
  mul_inv : ∀ x, mul x (inv x) = one
section
variable {G : Type} [AbG G]
open AbG
theorem inv_mul (x : G) : mul (inv x) x = one := by rw [comm]; exact mul_inv x
theorem mul_cancelR {x y z : G} (h : mul x z = mul y z) : x = y := by
  have : mul (mul x z) (inv z) = mul (mul y z) (inv z) := by rw [h]
  rwa [assoc, assoc, mul_inv, mul_one, mul_one] at this
end
/-! ### the classes -/
structure Cls (D : Int) (f : Q) : Prop where
  ok : Ok D f
  bare : Bare f
  least : MT.Least f.a f.b f.c
theorem Cls.one {D : Int} {f g : Q} (h1 : Cls D f) (h2 : Cls D g) (e : Eqv f g) : f = g := by
  obtain ⟨p, q, r, s, l⟩ := e
  obtain ⟨e1, e2, e3⟩ := MT.least_unique h1.ok.pos h2.ok.pos h1.least h2.least l.det l.e1 l.e2 l.e3
  cases f; cases g
  simp_all
theorem zpos_of {x y z : Int} (hx : 0 < x) (hd : y * y - 4 * x * z < 0) : 0 < z := by
  refine Int.not_le.mp fun h => ?_
  have h1 := Int.mul_nonpos_of_nonneg_of_nonpos (show 0 ≤ 4 * x by omega) h
  have h2 := MT.sq_nonneg y
  omega
theorem least_ex' {D : Int} (hD : D < 0) : ∀ (n : Nat) (f : Q), f.a.toNat ≤ n → Ok D f → ∃ g : Q, Eqv f g ∧ MT.Least g.a g.b g.c := by
  intro n
  induction n with
  | zero => intro f h o; have := o.pos; omega
  | succ n ih =>
    intro f hn o
    have L1 := shift_eqv f ((f.a - f.b) / (2 * f.a))
    have ha := o.pos
    have h1 : (f.a - f.b) = 2 * f.a * ((f.a - f.b) / (2 * f.a)) + (f.a - f.b) % (2 * f.a) := (Int.mul_ediv_add_emod (f.a - f.b) (2 * f.a)).symm
    have h2 := Int.emod_nonneg (f.a - f.b) (show 2 * f.a ≠ 0 by omega)
    have h3 := Int.emod_lt_of_pos (f.a - f.b) (show 0 < 2 * f.a by omega)
    generalize (f.a - f.b) / (2 * f.a) = k at *
    have lo : -f.a < f.b + 2 * f.a * k := by omega
    have hi : f.b + 2 * f.a * k ≤ f.a := by omega
    have o1 := o.eqv hD L1
    generalize f.b + 2 * f.a * k = y at *
    generalize f.c + k * (f.b + f.a * k) = z at *
    have z0 := zpos_of (x := f.a) (y := y) (z := z) ha (by have := o1.bar; dsimp only at this; omega)
    by_cases h : f.a < z ∨ (f.a = z ∧ 0 ≤ y)
    · exact ⟨⟨f.a, y, z⟩, L1, ⟨lo, hi, by dsimp only; omega, fun e => by dsimp only at *; omega⟩⟩
    · have sw : Eqv ⟨f.a, y, z⟩ ⟨z, -y, f.a⟩ := by
        refine ⟨0, -1, 1, 0, by omega, ?_, ?_, ?_⟩ <;> (try unfold W) <;> dsimp only <;> grind
      have L2 := L1.trans sw
      by_cases e : f.a = z
      · exact ⟨⟨z, -y, f.a⟩, L2, ⟨by dsimp only; omega, by dsimp only; omega, by dsimp only; omega, fun _ => by dsimp only; omega⟩⟩
      · obtain ⟨g, l, L⟩ := ih ⟨z, -y, f.a⟩ (by dsimp only; omega) (o.eqv hD L2)
        exact ⟨g, L2.trans l, L⟩
theorem least_exQ {D : Int} (hD : D < 0) {f : Q} (o : Ok D f) : ∃ g : Q, Eqv f g ∧ MT.Least g.a g.b g.c := least_ex' hD f.a.toNat f (Nat.le_refl _) o
theorem cls_ex {D : Int} (hD : D < 0) {f : Q} (o : Ok D f) (b : Bare f) : ∃ g : Q, Eqv f g ∧ Cls D g := by
  obtain ⟨g, e, L⟩ := least_exQ hD o
  exact ⟨g, e, o.eqv hD e, b.eqv e, L⟩
def C (D : Int) : Type := { f : Q // Cls D f }
theorem mul_ex {D : Int} (hD : D < 0) (x y : C D) : ∃ z : C D, Cp x.1 y.1 z.1 := by
  obtain ⟨h, o, b, c⟩ := cp_ex hD x.2.ok y.2.ok x.2.bare y.2.bare
  obtain ⟨g, e, k⟩ := cls_ex hD o b
  exact ⟨⟨g, k⟩, c.target e⟩
theorem mul_one' {D : Int} (hD : D < 0) {x y z w : C D} (h1 : Cp x.1 y.1 z.1) (h2 : Cp x.1 y.1 w.1) : z = w := Subtype.ext (z.2.one w.2 (h1.one hD h2 x.2.ok y.2.ok z.2.ok w.2.ok x.2.bare))
/-- the neutral form -/
def nt (D : Int) : Q := ⟨1, D % 2, (D % 2 - D) / 4⟩
theorem nt_cls {D : Int} (hD : D < 0) (h4 : D % 4 = 0 ∨ D % 4 = 1) : Cls D (nt D) := by
  have e : (D % 2) * (D % 2) - 4 * 1 * ((D % 2 - D) / 4) = D := by rcases Int.emod_two_eq D with h | h <;> rw [h] <;> omega
  refine ⟨⟨by unfold nt; dsimp only; omega, by unfold nt; exact e⟩, ⟨1, 0, 0, by unfold nt; dsimp only; omega⟩, ?_⟩
  unfold nt
  rcases Int.emod_two_eq D with h | h
  · rw [h]; exact ⟨by dsimp only; omega, by dsimp only; omega, by dsimp only; omega, fun _ => by dsimp only; omega⟩
  · rw [h]; exact ⟨by dsimp only; omega, by dsimp only; omega, by dsimp only; omega, fun _ => by dsimp only; omega⟩
theorem nt_eqv {D : Int} {f : Q} (hD : D < 0) (h4 : D % 4 = 0 ∨ D % 4 = 1) (o : Ok D f) : Eqv (nt D) ⟨1, f.b, f.a * f.c⟩ := by
  obtain ⟨t, e⟩ := bar_parity o
  have k := (nt_cls hD h4).ok.bar
  unfold nt at *
  dsimp only at k ⊢
  exact shift_to (t := t) (by decide) k (by rw [e]; omega) (by have := o.bar; rw [← this]; grind)
theorem cp_nt {D : Int} {f : Q} (hD : D < 0) (h4 : D % 4 = 0 ∨ D % 4 = 1) (o : Ok D f) : Cp f (nt D) f := by
  have c := cp_agree f.a f.b 1 f.c
  rw [Int.one_mul, Int.mul_one] at c
  have e := nt_eqv hD h4 o
  exact c.pull2 hD o ((nt_cls hD h4).ok.eqv hD e) o e.symm
def op (f : Q) : Q := ⟨f.a, -f.b, f.c⟩
theorem op_ok {D : Int} {f : Q} (o : Ok D f) : Ok D (op f) := ⟨o.pos, by have := o.bar; unfold op; dsimp only; rw [← this]; grind⟩
theorem op_bare {f : Q} (b : Bare f) : Bare (op f) := by
  obtain ⟨l1, l2, l3, h⟩ := b
  exact ⟨l1, -l2, l3, by unfold op; dsimp only; rw [← h]; grind⟩
theorem cp_op {D : Int} {f : Q} (hD : D < 0) (h4 : D % 4 = 0 ∨ D % 4 = 1) (o : Ok D f) : Cp f (op f) (nt D) := by
  have c0 : 0 < f.c := zpos_of o.pos (by rw [o.bar]; exact hD)
  have c := cp_agree f.a f.b f.c 1
  rw [Int.mul_one, Int.mul_one] at c
  have sw : ∀ x y z : Int, Eqv ⟨x, y, z⟩ ⟨z, -y, x⟩ := fun x y z => by
    refine ⟨0, -1, 1, 0, by omega, ?_, ?_, ?_⟩ <;> (try unfold W) <;> dsimp only <;> grind
  have o2 : Ok D ⟨f.c, f.b, f.a⟩ := ⟨c0, by have := o.bar; dsimp only; rw [← this]; grind⟩
  have o3 : Ok D ⟨f.a * f.c, f.b, 1⟩ := ⟨Int.mul_pos o.pos c0, by have := o.bar; dsimp only; rw [← this]; grind⟩
  have c1 : Cp f (op f) ⟨f.a * f.c, f.b, 1⟩ := c.pull2 hD o o2 o3 (sw f.c f.b f.a)
  refine c1.target ((sw _ _ _).trans ?_)
  have := nt_eqv hD h4 (op_ok o)
  exact this.symm
structure BarD (D : Int) : Prop where
  neg : D < 0
  four : D % 4 = 0 ∨ D % 4 = 1
/-- THE GROUP of the classes of a bar -/
noncomputable def grp {D : Int} (h : BarD D) : AbG (C D) where
  mul x y := Classical.choose (mul_ex h.neg x y)
  one := ⟨nt D, nt_cls h.neg h.four⟩
  inv x := ⟨Classical.choose (cls_ex h.neg (op_ok x.2.ok) (op_bare x.2.bare)), (Classical.choose_spec (cls_ex h.neg (op_ok x.2.ok) (op_bare x.2.bare))).2⟩
  comm x y := mul_one' h.neg (Classical.choose_spec (mul_ex h.neg x y)) (Classical.choose_spec (mul_ex h.neg y x)).swap
  assoc x y z := by
    have c1 := Classical.choose_spec (mul_ex h.neg x y)
    generalize Classical.choose (mul_ex h.neg x y) = xy at *
    have c2 := Classical.choose_spec (mul_ex h.neg xy z)
    generalize Classical.choose (mul_ex h.neg xy z) = xyz at *
    have c3 := Classical.choose_spec (mul_ex h.neg y z)
    generalize Classical.choose (mul_ex h.neg y z) = yz at *
    have c4 := Classical.choose_spec (mul_ex h.neg x yz)
    generalize Classical.choose (mul_ex h.neg x yz) = w at *
    exact Subtype.ext (xyz.2.one w.2 (cp_assoc h.neg x.2.ok y.2.ok z.2.ok x.2.bare y.2.bare z.2.bare xy.2.ok xyz.2.ok yz.2.ok w.2.ok xy.2.bare c1 c2 c3 c4))
  mul_one x := by
    have c1 := Classical.choose_spec (mul_ex h.neg x ⟨nt D, nt_cls h.neg h.four⟩)
    exact mul_one' h.neg c1 (cp_nt h.neg h.four x.2.ok)
  mul_inv x := by
    have c1 := Classical.choose_spec (mul_ex h.neg x ⟨Classical.choose (cls_ex h.neg (op_ok x.2.ok) (op_bare x.2.bare)), (Classical.choose_spec (cls_ex h.neg (op_ok x.2.ok) (op_bare x.2.bare))).2⟩)
    have e := (Classical.choose_spec (cls_ex h.neg (op_ok x.2.ok) (op_bare x.2.bare))).1
    refine mul_one' h.neg c1 ?_
    exact (cp_op h.neg h.four x.2.ok).pull2 h.neg x.2.ok (op_ok x.2.ok) (nt_cls h.neg h.four).ok e
theorem grp_mul {D : Int} (h : BarD D) (x y : C D) : Cp x.1 y.1 ((grp h).mul x y).1 := Classical.choose_spec (mul_ex h.neg x y)
end MG

/-! CG: forms and classes -/
namespace CM
open PySem PySem.Spec L2 FL FT MG
abbrev qD (q : Q) : D := formD q.a q.b q.c
theorem fzQ (q : Q) : Fz (qD q) := fz3 _ _ _
theorem bare_gcd {q : Q} (h : Bare q) : Int.gcd (Int.gcd q.a q.b) q.c = 1 := by
  obtain ⟨l1, l2, l3, hl⟩ := h
  have d1 : ((Int.gcd (Int.gcd q.a q.b) q.c : Nat) : Int) ∣ ((Int.gcd q.a q.b : Nat) : Int) := Int.gcd_dvd_left _ _
  have da := Int.dvd_trans d1 (Int.gcd_dvd_left q.a q.b)
  have db := Int.dvd_trans d1 (Int.gcd_dvd_right q.a q.b)
  have dc : ((Int.gcd (Int.gcd q.a q.b) q.c : Nat) : Int) ∣ q.c := Int.gcd_dvd_right _ _
  have : ((Int.gcd (Int.gcd q.a q.b) q.c : Nat) : Int) ∣ ((1 : Nat) : Int) := by
    show _ ∣ (1 : Int)
    rw [← hl]
    exact Int.dvd_add (Int.dvd_add (Int.dvd_mul_of_dvd_right da) (Int.dvd_mul_of_dvd_right db)) (Int.dvd_mul_of_dvd_right dc)
  exact Nat.dvd_one.mp (Int.natCast_dvd_natCast.mp this)
theorem gcd_bare {q : Q} (h : Int.gcd (Int.gcd q.a q.b) q.c = 1) : Bare q := bez_of h
/-- a bar of moderate size -/
structure BarS (i : Int) : Prop where
  d : BarD i
  s : Bd i 1200
section
variable {X : Cx} {e1 e2 : Expr} {ρ : Ro} {p0 p1 p2 p3 : Pos} {m : Nat} {i : Int}
end
/-! ### repeated -/
def p_require_whole (ds : List D) (d : D) : Prop := ∃ n : Int, ds = [.int n] ∧ d = .non
def p_require_number (ds : List D) (d : D) : Prop := ∃ n l h : Int, ds = [.int n, .int l, .int h] ∧ l ≤ n ∧ n ≤ h ∧ d = .non
end CM
namespace CM
open PySem PySem.Spec L2 FL FT MG
end CM

/-! FY: x += e; range with a step; | 1 -/
namespace FL
open PySem PySem.Spec PyProof.Rows L2
section
variable {X : Cx} {e a b c tg : Expr} {es : List Expr} {ρ : Ro} {d : D} {ds : List D} {pos : Pos} {i j k : Int} {rest A B : List Stmt} {P : Po}
theorem do_aug (n : Nat) {x : Str} {pos' : Pos} (hρ : ρ[n]? = some (some (.int i))) (he : Ev X e ρ (.int j)) (h : Do X rest (ρ.set n (some (.int (i + j)))) P) (hN : X.N.Nodup) (hi : X.N[n]? = some x := by rfl) (hx : Loc X.env.scope x := by first | exact Or.inl rfl | exact Or.inr rfl)
    (hf : X.fn x = true ∨ X.env.scope.names.lookup x = some .local := by first | exact .inl rfl | exact .inr rfl) : Do X (.AugAssign (.Name x pos') .Add e pos :: rest) ρ P := by
  refine do_seq (M := fun ρ' => ρ' = ρ.set n (some (.int (i + j)))) (PS.imp (ps_aug hN hi hx he ip_add hf) ?_) (fun _ z => z ▸ h)
  rintro D σ H ⟨r, q1, q2, q3, q4⟩
  obtain ⟨v, e1, h1, _⟩ := r.val n _ hρ
  cases h1.int_inv
  refine ⟨.int i, e1, r.e, fun v H' s h' => ?_⟩
  cases h'.int_inv
  exact ⟨i, j, rfl, rfl, q1 _ H' _ (Go.set s fun a ds z => by cases z) ((r.mono s).set (.int _) n (.inl (.int _)) fun a ds z => by cases z) rfl⟩
end
section
variable {X : Cx} {e a b c tg : Expr} {es : List Expr} {ρ : Ro} {d : D} {ds : List D} {pos : Pos} {i j k : Int} {rest A B : List Stmt} {P : Po}
end
end FL

/-! MF: powers by a prime -/
namespace MP
/-- leaves the same by p -/
def Sm (p a b : Int) : Prop := p ∣ a - b
theorem Sm.refl (p a : Int) : Sm p a a := by unfold Sm; rw [Int.sub_self]; exact Int.dvd_zero _
theorem Sm.symm {p a b : Int} (h : Sm p a b) : Sm p b a := by
  unfold Sm at *
  have := Int.dvd_neg.mpr h
  rwa [Int.neg_sub] at this
theorem Sm.trans {p a b c : Int} (h : Sm p a b) (g : Sm p b c) : Sm p a c := by
  unfold Sm at *
  have := Int.dvd_add h g
  have e : a - b + (b - c) = a - c := by omega
  rwa [e] at this
theorem Sm.mul {p a b c d : Int} (h : Sm p a b) (g : Sm p c d) : Sm p (a * c) (b * d) := by
  unfold Sm at *
  have := Int.dvd_add (Int.dvd_mul_of_dvd_left (c := c) h) (Int.dvd_mul_of_dvd_right (b := b) g)
  have e : (a - b) * c + b * (c - d) = a * c - b * d := by grind
  rwa [e] at this
theorem Sm.pow {p a b : Int} (h : Sm p a b) (n : Nat) : Sm p (a ^ n) (b ^ n) := by
  induction n with
  | zero => rw [Int.pow_zero, Int.pow_zero]; exact .refl _ _
  | succ n ih => rw [Int.pow_succ, Int.pow_succ]; exact ih.mul h
theorem Sm.mod (p a : Int) : Sm p (a % p) a := by
  refine Sm.symm ⟨a / p, ?_⟩
  have := Int.mul_ediv_add_emod a p
  omega
theorem Sm.of_mod {p a b : Int} (h : a % p = b % p) : Sm p a b := ((Sm.mod p a).symm.trans (by rw [h]; exact .refl _ _)).trans (Sm.mod p b)
theorem Sm.emod {p a b : Int} (h : Sm p a b) : a % p = b % p := Int.emod_eq_emod_iff_emod_sub_eq_zero.mpr (Int.emod_eq_zero_of_dvd h)
theorem Pr.cancel {p : Nat} (hp : Pr p) {a b c : Int} (hc : ¬ (p : Int) ∣ c) (h : Sm p (a * c) (b * c)) : Sm p a b := by
  unfold Sm at *
  have e : a * c - b * c = (a - b) * c := by grind
  rw [e] at h
  rcases hp.imul h with h | h
  · exact h
  · exact absurd h hc
/-! ### Fermat -/
def prodZ : List Int → Int
  | [] => 1
  | x :: xs => x * prodZ xs
theorem prodZ_perm {l m : List Int} (h : l.Perm m) : prodZ l = prodZ m := by
  induction h with
  | nil => rfl
  | cons x _ ih => show x * _ = x * _; rw [ih]
  | swap x y l => show y * (x * _) = x * (y * _); grind
  | trans _ _ h1 h2 => rw [h1, h2]
theorem prodZ_scale {p a : Int} (l : List Int) : Sm p (prodZ (l.map fun i => a * i % p)) (a ^ l.length * prodZ l) := by
  induction l with
  | nil => show Sm p 1 (a ^ 0 * 1); rw [Int.pow_zero, Int.mul_one]; exact .refl _ _
  | cons x xs ih =>
    show Sm p (a * x % p * _) (a ^ (xs.length + 1) * (x * prodZ xs))
    have e : a ^ (xs.length + 1) * (x * prodZ xs) = (a * x) * (a ^ xs.length * prodZ xs) := by rw [Int.pow_succ]; grind
    rw [e]
    exact (Sm.mod p (a * x)).mul ih
/-- 1 to p - 1 -/
def res (p : Nat) : List Int := (List.range (p - 1)).map fun i => ((i : Nat) : Int) + 1
theorem mem_res {p : Nat} {x : Int} : x ∈ res p ↔ 0 < x ∧ x < p := by
  unfold res
  simp only [List.mem_map, List.mem_range]
  constructor
  · rintro ⟨i, hi, rfl⟩
    omega
  · rintro ⟨h1, h2⟩
    exact ⟨(x - 1).toNat, by omega, by omega⟩
theorem res_nodup (p : Nat) : (res p).Nodup := by
  unfold res
  rw [List.nodup_iff_pairwise_ne, List.pairwise_map]
  have := (List.nodup_range (n := p - 1))
  rw [List.nodup_iff_pairwise_ne] at this
  exact this.imp fun h e => h (by omega)
theorem small_ndvd {p : Nat} {x : Int} (h1 : 0 < x) (h2 : x < p) : ¬ (p : Int) ∣ x := fun h => by
  have := Int.le_of_dvd h1 h
  omega
theorem Pr.inv {p : Nat} (hp : Pr p) {a : Int} (ha : ¬ (p : Int) ∣ a) : ∃ b : Int, Sm p (a * b) 1 := by
  obtain ⟨x, y, e⟩ := ME.bez (p : Int) a
  have g : Int.gcd (p : Int) a = 1 := by
    have h0 : ¬ p ∣ a.natAbs := fun z => ha (icd.mpr z)
    exact hp.cop h0
  rw [g] at e
  refine ⟨y, ⟨-x, ?_⟩⟩
  have e' : x * p + y * a = 1 := e
  grind
theorem scale_perm {p : Nat} (hp : Pr p) {a : Int} (ha : ¬ (p : Int) ∣ a) : ((res p).map fun i => a * i % p).Perm (res p) := by
  have p0 : (0 : Int) < p := by have := hp.1; omega
  have nz : ∀ i ∈ res p, ¬ (p : Int) ∣ i := fun i hi => small_ndvd (mem_res.mp hi).1 (mem_res.mp hi).2
  refine (List.perm_ext_iff_of_nodup ?_ (res_nodup p)).mpr fun x => ?_
  · rw [List.nodup_iff_pairwise_ne, List.pairwise_map]
    have := res_nodup p
    rw [List.nodup_iff_pairwise_ne] at this
    refine List.Pairwise.imp_of_mem ?_ this
    intro i j hi hj hne e
    refine hne ?_
    have k : Sm p (i * a) (j * a) := by
      have := Sm.of_mod (p := (p : Int)) e
      rwa [Int.mul_comm a i, Int.mul_comm a j] at this
    have := (hp.cancel ha k).emod
    have hi' := mem_res.mp hi
    have hj' := mem_res.mp hj
    rwa [Int.emod_eq_of_lt (by omega) hi'.2, Int.emod_eq_of_lt (by omega) hj'.2] at this
  · constructor
    · intro h
      obtain ⟨i, hi, rfl⟩ := List.mem_map.mp h
      refine mem_res.mpr ⟨?_, Int.emod_lt_of_pos _ p0⟩
      have h1 := Int.emod_nonneg (a * i) (show (p : Int) ≠ 0 by omega)
      have h2 : a * i % p ≠ 0 := fun z => by
        rcases hp.imul (Int.dvd_of_emod_eq_zero z) with h | h
        · exact ha h
        · exact nz i hi h
      omega
    · intro h
      obtain ⟨b, hb⟩ := hp.inv ha
      have hx := mem_res.mp h
      have nb : ¬ (p : Int) ∣ b := fun z => by
        have : (p : Int) ∣ 1 := by
          have h1 : (p : Int) ∣ a * b := Int.dvd_mul_of_dvd_right z
          have := Int.dvd_sub h1 hb
          have e : a * b - (a * b - 1) = 1 := by omega
          rwa [e] at this
        exact hp.one this
      refine List.mem_map.mpr ⟨b * x % p, mem_res.mpr ⟨?_, Int.emod_lt_of_pos _ p0⟩, ?_⟩
      · have h1 := Int.emod_nonneg (b * x) (show (p : Int) ≠ 0 by omega)
        have h2 : b * x % p ≠ 0 := fun z => by
          rcases hp.imul (Int.dvd_of_emod_eq_zero z) with h | h
          · exact nb h
          · exact small_ndvd hx.1 hx.2 h
        omega
      · have k : Sm p (a * (b * x % p)) x := by
          refine ((Sm.refl (p : Int) a).mul (Sm.mod p (b * x))).trans ?_
          have := hb.mul (Sm.refl (p : Int) x)
          have e : a * b * x = a * (b * x) := by grind
          rwa [e, Int.one_mul] at this
        have := k.emod
        rwa [Int.emod_eq_of_lt (by omega) hx.2] at this
theorem fermat {p : Nat} (hp : Pr p) {a : Int} (ha : ¬ (p : Int) ∣ a) : Sm p (a ^ (p - 1)) 1 := by
  have h1 := prodZ_scale (p := (p : Int)) (a := a) (res p)
  rw [prodZ_perm (scale_perm hp ha)] at h1
  have hl : (res p).length = p - 1 := by unfold res; simp
  rw [hl] at h1
  have np : ∀ l : List Int, (∀ i ∈ l, ¬ (p : Int) ∣ i) → ¬ (p : Int) ∣ prodZ l := fun l => by
    induction l with
    | nil => intro _ h; exact hp.one h
    | cons x xs ih =>
      intro h z
      rcases hp.imul z with z | z
      · exact h x List.mem_cons_self z
      · exact ih (fun i hi => h i (List.mem_cons_of_mem _ hi)) z
  refine hp.cancel (np (res p) fun i hi => small_ndvd (mem_res.mp hi).1 (mem_res.mp hi).2) ?_
  rw [Int.one_mul]
  exact h1.symm
/-! ### roots -/
def IsPoly : Nat → Int → (Int → Int) → Prop
  | 0, c, f => ∀ x, f x = c
  | n + 1, c, f => ∃ c0 g, IsPoly n c g ∧ ∀ x, f x = c0 + x * g x
theorem IsPoly.low {r : Int} : ∀ {n : Nat} {c c' : Int} {g h : Int → Int}, IsPoly (n + 1) c g → IsPoly n c' h → IsPoly (n + 1) c (fun x => g x + r * h x)
  | 0, c, c', g, h, ⟨c0, g1, h1, h2⟩, hh => ⟨c0 + r * c', g1, h1, fun x => by show g x + r * h x = _; rw [h2, hh]; grind⟩
  | n + 1, c, c', g, h, ⟨c0, g1, h1, h2⟩, ⟨d0, k, k1, k2⟩ => ⟨c0 + r * d0, _, IsPoly.low (r := r) h1 k1, fun x => by show g x + r * h x = _; rw [h2, k2]; grind⟩
theorem IsPoly.div : ∀ {n : Nat} {c : Int} {f : Int → Int}, IsPoly (n + 1) c f → ∀ r, ∃ q, IsPoly n c q ∧ ∀ x, f x - f r = (x - r) * q x
  | 0, c, f, ⟨c0, g, h1, h2⟩, r => ⟨fun _ => c, fun _ => rfl, fun x => by rw [h2, h2, h1, h1]; grind⟩
  | n + 1, c, f, ⟨c0, g, h1, h2⟩, r => by
    obtain ⟨q, hq, hx⟩ := IsPoly.div h1 r
    refine ⟨_, IsPoly.low (r := r) h1 hq, fun x => ?_⟩
    have := hx x
    show f x - f r = (x - r) * (g x + r * q x)
    rw [h2, h2]
    grind
theorem IsPoly.roots {p : Nat} (hp : Pr p) : ∀ {n : Nat} {c : Int} {f : Int → Int}, IsPoly n c f → ¬ (p : Int) ∣ c → ∀ l : List Int, l.Pairwise (fun x y => ¬ Sm p x y) → (∀ x ∈ l, (p : Int) ∣ f x) → l.length ≤ n
  | 0, c, f, h, hc, l, _, hr => by
    cases l with
    | nil => simp
    | cons x xs => exact absurd (h x ▸ hr x List.mem_cons_self) hc
  | n + 1, c, f, h, hc, l, hd, hr => by
    cases l with
    | nil => simp
    | cons r xs =>
      obtain ⟨q, hq, hx⟩ := h.div r
      have hd' := List.pairwise_cons.mp hd
      have := IsPoly.roots hp hq hc xs hd'.2 fun x hxs => by
        have h1 : (p : Int) ∣ (x - r) * q x := by
          rw [← hx]
          exact Int.dvd_sub (hr x (List.mem_cons_of_mem _ hxs)) (hr r List.mem_cons_self)
        rcases hp.imul h1 with h | h
        · exact absurd (Sm.symm h) (hd'.1 x hxs)
        · exact h
      simp
      omega
theorem isPoly_pow : ∀ n : Nat, IsPoly n 1 (fun x => x ^ n)
  | 0 => fun x => Int.pow_zero x
  | n + 1 => ⟨0, _, isPoly_pow n, fun x => by show x ^ (n + 1) = _; rw [Int.pow_succ]; grind⟩
theorem isPoly_pow1 (n : Nat) : IsPoly (n + 1) 1 (fun x => x ^ (n + 1) - 1) := ⟨-1, _, isPoly_pow n, fun x => by show x ^ (n + 1) - 1 = _; rw [Int.pow_succ]; grind⟩
/-- Euler's rule -/
theorem euler {p h : Nat} (hp : Pr p) (hh : p = 2 * h + 1) {a : Int} (ha : ¬ (p : Int) ∣ a) : Sm p (a ^ h) 1 ↔ ∃ x : Int, 0 < x ∧ x < p ∧ Sm p (x * x) a := by
  have h1 : 1 ≤ h := by have := hp.1; omega
  constructor
  · intro he
    refine Classical.byContradiction fun hc => ?_
    have nsq : ∀ x : Int, 0 < x → x < p → ¬ Sm p (x * x) a := fun x hx hx' z => hc ⟨x, hx, hx', z⟩
    obtain ⟨k, rfl⟩ : ∃ k, h = k + 1 := ⟨h - 1, by omega⟩
    let sq : List Int := (List.range (k + 1)).map fun i => (((i : Nat) : Int) + 1) * (((i : Nat) : Int) + 1)
    have len : (a :: sq).length = k + 2 := by simp [sq]
    have := IsPoly.roots hp (isPoly_pow1 k) hp.one (a :: sq) ?_ ?_
    · omega
    · refine List.pairwise_cons.mpr ⟨fun y hy z => ?_, ?_⟩
      · obtain ⟨i, hi, rfl⟩ := List.mem_map.mp hy
        have := List.mem_range.mp hi
        exact nsq ((i : Int) + 1) (by omega) (by omega) z.symm
      · rw [List.pairwise_map]
        have nr := List.nodup_range (n := k + 1)
        rw [List.nodup_iff_pairwise_ne] at nr
        refine List.Pairwise.imp_of_mem ?_ nr
        intro i j hi hj hne z
        have hi' := List.mem_range.mp hi
        have hj' := List.mem_range.mp hj
        unfold Sm at z
        have e : ((i : Int) + 1) * ((i : Int) + 1) - ((j : Int) + 1) * ((j : Int) + 1) = ((i : Int) - j) * ((i : Int) + j + 2) := by grind
        rw [e] at z
        rcases hp.imul z with z | z
        · have : (p : Int) ∣ (((i : Int) - j).natAbs : Int) := Int.dvd_natAbs.mpr z
          have := Int.le_of_dvd (by omega) this
          omega
        · have := Int.le_of_dvd (by omega) z
          omega
    · intro x hx
      rcases List.mem_cons.mp hx with rfl | hx
      · exact he
      · obtain ⟨i, hi, rfl⟩ := List.mem_map.mp hx
        have hi' := List.mem_range.mp hi
        have nd := small_ndvd (p := p) (x := (i : Int) + 1) (by omega) (by omega)
        have f := fermat hp nd
        have e : p - 1 = 2 * (k + 1) := by omega
        rw [e, Int.pow_mul] at f
        have e2 : ((i : Int) + 1) ^ 2 = ((i : Int) + 1) * ((i : Int) + 1) := by rw [Int.pow_succ, Int.pow_succ, Int.pow_zero, Int.one_mul]
        rw [e2] at f
        exact f
  · rintro ⟨x, hx, hx', z⟩
    have nd := small_ndvd hx hx'
    have f := fermat hp nd
    have e : p - 1 = 2 * h := by omega
    rw [e, Int.pow_mul] at f
    have e2 : x ^ 2 = x * x := by rw [Int.pow_succ, Int.pow_succ, Int.pow_zero, Int.one_mul]
    rw [e2] at f
    exact (z.symm.pow h).trans f
end MP

/-! C18: primes told -/
namespace CM
open PySem PySem.Spec L2 FL FT MP
def p_require_bar_from (ds : List D) (d : D) : Prop := ∃ i l : Int, ds = [.int i, .int l] ∧ i < 0 ∧ (i % 4 = 0 ∨ i % 4 = 1) ∧ l ≤ i ∧ d = .non
/-- a prime among whole numbers -/
structure PrI (p : Int) : Prop where
  pos : 0 ≤ p
  pr : Pr p.toNat
  le : p ≤ 10000
theorem PrI.cast {p : Int} (h : PrI p) : ((p.toNat : Nat) : Int) = p := Int.toNat_of_nonneg h.pos
theorem PrI.nd {p k : Int} (h : PrI p) (h1 : 2 ≤ k) (h2 : k < p) : p % k ≠ 0 := fun z => by
  have hd : k ∣ p := Int.dvd_of_emod_eq_zero z
  have hd' : k.toNat ∣ p.toNat := by
    have e1 : ((k.toNat : Nat) : Int) = k := Int.toNat_of_nonneg (by omega)
    rw [← Int.natCast_dvd_natCast, e1, h.cast]
    exact hd
  rcases h.pr.2 _ hd' with e | e <;> omega
/-- a middle number of the bar by 4 p -/
def Mid (i p m : Int) : Prop := 0 ≤ m ∧ m < 2 * p ∧ m % 2 = i % 2 ∧ (m * m - i) % (4 * p) = 0
theorem pow_half (p f s : Int) (n : Nat) : Sm p (f * s ^ n) ((if n % 2 = 1 then f * s % p else f) * (s * s % p) ^ (n / 2)) := by
  have e : s ^ n = (if n % 2 = 1 then s else 1) * (s * s) ^ (n / 2) := by
    have e2 : (s * s) ^ (n / 2) = s ^ (2 * (n / 2)) := by
      rw [Int.pow_mul]
      congr 1
      rw [Int.pow_succ, Int.pow_succ, Int.pow_zero, Int.one_mul]
    rw [e2]
    rcases Nat.mod_two_eq_zero_or_one n with h | h
    · rw [if_neg (by omega), Int.one_mul]
      congr 1
      omega
    · rw [if_pos h]
      have : n = 2 * (n / 2) + 1 := by omega
      generalize n / 2 = k at *
      rw [this, Int.pow_succ, Int.mul_comm]
  rw [e]
  have k1 : Sm p ((s * s) ^ (n / 2)) ((s * s % p) ^ (n / 2)) := (Sm.mod p (s * s)).symm.pow _
  rcases Nat.mod_two_eq_zero_or_one n with h | h
  · rw [if_neg (by omega), if_neg (by omega), Int.one_mul]
    exact (Sm.refl p f).mul k1
  · rw [if_pos h, if_pos h, ← Int.mul_assoc]
    exact (Sm.mod p (f * s)).symm.mul k1
/-- Euler's rule for the bar -/
theorem mid_iff {i p : Int} (hp : PrI p) (h3 : 3 ≤ p) (h4 : i % 4 = 0 ∨ i % 4 = 1) (hi : i % p ≠ 0) : (∃ m, Mid i p m) ↔ i ^ (p / 2).toNat % p = 1 % p := by
  have odd : p % 2 = 1 := by
    have := hp.nd (k := 2) (by decide) (by omega)
    omega
  have hh : p.toNat = 2 * (p / 2).toNat + 1 := by omega
  have nd : ¬ ((p.toNat : Nat) : Int) ∣ i := fun z => hi (by rw [hp.cast] at z; exact Int.emod_eq_zero_of_dvd z)
  have E := euler hp.pr hh nd
  rw [hp.cast] at E
  constructor
  · rintro ⟨m, m0, m1, m2, m3⟩
    refine (E.mpr ?_).emod
    have d4 : 4 * p ∣ m * m - i := Int.dvd_of_emod_eq_zero m3
    have dp : Sm p (m * m) i := Int.dvd_trans ⟨4, by omega⟩ d4
    have nm : m % p ≠ 0 := fun z => hi (by
      have h1 : p ∣ m := Int.dvd_of_emod_eq_zero z
      have h2 : p ∣ m * m := Int.dvd_mul_of_dvd_left h1
      have := Int.dvd_sub h2 dp
      have e : m * m - (m * m - i) = i := by omega
      rw [e] at this
      exact Int.emod_eq_zero_of_dvd this)
    refine ⟨m % p, ?_, Int.emod_lt_of_pos _ (by omega), ((Sm.mod p m).mul (Sm.mod p m)).trans dp⟩
    have := Int.emod_nonneg m (show p ≠ 0 by omega)
    omega
  · intro h
    obtain ⟨x, x0, x1, hx⟩ := E.mp (Sm.of_mod h)
    -- x or x + p has the bar's oddness
    have key : ∀ m : Int, 0 ≤ m → m < 2 * p → m % 2 = i % 2 → Sm p (m * m) i → Mid i p m := fun m m0 m1 m2 hm => by
      refine ⟨m0, m1, m2, ?_⟩
      have d4 : (4 : Int) ∣ m * m - i := by
        rcases Int.emod_two_eq m with h | h
        · have e : m = 2 * (m / 2) := by omega
          generalize m / 2 = t at e
          have : m * m = 4 * (t * t) := by rw [e]; grind
          omega
        · have e : m = 2 * (m / 2) + 1 := by omega
          generalize m / 2 = t at e
          have : m * m = 4 * (t * t + t) + 1 := by rw [e]; grind
          omega
      have g : Int.gcd 4 p = 1 := by
        have h1 := Int.gcd_dvd_left 4 p
        have h2 := Int.gcd_dvd_right 4 p
        refine MP.gcd_one_of (by omega) fun q hq hqp hq4 => ?_
        have l1 := Int.le_of_dvd (by decide) hq4
        have q2 := hq.1
        have : (q : Int) = 2 ∨ (q : Int) = 3 ∨ (q : Int) = 4 := by omega
        rcases this with e | e | e
        · rw [e] at hqp
          have := Int.emod_eq_zero_of_dvd hqp
          omega
        · rw [e] at hq4
          have := Int.emod_eq_zero_of_dvd hq4
          omega
        · rw [e] at hqp
          have := Int.emod_eq_zero_of_dvd hqp
          omega
      exact Int.emod_eq_zero_of_dvd (MG.cop_dvd g d4 hm)
    by_cases hpar : x % 2 = i % 2
    · exact ⟨x, key x (by omega) (by omega) hpar hx⟩
    · refine ⟨x + p, key (x + p) (by omega) (by omega) (by omega) ?_⟩
      refine Sm.trans ?_ hx
      exact ⟨2 * x + p, by grind⟩
end CM
namespace CM
open PySem PySem.Spec L2 FL FT MP
/-! ### the asker's prime -/
theorem pr_of {r : Int} (h1 : 2 < r) (h2 : r % 2 = 1) (h : ∀ q : Int, 3 ≤ q → q % 2 = 1 → q * q ≤ r → r % q ≠ 0) : Pr r.toNat := by
  refine ⟨by omega, fun d hd => ?_⟩
  refine Classical.byContradiction fun hc => ?_
  have hd0 : d ≠ 0 := fun z => by
    subst z
    have := Nat.eq_zero_of_zero_dvd hd
    omega
  have hle := Nat.le_of_dvd (by omega) hd
  obtain ⟨e, he⟩ := hd
  have er : r = (d : Int) * e := by
    have := congrArg (fun x : Nat => (x : Int)) he
    simp only [Int.natCast_mul] at this
    rw [Int.toNat_of_nonneg (by omega)] at this
    exact this
  have d1 : d ≠ 1 := fun z => hc (.inl z)
  have d2 : d ≠ r.toNat := fun z => hc (.inr z)
  have e1 : e ≠ 1 := fun z => by
    subst z
    omega
  have e0 : e ≠ 0 := fun z => by
    subst z
    omega
  have odd : ∀ x y : Nat, r = (x : Int) * y → x ≠ 0 → x ≠ 1 → x ≤ y → False := fun x y hr x0 x1 xy => by
    have hm : r % (x : Int) = 0 := by rw [hr]; exact Int.mul_emod_right _ _
    have xo : (x : Int) % 2 = 1 := by
      rcases Int.emod_two_eq (x : Int) with z | z
      · have : (x : Int) = 2 * ((x : Int) / 2) := by omega
        generalize (x : Int) / 2 = t at this
        rw [this] at hr
        have : r = 2 * (t * y) := by rw [hr]; grind
        omega
      · exact z
    refine h (x : Int) (by omega) xo ?_ hm
    rw [hr]
    exact Int.mul_le_mul_of_nonneg_left (by omega) (by omega)
  rcases Nat.le_total d e with z | z
  · exact odd d e er hd0 d1 z
  · exact odd e d (by rw [er]; exact Int.mul_comm _ _) e0 e1 z
def noDiv (n : Nat) : Bool := (List.range 50).all fun t => decide ((2 * t + 3) * (2 * t + 3) > n) || n % (2 * t + 3) != 0
theorem pr_check {n : Nat} (h1 : 2 < n) (h2 : n % 2 = 1) (h3 : n < 10000) (h : noDiv n = true) : Pr n := by
  have := pr_of (r := (n : Int)) (by omega) (by omega) (fun q q3 qo qq => ?_)
  · simpa using this
  · have hq : q < 100 := by
      refine Int.not_le.mp fun z => ?_
      have := Int.mul_le_mul z z (by omega) (by omega)
      omega
    have := List.all_eq_true.mp h ((q - 3) / 2).toNat (List.mem_range.mpr (by omega))
    simp only [Bool.or_eq_true, decide_eq_true_eq, bne_iff_ne, ne_eq] at this
    have e : (2 * ((q - 3) / 2).toNat + 3 : Nat) = q.toNat := by omega
    rw [e] at this
    rcases this with z | z
    · have : (q.toNat * q.toNat : Nat) = (q * q).toNat := by
        have : ((q.toNat * q.toNat : Nat) : Int) = q * q := by rw [Int.natCast_mul, Int.toNat_of_nonneg (by omega)]
        omega
      omega
    · intro w
      refine z ?_
      have : ((n % q.toNat : Nat) : Int) = (n : Int) % q := by rw [Int.natCast_emod, Int.toNat_of_nonneg (by omega)]
      omega
end CM

/-! CL: the least forms of a bar, and its classes -/
namespace CM
open PySem PySem.Spec L2 FL FT MG
def lfC (i a b : Int) : Bool := decide ((b * b - i) % (4 * a) = 0) && MT.leastB a b ((b * b - i) / (4 * a))
def lfQ (i a b : Int) : Q := ⟨a, b, (b * b - i) / (4 * a)⟩
/-- those with a given first number, the first n middle ones -/
def lfN (i a : Int) (n : Nat) : List Q := (((List.range n).map fun (t : Nat) => -a + (t : Int)).filter (lfC i a)).map (lfQ i a)
def lfA (i a : Int) : List Q := lfN i a (2 * a + 1).toNat
def lfs (i : Int) (n : Nat) : List Q := (List.range n).flatMap fun (t : Nat) => lfA i ((t : Int) + 1)
/-- all least forms of a bar -/
def LF (i : Int) : List Q := lfs i 40
theorem lfN_succ (i a : Int) (n : Nat) : lfN i a (n + 1) = lfN i a n ++ (if lfC i a (-a + (n : Int)) = true then [lfQ i a (-a + (n : Int))] else []) := by
  unfold lfN
  rw [List.range_succ, List.map_append, List.filter_append, List.map_append]
  congr 1
  rw [List.map_cons, List.map_nil]
  by_cases h : lfC i a (-a + (n : Int)) = true
  · rw [List.filter_cons_of_pos h, if_pos h]; rfl
  · rw [List.filter_cons_of_neg h, if_neg h]; rfl
theorem lfs_succ (i : Int) (n : Nat) : lfs i (n + 1) = lfs i n ++ lfA i ((n : Int) + 1) := by
  unfold lfs
  rw [List.range_succ, List.flatMap_append]
  simp
theorem least_three {a b c : Int} (ha : 0 < a) (L : MT.Least a b c) : 3 * (a * a) ≤ 4 * a * c - b * b := by
  have h1 := MT.mul_nn (show 0 ≤ a - b by have := L.hi; omega) (show 0 ≤ a + b by have := L.lo; omega)
  have h2 := MT.mul_nn (Int.le_of_lt ha) (show 0 ≤ c - a by have := L.ac; omega)
  grind
theorem mem_lfN {i a : Int} {n : Nat} {q : Q} (ha : 0 < a) (hn : n ≤ (2 * a + 1).toNat) : q ∈ lfN i a n ↔ q.a = a ∧ q.b < -a + (n : Int) ∧ q.b * q.b - 4 * q.a * q.c = i ∧ MT.Least q.a q.b q.c := by
  unfold lfN
  constructor
  · intro h
    obtain ⟨b, hb, rfl⟩ := List.mem_map.mp h
    obtain ⟨hb, hc⟩ := List.mem_filter.mp hb
    obtain ⟨t, ht, rfl⟩ := List.mem_map.mp hb
    have ht' := List.mem_range.mp ht
    unfold lfC at hc
    simp only [Bool.and_eq_true, decide_eq_true_eq] at hc
    refine ⟨rfl, by show -a + (t : Int) < _; omega, ?_, MT.leastB_iff.mp hc.2⟩
    have := Int.mul_ediv_cancel' (Int.dvd_of_emod_eq_zero hc.1)
    unfold lfQ
    dsimp only
    omega
  · rintro ⟨rfl, h2, h3, L⟩
    obtain ⟨a, b, c⟩ := q
    dsimp only at *
    have lo := L.lo
    have e : 4 * a * c = b * b - i := by omega
    have ec : (b * b - i) / (4 * a) = c := MJ.div_of (by omega) e.symm
    refine List.mem_map.mpr ⟨b, List.mem_filter.mpr ⟨List.mem_map.mpr ⟨(b + a).toNat, List.mem_range.mpr (by omega), by omega⟩, ?_⟩, by unfold lfQ; rw [ec]⟩
    unfold lfC
    rw [ec]
    simp only [Bool.and_eq_true, decide_eq_true_eq]
    exact ⟨by rw [← e]; exact Int.mul_emod_right _ _, MT.leastB_iff.mpr L⟩
theorem mem_lfA {i a : Int} {q : Q} (ha : 0 < a) : q ∈ lfA i a ↔ q.a = a ∧ q.b * q.b - 4 * q.a * q.c = i ∧ MT.Least q.a q.b q.c := by
  unfold lfA
  rw [mem_lfN ha (Nat.le_refl _)]
  constructor
  · rintro ⟨h1, _, h3, h4⟩
    exact ⟨h1, h3, h4⟩
  · rintro ⟨h1, h3, h4⟩
    have := h4.hi
    exact ⟨h1, by omega, h3, h4⟩
theorem lfA_nil {i a : Int} (ha : 0 < a) (h : -i < 3 * (a * a)) : lfA i a = [] := by
  refine List.eq_nil_iff_forall_not_mem.mpr fun q hq => ?_
  obtain ⟨e1, e2, L⟩ := (mem_lfA ha).mp hq
  have := least_three (by rw [e1]; exact ha) L
  rw [e1] at this e2
  omega
theorem sq_mono {a b : Int} (ha : 0 ≤ a) (h : a ≤ b) : a * a ≤ b * b := Int.mul_le_mul h h ha (by omega)
/-- no more least forms behind -/
theorem lfs_end {i : Int} {n : Nat} (hn : n ≤ 40) (h : -i < 3 * (((n : Int) + 1) * ((n : Int) + 1))) : lfs i n = LF i := by
  have key : ∀ k, n + k ≤ 40 → lfs i (n + k) = lfs i n := fun k => by
    induction k with
    | zero => intro _; rfl
    | succ k ih =>
      intro hk
      rw [← Nat.add_assoc, lfs_succ, ih (by omega), lfA_nil (by omega), List.append_nil]
      have := sq_mono (a := (n : Int) + 1) (b := (((n + k : Nat) : Int)) + 1) (by omega) (by omega)
      omega
  have := key (40 - n) (by omega)
  rw [show n + (40 - n) = 40 by omega] at this
  exact this.symm
theorem mem_LF {i : Int} {q : Q} (hi : -4000 ≤ i) : q ∈ LF i ↔ Ok i q ∧ MT.Least q.a q.b q.c := by
  unfold LF lfs
  constructor
  · intro h
    obtain ⟨t, _, h⟩ := List.mem_flatMap.mp h
    obtain ⟨e1, e2, L⟩ := (mem_lfA (by omega)).mp h
    exact ⟨⟨by rw [e1]; omega, e2⟩, L⟩
  · rintro ⟨o, L⟩
    have h3 := least_three o.pos L
    have hb := o.bar
    have ha := o.pos
    have : q.a ≤ 40 := by
      refine Int.not_lt.mp fun z => ?_
      have := sq_mono (a := 41) (b := q.a) (by decide) (by omega)
      omega
    exact List.mem_flatMap.mpr ⟨(q.a - 1).toNat, List.mem_range.mpr (by omega), (mem_lfA (by omega)).mpr ⟨by omega, o.bar, L⟩⟩
/-- a bar that is listed -/
structure BarL (i : Int) : Prop where
  d : BarD i
  low : -4000 ≤ i
theorem BarL.s {i : Int} (h : BarL i) : BarS i := by
  refine ⟨h.d, .of_lt ?_⟩
  have h1 := h.low
  have h2 := h.d.neg
  have h3 : (4001 : Nat) < 2 ^ 1200 := by decide +kernel
  generalize (2 : Nat) ^ 1200 = N at *
  omega
theorem lf_len {i a : Int} (n : Nat) : (lfN i a n).length ≤ n := by
  unfold lfN
  rw [List.length_map]
  refine Nat.le_trans (List.length_filter_le _ _) ?_
  simp
theorem lfs_len {i : Int} : ∀ n : Nat, n ≤ 40 → (lfs i n).length ≤ 100 * n
  | 0, _ => by simp [lfs]
  | n + 1, h => by
    rw [lfs_succ, List.length_append]
    have := lfs_len (i := i) n (by omega)
    have h2 : (lfA i ((n : Int) + 1)).length ≤ (2 * ((n : Int) + 1) + 1).toNat := lf_len _
    omega
def p_lff (ds es : List D) : Prop := ∃ i a : Int, ds = [.int i, .int a] ∧ BarL i ∧ 0 < a ∧ a ≤ 40 ∧ es = (lfA i a).map qD
def p_least_forms (ds es : List D) : Prop := ∃ i : Int, ds = [.int i] ∧ BarL i ∧ es = (LF i).map qD
def bareB (q : Q) : Bool := decide (((Int.gcd (Int.gcd q.a q.b) q.c : Nat) : Int) = 1)
def clsL (i : Int) : List Q := (LF i).filter bareB
def p_classes (ds es : List D) : Prop := ∃ i : Int, ds = [.int i] ∧ BarL i ∧ es = (clsL i).map qD
theorem fzQs (l : List Q) : ∀ d ∈ l.map qD, Fz d := fun d hd => by
  obtain ⟨q, _, rfl⟩ := List.mem_map.mp hd
  exact fzQ q
theorem lf_small {i : Int} (h : BarL i) {q : Q} (hq : q ∈ LF i) : FormS q.a q.b q.c := by
  obtain ⟨o, L⟩ := (mem_LF h.low).mp hq
  refine least_bd o.pos L (by rw [o.bar]; exact h.d.neg) (by rw [o.bar]; exact h.s.s)
def qOf : D → Q
  | .tup [.int a, .int b, .int c] => ⟨a, b, c⟩
  | _ => ⟨0, 0, 0⟩
theorem bare_iff {q : Q} : Bare q ↔ ((Int.gcd (Int.gcd q.a q.b) q.c : Nat) : Int) = 1 := by
  constructor
  · intro h
    rw [bare_gcd h]
    rfl
  · intro h
    exact gcd_bare (by omega)
theorem bareB_iff {q : Q} : bareB q = true ↔ Bare q := by
  unfold bareB
  rw [decide_eq_true_eq]
  exact bare_iff.symm
theorem mem_cls {i : Int} (h : BarL i) {q : Q} : q ∈ clsL i ↔ Cls i q := by
  unfold clsL
  rw [List.mem_filter, mem_LF h.low, bareB_iff]
  constructor
  · rintro ⟨⟨o, L⟩, b⟩
    exact ⟨o, b, L⟩
  · intro c
    exact ⟨⟨c.ok, c.least⟩, c.bare⟩
end CM

/-! FQ: the sort of the model, runs and merges, for lists of any length: what it does to items that a whole number ranks -/
namespace FQ
open PySem PyProof.Rows
abbrev lt' : Keyed → Keyed → StateT SortSt Sem (Option Bool) := sortPriv% PySem.Builtin.lt
abbrev elem' : Array Keyed → Nat → StateT SortSt Sem Keyed := sortPriv% PySem.Builtin.elem
abbrev gallop' : Bool → Keyed → Array Keyed → Nat → Nat → Nat → StateT SortSt Sem (Option Nat) := sortPriv% PySem.Builtin.gallop
abbrev mergeLo' : Array Keyed → Array Keyed → StateT SortSt Sem (Array Keyed) := sortPriv% PySem.Builtin.mergeLo
abbrev mergeHi' : Array Keyed → Array Keyed → StateT SortSt Sem (Array Keyed) := sortPriv% PySem.Builtin.mergeHi
/-- the comparison answers by rank, at the state s -/
def Cmp (M : Model) (A : Around) (s : Shared) (κ : SortKind) (kf : Keyed → Int) (S : Keyed → Prop) : Prop :=
  ∀ x y, S x → S y → ∀ C : Bool → Shared → Prop, C (decide (kf x < kf y)) s → wpAny M A (keyLt' κ x.1 y.1) C (fun _ _ => False) s
/-- a state that has not failed -/
def Ok (κ : SortKind) (st : SortSt) : Prop := kindOf st = κ ∧ failedOf st = none
section
variable {M : Model} {A : Around} {E : Value → Shared → Prop} {s : Shared} {κ : SortKind} {kf : Keyed → Int} {S : Keyed → Prop}
theorem wp_loop {σ β γ : Type} {a b : Nat} {f : Nat → β → StateT σ Sem (ForInStep β)} {g : β → StateT σ Sem γ} {Q : γ → σ → Prop} {c : β} {st : σ} (I : Nat → β → σ → Prop) (R : β → σ → Prop)
    (step : ∀ i c st, a ≤ i → i < b → I i c st → wpS M A E s (f i c) (fun r st' => match r with | .done c' => R c' st' | .yield c' => I (i + 1) c' st') st)
    (exh : ∀ c st, I (max a b) c st → R c st) (init : I a c st) (rest : ∀ c st, R c st → wpS M A E s (g c) Q st) : wpS M A E s (forIn [a:b] c f >>= g) Q st :=
  wpS_bind (wpS_mono (wpS_forRange I step exh init) rest)
theorem wp_lt (hc : Cmp M A s κ kf S) {x y : Keyed} (hx : S x) (hy : S y) {st : SortSt} (ok : Ok κ st) {Q : Option Bool → SortSt → Prop} (h : Q (some (decide (kf x < kf y))) st) : wpS M A E s (lt' x y) Q st := by
  refine wpS_bind (wpS_get (wpS_bind (wpS_lift (wpAny_attempt ?_))))
  have e : kindOf st = κ := ok.1
  refine wpAny_mono (show wpAny M A (keyLt' (kindOf st) x.1 y.1) _ (fun _ _ => False) s from e ▸ hc x y hx hy (fun b s' => b = decide (kf x < kf y) ∧ s' = s) ⟨rfl, rfl⟩) (fun b s' q => ?_) (fun _ _ z => z.elim)
  obtain ⟨rfl, rfl⟩ := q
  exact ⟨rfl, wpS_pure h⟩
theorem wp_elem {arr : Array Keyed} {i : Nat} (hi : i < arr.size) {st : SortSt} {Q : Keyed → SortSt → Prop} (h : Q arr[i] st) : wpS M A E s (elem' arr i) Q st := by
  unfold elem'
  have e : arr[i]? = some arr[i] := Array.getElem?_eq_getElem hi
  show wpS M A E s (match arr[i]? with | some p => pure p | none => liftM (PySem.unsupported "internal:list.sort.index")) Q st
  rw [e]
  exact wpS_pure h
/-- whether the item i from base on lies before key -/
def bey (kf : Keyed → Int) (left : Bool) (key : Keyed) (arr : Array Keyed) (i : Nat) : Bool :=
  if left then decide (kf (arr.getD i (.none, .none)) < kf key) else !decide (kf key < kf (arr.getD i (.none, .none)))
theorem wp_beyond (hc : Cmp M A s κ kf S) {left : Bool} {key : Keyed} {arr : Array Keyed} {i : Nat} (hk : S key) (ha : ∀ x ∈ arr, S x) (hi : i < arr.size) {st : SortSt} (ok : Ok κ st) {Q : Option Bool → SortSt → Prop} (h : Q (some (bey kf left key arr i)) st) :
    wpS M A E s (elem' arr i >>= fun x => if left = true then lt' x key else lt' key x >>= fun r => pure (Option.map (fun x => !x) r)) Q st := by
  have e : arr.getD i (.none, .none) = arr[i] := by simp [hi]
  have hS := ha arr[i] (Array.getElem_mem hi)
  unfold bey at h
  rw [e] at h
  refine wpS_bind (wp_elem hi ?_)
  cases left
  · rw [if_neg (by decide)]
    exact wpS_bind (wp_lt hc hk hS ok (wpS_pure h))
  · rw [if_pos rfl]
    exact wp_lt hc hS hk ok h
theorem wp_gallop (hc : Cmp M A s κ kf S) {left : Bool} {key : Keyed} {arr : Array Keyed} {base n hint : Nat} (hk : S key) (ha : ∀ x ∈ arr, S x) (hn : base + n ≤ arr.size) (hh : hint < n)
    (mono : ∀ i j, i ≤ j → j < n → bey kf left key arr (base + j) = true → bey kf left key arr (base + i) = true) {st : SortSt} (ok : Ok κ st) {Q : Option Nat → SortSt → Prop}
    (h : ∀ k, k ≤ n → (∀ i, i < k → bey kf left key arr (base + i) = true) → (∀ i, k ≤ i → i < n → bey kf left key arr (base + i) = false) → Q (some k) st) :
    wpS M A E s (gallop' left key arr base n hint) Q st := by
  have B0 : ∀ {i j}, i ≤ j → j < n → bey kf left key arr (base + i) = false → bey kf left key arr (base + j) = false := fun {i j} a b c => by
    cases e : bey kf left key arr (base + j)
    · rfl
    · rw [mono i j a b e] at c; exact c
  refine wpS_bind (wp_beyond hc hk ha (by omega) ok ?_)
  dsimp only
  cases hb : bey kf left key arr (base + hint)
  · rw [if_neg (by decide)]
    refine wp_loop (fun i c st' => ∃ l o, c = (none, l, o) ∧ st = st' ∧ l ≤ hint ∧ bey kf left key arr (base + (hint - l)) = false ∧ l < o ∧ i + 1 ≤ o) (fun c st' => ∃ l o, c = (none, l, o) ∧ st = st' ∧ l ≤ hint ∧ bey kf left key arr (base + (hint - l)) = false ∧ l < o ∧ (hint + 1 ≤ o ∨ (o ≤ hint ∧ bey kf left key arr (base + (hint - o)) = true))) ?_ ?_ ?_ ?_
    · rintro i c st' - hi ⟨l, o, rfl, rfl, h1, h2, h3, h4⟩
      dsimp only
      by_cases g : o ≥ hint + 1
      · rw [if_pos g]
        exact wpS_pure ⟨l, o, rfl, rfl, h1, h2, h3, .inl g⟩
      · rw [if_neg g]
        refine wpS_bind (wp_beyond hc hk ha (by omega) ok ?_)
        dsimp only
        cases hb : bey kf left key arr (base + (hint - o))
        · rw [if_neg (by decide)]
          exact wpS_pure ⟨_, _, rfl, rfl, by omega, hb, by omega, by omega⟩
        · rw [if_pos rfl]
          exact wpS_pure ⟨_, _, rfl, rfl, h1, h2, h3, .inr ⟨by omega, hb⟩⟩
    · rintro c st' ⟨l, o, rfl, rfl, h1, h2, h3, h4⟩
      exact ⟨l, o, rfl, rfl, h1, h2, h3, .inl (by omega)⟩
    · exact ⟨_, _, rfl, rfl, by omega, hb, by omega, by omega⟩
    · rintro c st' ⟨l, o, rfl, rfl, h1, h2, h3, h4⟩
      dsimp only
      refine wp_loop (fun i c st' => ∃ l r, c = (none, l, r) ∧ st = st' ∧ l ≤ r ∧ r ≤ n ∧ (∀ i, i < l → bey kf left key arr (base + i) = true) ∧ (∀ i, r ≤ i → i < n → bey kf left key arr (base + i) = false) ∧ r ≤ l + (n - i)) (fun c st' => ∃ l, c = (none, l, l) ∧ st = st' ∧ l ≤ n ∧ (∀ i, i < l → bey kf left key arr (base + i) = true) ∧ (∀ i, l ≤ i → i < n → bey kf left key arr (base + i) = false)) ?_ ?_ ?_ ?_
      · rintro i c st' - hi ⟨l, r, rfl, rfl, h1, h2, h3, h4, h5⟩
        dsimp only
        by_cases g : l ≥ r
        · rw [if_pos g]
          have : l = r := by omega
          subst this
          exact wpS_pure ⟨l, rfl, rfl, h2, h3, h4⟩
        · rw [if_neg g]
          refine wpS_bind (wp_beyond hc hk ha (by omega) ok ?_)
          dsimp only
          cases hb : bey kf left key arr (base + (l + (r - l) / 2))
          · rw [if_neg (by decide)]
            refine wpS_pure ⟨_, _, rfl, rfl, by omega, by omega, h3, fun i a b => ?_, by omega⟩
            exact B0 a b hb
          · rw [if_pos rfl]
            refine wpS_pure ⟨_, _, rfl, rfl, by omega, by omega, fun i a => mono i (l + (r - l) / 2) (by omega) (by omega) hb, h4, by omega⟩
      · rintro c st' ⟨l, r, rfl, rfl, h1, h2, h3, h4, h5⟩
        have : l = r := by omega
        subst this
        exact ⟨l, rfl, rfl, h2, h3, h4⟩
      · refine ⟨_, _, rfl, rfl, by omega, by omega, fun i a => ?_, fun i a b => B0 (by omega) b h2, by omega⟩
        rcases h4 with h4 | ⟨h4, h5⟩
        · omega
        · exact mono i (hint - o) (by omega) (by omega) h5
      · rintro c st' ⟨l, rfl, rfl, h1, h2, h3⟩
        exact wpS_pure (h l h1 h2 h3)
  · rw [if_pos rfl]
    refine wp_loop (fun i c st' => ∃ l o, c = (none, l, o) ∧ st = st' ∧ hint + l < n ∧ bey kf left key arr (base + (hint + l)) = true ∧ l < o ∧ i + 1 ≤ o) (fun c st' => ∃ l o, c = (none, l, o) ∧ st = st' ∧ hint + l < n ∧ bey kf left key arr (base + (hint + l)) = true ∧ l < o ∧ (n - hint ≤ o ∨ (hint + o < n ∧ bey kf left key arr (base + (hint + o)) = false))) ?_ ?_ ?_ ?_
    · rintro i c st' - hi ⟨l, o, rfl, rfl, h1, h2, h3, h4⟩
      dsimp only
      by_cases g : o ≥ n - hint
      · rw [if_pos g]
        exact wpS_pure ⟨l, o, rfl, rfl, h1, h2, h3, .inl g⟩
      · rw [if_neg g]
        refine wpS_bind (wp_beyond hc hk ha (by omega) ok ?_)
        dsimp only
        cases hb : bey kf left key arr (base + (hint + o))
        · rw [if_pos (by decide)]
          exact wpS_pure ⟨_, _, rfl, rfl, h1, h2, h3, .inr ⟨by omega, hb⟩⟩
        · rw [if_neg (by decide)]
          exact wpS_pure ⟨_, _, rfl, rfl, by omega, hb, by omega, by omega⟩
    · rintro c st' ⟨l, o, rfl, rfl, h1, h2, h3, h4⟩
      exact ⟨l, o, rfl, rfl, h1, h2, h3, .inl (by omega)⟩
    · exact ⟨_, _, rfl, rfl, by omega, hb, by omega, by omega⟩
    · rintro c st' ⟨l, o, rfl, rfl, h1, h2, h3, h4⟩
      dsimp only
      refine wp_loop (fun i c st' => ∃ l r, c = (none, l, r) ∧ st = st' ∧ l ≤ r ∧ r ≤ n ∧ (∀ i, i < l → bey kf left key arr (base + i) = true) ∧ (∀ i, r ≤ i → i < n → bey kf left key arr (base + i) = false) ∧ r ≤ l + (n - i)) (fun c st' => ∃ l, c = (none, l, l) ∧ st = st' ∧ l ≤ n ∧ (∀ i, i < l → bey kf left key arr (base + i) = true) ∧ (∀ i, l ≤ i → i < n → bey kf left key arr (base + i) = false)) ?_ ?_ ?_ ?_
      · rintro i c st' - hi ⟨l, r, rfl, rfl, h1, h2, h3, h4, h5⟩
        dsimp only
        by_cases g : l ≥ r
        · rw [if_pos g]
          have : l = r := by omega
          subst this
          exact wpS_pure ⟨l, rfl, rfl, h2, h3, h4⟩
        · rw [if_neg g]
          refine wpS_bind (wp_beyond hc hk ha (by omega) ok ?_)
          dsimp only
          cases hb : bey kf left key arr (base + (l + (r - l) / 2))
          · rw [if_neg (by decide)]
            refine wpS_pure ⟨_, _, rfl, rfl, by omega, by omega, h3, fun i a b => ?_, by omega⟩
            exact B0 a b hb
          · rw [if_pos rfl]
            refine wpS_pure ⟨_, _, rfl, rfl, by omega, by omega, fun i a => mono i (l + (r - l) / 2) (by omega) (by omega) hb, h4, by omega⟩
      · rintro c st' ⟨l, r, rfl, rfl, h1, h2, h3, h4, h5⟩
        have : l = r := by omega
        subst this
        exact ⟨l, rfl, rfl, h2, h3, h4⟩
      · refine ⟨_, _, rfl, rfl, by omega, by omega, fun i a => mono i (hint + l) (by omega) h1 h2, fun i a b => ?_, by omega⟩
        rcases h4 with h4 | ⟨h4, h5⟩
        · omega
        · exact B0 (by omega) b h5
      · rintro c st' ⟨l, rfl, rfl, h1, h2, h3⟩
        exact wpS_pure (h l h1 h2 h3)
end
end FQ
namespace FQ
open PySem PyProof.Rows
/-- rising by rank -/
def Srt (kf : Keyed → Int) (l : List Keyed) : Prop := l.Pairwise fun x y => kf x ≤ kf y
/-- what is merged so far, and what is left of both -/
structure MI (kf : Keyed → Int) (T O X Y : List Keyed) : Prop where
  perm : (O ++ (X ++ Y)).Perm T
  so : Srt kf O
  sx : Srt kf X
  sy : Srt kf Y
  ox : ∀ o ∈ O, ∀ z ∈ X, kf o ≤ kf z
  oy : ∀ o ∈ O, ∀ z ∈ Y, kf o ≤ kf z
section
variable {kf : Keyed → Int} {T O X X1 X2 Y Y1 Y2 : List Keyed}
theorem MI.takeX (h : MI kf T O (X1 ++ X2) Y) (c : ∀ x ∈ X1, ∀ y ∈ Y, kf x ≤ kf y) : MI kf T (O ++ X1) X2 Y where
  perm := by
    have := h.perm
    simp only [List.append_assoc] at this ⊢
    exact this
  so := List.pairwise_append.mpr ⟨h.so, (List.pairwise_append.mp h.sx).1, fun o ho z hz => h.ox o ho z (List.mem_append_left _ hz)⟩
  sx := (List.pairwise_append.mp h.sx).2.1
  sy := h.sy
  ox := fun o ho z hz => by
    rcases List.mem_append.mp ho with ho | ho
    · exact h.ox o ho z (List.mem_append_right _ hz)
    · exact (List.pairwise_append.mp h.sx).2.2 o ho z hz
  oy := fun o ho z hz => by
    rcases List.mem_append.mp ho with ho | ho
    · exact h.oy o ho z hz
    · exact c o ho z hz
theorem MI.flip (h : MI kf T O X Y) : MI kf T O Y X := ⟨((List.perm_append_comm).append_left O).trans h.perm, h.so, h.sy, h.sx, h.oy, h.ox⟩
theorem MI.fin (h : MI kf T O X Y) (c : ∀ x ∈ X, ∀ y ∈ Y, kf x ≤ kf y) : (O ++ X ++ Y).Perm T ∧ Srt kf (O ++ X ++ Y) := by
  rw [List.append_assoc]
  refine ⟨h.perm, List.pairwise_append.mpr ⟨h.so, List.pairwise_append.mpr ⟨h.sx, h.sy, c⟩, fun o ho z hz => ?_⟩⟩
  rcases List.mem_append.mp hz with hz | hz
  · exact h.ox o ho z hz
  · exact h.oy o ho z hz
theorem MI.fin' (h : MI kf T O X Y) (c : ∀ y ∈ Y, ∀ x ∈ X, kf y ≤ kf x) : (O ++ Y ++ X).Perm T ∧ Srt kf (O ++ Y ++ X) := h.flip.fin c
theorem MI.len (h : MI kf T O X Y) : O.length + (X.length + Y.length) = T.length := by
  have := h.perm.length_eq
  simpa using this
/-- the first of a rising rest -/
theorem drop_cons {a : Array Keyed} {i : Nat} (hi : i < a.size) : a.toList.drop i = a[i] :: a.toList.drop (i + 1) := by
  rw [List.drop_eq_getElem_cons (by simpa using hi)]
  simp
theorem head_le {a : Array Keyed} {i : Nat} (h : Srt kf (a.toList.drop i)) (hi : i < a.size) : ∀ z ∈ a.toList.drop i, kf a[i] ≤ kf z := by
  rw [drop_cons hi] at h ⊢
  intro z hz
  rcases List.mem_cons.mp hz with rfl | hz
  · exact Int.le_refl _
  · exact (List.pairwise_cons.mp h).1 z hz
theorem mem_drop_iff {a : Array Keyed} {i : Nat} {z : Keyed} (h : z ∈ a.toList.drop i) : ∃ j, ∃ hj : i + j < a.size, a[i + j] = z := by
  obtain ⟨j, hj, e⟩ := List.mem_iff_getElem.mp h
  rw [List.getElem_drop] at e
  simp only [List.length_drop, Array.length_toList] at hj
  exact ⟨j, by omega, by simpa using e⟩
theorem take_mem {a : Array Keyed} {i k : Nat} {z : Keyed} (h : z ∈ (a.toList.drop i).take k) : ∃ j, ∃ hj : i + j < a.size, j < k ∧ a[i + j] = z := by
  obtain ⟨j, hj, e⟩ := List.mem_iff_getElem.mp h
  rw [List.getElem_take, List.getElem_drop] at e
  simp only [List.length_take, List.length_drop, Array.length_toList] at hj
  exact ⟨j, by omega, by omega, by simpa using e⟩
theorem srt_le {a : Array Keyed} {i : Nat} (h : Srt kf (a.toList.drop i)) {j k : Nat} (hjk : j ≤ k) (hk : i + k < a.size) : kf (a[i + j]'(by omega)) ≤ kf a[i + k] := by
  rcases Nat.lt_or_ge j k with l | g
  · have := List.pairwise_iff_getElem.mp h j k (by simp; omega) (by simp; omega) l
    simpa using this
  · have : j = k := by omega
    subst this
    exact Int.le_refl _
theorem ext_list {a : Array Keyed} {i k : Nat} (h : i + k ≤ a.size) : (a.extract i (i + k)).toList = (a.toList.drop i).take k := by
  rw [Array.toList_extract]
  simp [List.extract]
theorem ext_all {a : Array Keyed} {i : Nat} : (a.extract i).toList = a.toList.drop i := by
  rw [Array.toList_extract]
  simp only [List.extract]
  exact List.take_of_length_le (by simp)
theorem MI.pushX {a : Array Keyed} {out : Array Keyed} {i : Nat} (h : MI kf T out.toList (a.toList.drop i) Y) (hi : i < a.size) (c : ∀ y ∈ Y, kf a[i] ≤ kf y) : MI kf T (out.push a[i]).toList (a.toList.drop (i + 1)) Y := by
  rw [drop_cons hi] at h
  rw [Array.toList_push]
  exact MI.takeX (X1 := [a[i]]) h fun x hx y hy => by rw [List.mem_singleton.mp hx]; exact c y hy
theorem MI.pushY {b : Array Keyed} {out : Array Keyed} {i : Nat} (h : MI kf T out.toList X (b.toList.drop i)) (hi : i < b.size) (c : ∀ x ∈ X, kf b[i] ≤ kf x) : MI kf T (out.push b[i]).toList X (b.toList.drop (i + 1)) := (h.flip.pushX hi c).flip
theorem MI.chunkX {a : Array Keyed} {out : Array Keyed} {i k : Nat} (h : MI kf T out.toList (a.toList.drop i) Y) (hi : i + k ≤ a.size) (c : ∀ j, ∀ hj : i + j < a.size, j < k → ∀ y ∈ Y, kf a[i + j] ≤ kf y) : MI kf T (out ++ a.extract i (i + k)).toList (a.toList.drop (i + k)) Y := by
  rw [Array.toList_append, ext_list hi]
  have e : a.toList.drop i = (a.toList.drop i).take k ++ a.toList.drop (i + k) := by
    rw [← List.drop_drop, List.take_append_drop]
  rw [e] at h
  exact MI.takeX h fun x hx y hy => by
    obtain ⟨j, hj, l, rfl⟩ := take_mem hx
    exact c j hj l y hy
theorem MI.chunkY {b : Array Keyed} {out : Array Keyed} {i k : Nat} (h : MI kf T out.toList X (b.toList.drop i)) (hi : i + k ≤ b.size) (c : ∀ j, ∀ hj : i + j < b.size, j < k → ∀ x ∈ X, kf b[i + j] ≤ kf x) : MI kf T (out ++ b.extract i (i + k)).toList X (b.toList.drop (i + k)) := (h.flip.chunkX hi c).flip
end
end FQ
namespace FQ
open PySem PyProof.Rows
/-- but for the line of the gallop nothing has changed -/
def Eqv (st st' : SortSt) : Prop := kindOf st' = kindOf st ∧ arrOf st' = arrOf st ∧ pendingOf st' = pendingOf st ∧ failedOf st' = failedOf st
theorem Eqv.refl (st : SortSt) : Eqv st st := ⟨rfl, rfl, rfl, rfl⟩
theorem Eqv.ok {κ : SortKind} {st st' : SortSt} (h : Eqv st st') (o : Ok κ st) : Ok κ st' := ⟨h.1.trans o.1, h.2.2.2.trans o.2⟩
section
variable {M : Model} {A : Around} {E : Value → Shared → Prop} {s : Shared} {κ : SortKind} {kf : Keyed → Int} {S : Keyed → Prop}
def Fin' (kf : Keyed → Int) (T : List Keyed) (r : Array Keyed) : Prop := r.toList.Perm T ∧ Srt kf r.toList
theorem fin_done {T : List Keyed} {a b out : Array Keyed} {ia ib : Nat} (h : MI kf T out.toList (a.toList.drop ia) (b.toList.drop ib)) (c : ib = b.size ∨ ia = a.size) : Fin' kf T (out ++ a.extract ia ++ b.extract ib) := by
  unfold Fin'
  rw [Array.toList_append, Array.toList_append, ext_all, ext_all]
  refine h.fin fun x hx y hy => ?_
  rcases c with c | c
  · rw [c, ← Array.length_toList, List.drop_length] at hy
    cases hy
  · rw [c, ← Array.length_toList, List.drop_length] at hx
    cases hx
theorem fin_last {T : List Keyed} {a b out : Array Keyed} {ia ib : Nat} (h : MI kf T out.toList (a.toList.drop ia) (b.toList.drop ib)) (h1 : ia + 1 = a.size) (hl : ∀ y ∈ b, kf y ≤ kf (a[a.size - 1]'(by omega))) : Fin' kf T (out ++ b.extract ib ++ a.extract ia) := by
  unfold Fin'
  rw [Array.toList_append, Array.toList_append, ext_all, ext_all]
  refine h.fin' fun y hy x hx => ?_
  obtain ⟨j, hj, rfl⟩ := mem_drop_iff hx
  have e : ia + j = a.size - 1 := by omega
  simp only [e]
  exact hl y (Array.mem_def.mpr (List.mem_of_mem_drop hy))
theorem wp_setG {γ : Type} {st st' : SortSt} {g : Nat} {f : Unit → StateT SortSt Sem γ} {Q : γ → SortSt → Prop} (ev : Eqv st st') (h : ∀ st'', Eqv st st'' → wpS M A E s (f ()) Q st'') : wpS M A E s ((sortPriv% PySem.Builtin.setMinGallop) g >>= f) Q st' :=
  wpS_bind (wpS_modify (h _ ev))
theorem wp_mergeLo (hc : Cmp M A s κ kf S) {a b : Array Keyed} (ha : ∀ x ∈ a, S x) (hb : ∀ x ∈ b, S x) (sa : Srt kf a.toList) (sb : Srt kf b.toList) (na : 0 < a.size) (nb : 0 < b.size)
    (h0 : ∀ x ∈ a, kf b[0] ≤ kf x) (hl : ∀ y ∈ b, kf y ≤ kf (a[a.size - 1]'(by omega))) {st : SortSt} (ok : Ok κ st) {Q : Array Keyed → SortSt → Prop}
    (h : ∀ out st', Eqv st st' → Fin' kf (a.toList ++ b.toList) out → Q out st') : wpS M A E s (mergeLo' a b) Q st := by
  have m0 : MI kf (a.toList ++ b.toList) (#[] : Array Keyed).toList (a.toList.drop 0) (b.toList.drop 0) := ⟨by simp, .nil, by simpa using sa, by simpa using sb, by simp, by simp⟩
  have m1 := m0.pushY nb fun x hx => h0 x (Array.mem_def.mpr (by simpa using hx))
  refine wpS_bind (wpS_lift (wpAny_rule ?_))
  refine ⟨rfl, ?_⟩
  refine wpS_bind (wp_elem nb ?_)
  dsimp only
  by_cases g1 : 1 = b.size
  · rw [if_pos (by simpa using g1)]
    exact wpS_pure (h _ _ (.refl _) (fin_done m1 (.inl g1)))
  rw [if_neg (by simpa using g1)]
  by_cases g2 : 0 + 1 = a.size
  · rw [if_pos (by simpa using g2)]
    exact wpS_pure (h _ _ (.refl _) (fin_last m1 g2 hl))
  rw [if_neg (by simpa using g2)]
  refine wpS_bind (wpS_get ?_)
  generalize eT : a.toList ++ b.toList = T at *
  have lT : T.length = a.size + b.size := by rw [← eT]; simp
  refine wp_loop (fun t c st' => ∃ out ia ib mg, c = (none, out, ia, ib, mg) ∧ Eqv st st' ∧ MI kf T out.toList (a.toList.drop ia) (b.toList.drop ib) ∧ ia + 1 < a.size ∧ ib < b.size ∧ t + 1 ≤ out.size)
    (fun c st' => ∃ res rest, c = (some res, rest) ∧ Eqv st st' ∧ Fin' kf T res) ?_ ?_ ⟨_, _, _, _, rfl, .refl _, m1, by omega, by omega, by simp⟩ ?_
  · rintro t c st' - ht ⟨out, ia, ib, mg, rfl, ev, mi, i1, i2, i3⟩
    dsimp only
    refine wp_loop (fun i c st' => ∃ out ia ib ac bc, c = (none, out, ia, ib, ac, bc) ∧ Eqv st st' ∧ MI kf T out.toList (a.toList.drop ia) (b.toList.drop ib) ∧ ia + 1 < a.size ∧ ib < b.size ∧ t + 1 + i ≤ out.size)
      (fun c st' => (∃ res rest, c = (some res, rest) ∧ Eqv st st' ∧ Fin' kf T res) ∨ (∃ out ia ib ac bc, c = (none, out, ia, ib, ac, bc) ∧ Eqv st st' ∧ MI kf T out.toList (a.toList.drop ia) (b.toList.drop ib) ∧ ia + 1 < a.size ∧ ib < b.size ∧ t + 2 ≤ out.size)) ?_ ?_ ⟨_, _, _, _, _, rfl, ev, mi, i1, i2, i3⟩ ?_
    · clear ev mi i1 i2 i3
      rintro i c st' - hi ⟨out, ia, ib, ac, bc, rfl, ev, mi, i1, i2, i3⟩
      have i4 : ia < a.size := by omega
      dsimp only
      refine wpS_bind (wp_elem i2 (wpS_bind (wp_elem i4 (wpS_bind (wp_lt hc (hb _ (Array.getElem_mem i2)) (ha _ (Array.getElem_mem i4)) (ev.ok ok) ?_)))))
      dsimp only
      by_cases g : kf b[ib] < kf a[ia]
      · rw [if_pos (by simpa using g)]
        have mi' := mi.pushY i2 fun x hx => Int.le_trans (Int.le_of_lt g) (head_le mi.sx i4 x hx)
        refine wpS_bind (wp_elem i2 ?_)
        by_cases g3 : ib + 1 = b.size
        · rw [if_pos (by simpa using g3)]
          exact wpS_pure (.inl ⟨_, _, rfl, ev, fin_done mi' (.inl g3)⟩)
        rw [if_neg (by simpa using g3)]
        by_cases g5 : bc + 1 ≥ mg
        · rw [if_pos g5]
          exact wpS_pure (.inr ⟨_, _, _, _, _, rfl, ev, mi', i1, by omega, by simp; omega⟩)
        · rw [if_neg g5]
          exact wpS_pure ⟨_, _, _, _, _, rfl, ev, mi', i1, by omega, by simp; omega⟩
      · rw [if_neg (by simpa using g)]
        have mi' := mi.pushX i4 fun x hx => Int.le_trans (by omega) (head_le mi.sy i2 x hx)
        refine wpS_bind (wp_elem i4 ?_)
        by_cases g3 : ia + 1 + 1 = a.size
        · rw [if_pos (by simpa using g3)]
          exact wpS_pure (.inl ⟨_, _, rfl, ev, fin_last mi' g3 hl⟩)
        rw [if_neg (by simpa using g3)]
        by_cases g5 : ac + 1 ≥ mg
        · rw [if_pos g5]
          exact wpS_pure (.inr ⟨_, _, _, _, _, rfl, ev, mi', by omega, i2, by simp; omega⟩)
        · rw [if_neg g5]
          exact wpS_pure ⟨_, _, _, _, _, rfl, ev, mi', by omega, i2, by simp; omega⟩
    · rintro c st' ⟨out, ia, ib, ac, bc, rfl, ev, mi, i1, i2, i3⟩
      exact .inr ⟨_, _, _, _, _, rfl, ev, mi, i1, i2, by omega⟩
    · clear ev mi i1 i2 i3
      rintro c st' (⟨res, rest, rfl, ev, fi⟩ | ⟨out, ia, ib, ac, bc, rfl, ev, mi, i1, i2, i3⟩)
      · exact wpS_pure ⟨_, _, rfl, ev, fi⟩
      dsimp only
      refine wpS_bind (wpS_lift (wpAny_rule ?_))
      refine ⟨rfl, ?_⟩
      refine wp_loop (fun i c st' => ∃ out ia ib mg ac bc, c = (none, out, ia, ib, mg, ac, bc) ∧ Eqv st st' ∧ MI kf T out.toList (a.toList.drop ia) (b.toList.drop ib) ∧ ia + 1 < a.size ∧ ib < b.size ∧ t + 2 ≤ out.size)
        (fun c st' => (∃ res rest, c = (some res, rest) ∧ Eqv st st' ∧ Fin' kf T res) ∨ (∃ out ia ib mg ac bc, c = (none, out, ia, ib, mg, ac, bc) ∧ Eqv st st' ∧ MI kf T out.toList (a.toList.drop ia) (b.toList.drop ib) ∧ ia + 1 < a.size ∧ ib < b.size ∧ t + 2 ≤ out.size)) ?_ ?_ ⟨_, _, _, _, _, _, rfl, ev, mi, i1, i2, i3⟩ ?_
      · clear ev mi i1 i2 i3
        rintro i c st' - hi ⟨out, ia, ib, mg, ac, bc, rfl, ev, mi, i1, i2, i3⟩
        have i4 : ia < a.size := by omega
        dsimp only
        have sbb := hb _ (Array.getElem_mem i2)
        by_cases gm : mg > 1
        case' pos => rw [if_pos gm]
        case' neg => rw [if_neg gm]
        all_goals
          refine wp_setG ev fun st' ev => ?_
          refine wpS_bind (wp_elem i2 ?_)
          refine wpS_bind (wp_gallop (left := false) (arr := a) (base := ia) (n := a.size - ia) (hint := 0) hc sbb ha (by omega) (by omega) ?_ (Eqv.ok (st := st) ev ok) fun k k1 k2 k3 => ?_)
          · intro i j hij hj q
            have e := srt_le mi.sx hij (show ia + j < a.size by omega)
            unfold bey at q ⊢
            rw [if_neg (by decide)] at q ⊢
            simp only [Array.getD_eq_getD_getElem?, Array.getElem?_eq_getElem (show ia + j < a.size by omega), Array.getElem?_eq_getElem (show ia + i < a.size by omega), Option.getD_some, Bool.not_eq_true', decide_eq_false_iff_not] at q ⊢
            omega
        all_goals
          have k2' : ∀ j, ∀ hj : ia + j < a.size, j < k → kf a[ia + j] ≤ kf b[ib] := fun j hj l => by
            have q := k2 j l
            unfold bey at q
            rw [if_neg (by decide)] at q
            simp only [Array.getD_eq_getD_getElem?, Array.getElem?_eq_getElem hj, Option.getD_some, Bool.not_eq_true', decide_eq_false_iff_not] at q
            omega
          have k3' : ∀ z ∈ a.toList.drop (ia + k), kf b[ib] ≤ kf z := fun z hz => by
            obtain ⟨j, hj, rfl⟩ := mem_drop_iff hz
            have q := k3 (k + j) (by omega) (by omega)
            unfold bey at q
            rw [if_neg (by decide)] at q
            simp only [Array.getD_eq_getD_getElem?, ← Nat.add_assoc, Array.getElem?_eq_getElem hj, Option.getD_some, Bool.not_eq_false', decide_eq_true_eq] at q
            omega
          have mc := mi.chunkX (k := k) (by omega) fun j hj l y hy => Int.le_trans (k2' j hj l) (head_le mi.sy i2 y hy)
          have sc : t + 2 ≤ (out ++ a.extract ia (ia + k)).size := by rw [Array.size_append]; omega
          dsimp only
          by_cases gk : k > 0
          case' pos =>
            rw [if_pos gk]
            by_cases g3 : ia + k + 1 = a.size
            · rw [if_pos (by simpa using g3)]
              exact wpS_pure (.inl ⟨_, _, rfl, ev, fin_last mc g3 hl⟩)
            rw [if_neg (by simpa using g3)]
            by_cases g4 : ia + k = a.size
            · rw [if_pos (by simpa using g4)]
              exact wpS_pure (.inl ⟨_, _, rfl, ev, fin_done mc (.inr g4)⟩)
            rw [if_neg (by simpa using g4)]
            have j1 : ia + k + 1 < a.size := by omega
            clear mi i1 i3 i4 k2 k3 k2' k1
            generalize out ++ a.extract ia (ia + k) = out' at mc sc ⊢
            generalize ia + k = ia' at mc j1 k3' ⊢
          case' neg =>
            rw [if_neg gk]
            have k0 : k = 0 := by omega
            have j1 : ia + 1 < a.size := i1
            clear mc sc k2 k3 k2' k1
            have mc := mi
            have sc := i3
            clear mi i3 i1 i4
            rw [k0, Nat.add_zero] at k3'
            clear k0
            generalize out = out' at mc sc ⊢
            generalize ia = ia' at mc j1 k3' ⊢
        all_goals
          refine wpS_bind (wp_elem i2 ?_)
          have m2 := mc.pushY i2 k3'
          have s2 : t + 2 ≤ (out'.push b[ib]).size := by rw [Array.size_push]; omega
          by_cases g5 : ib + 1 = b.size
          · rw [if_pos (by simpa using g5)]
            exact wpS_pure (.inl ⟨_, _, rfl, ev, fin_done m2 (.inl g5)⟩)
          rw [if_neg (by simpa using g5)]
          have j2 : ia' < a.size := by omega
          have i5 : ib + 1 < b.size := by omega
          have saa := ha _ (Array.getElem_mem j2)
          refine wpS_bind (wp_elem j2 ?_)
          generalize out'.push b[ib] = o2 at m2 s2 ⊢
          generalize ib + 1 = ib' at m2 i5 ⊢
          refine wpS_bind (wp_gallop (left := true) (arr := b) (base := ib') (n := b.size - ib') (hint := 0) hc saa hb (by omega) (by omega) ?_ (ev.ok ok) fun kk k1 k2 k3 => ?_)
          · intro i j hij hj q
            have e := srt_le m2.sy hij (show ib' + j < b.size by omega)
            unfold bey at q ⊢
            rw [if_pos rfl] at q ⊢
            simp only [Array.getD_eq_getD_getElem?, Array.getElem?_eq_getElem (show ib' + j < b.size by omega), Array.getElem?_eq_getElem (show ib' + i < b.size by omega), Option.getD_some, decide_eq_true_eq] at q ⊢
            omega
        all_goals
          have c2' : ∀ j, ∀ hj : ib' + j < b.size, j < kk → kf b[ib' + j] ≤ kf a[ia'] := fun j hj l => by
            have q := k2 j l
            unfold bey at q
            rw [if_pos rfl] at q
            simp only [Array.getD_eq_getD_getElem?, Array.getElem?_eq_getElem hj, Option.getD_some, decide_eq_true_eq] at q
            omega
          have c3' : ∀ z ∈ b.toList.drop (ib' + kk), kf a[ia'] ≤ kf z := fun z hz => by
            obtain ⟨j, hj, rfl⟩ := mem_drop_iff hz
            have q := k3 (kk + j) (by omega) (by omega)
            unfold bey at q
            rw [if_pos rfl] at q
            simp only [Array.getD_eq_getD_getElem?, ← Nat.add_assoc, Array.getElem?_eq_getElem hj, Option.getD_some, decide_eq_false_iff_not] at q
            omega
          have m3 := m2.chunkY (k := kk) (by omega) fun j hj l x hx => Int.le_trans (c2' j hj l) (head_le m2.sx j2 x hx)
          have s3 : t + 2 ≤ (o2 ++ b.extract ib' (ib' + kk)).size := by rw [Array.size_append]; omega
          dsimp only
          by_cases gk' : kk > 0
          case' pos =>
            rw [if_pos gk']
            by_cases g3 : ib' + kk = b.size
            · rw [if_pos (by simpa using g3)]
              exact wpS_pure (.inl ⟨_, _, rfl, ev, fin_done m3 (.inl g3)⟩)
            rw [if_neg (by simpa using g3)]
            have i6 : ib' + kk < b.size := by omega
            generalize o2 ++ b.extract ib' (ib' + kk) = o3 at m3 s3 ⊢
            generalize ib' + kk = ib'' at m3 i6 c3' ⊢
          case' neg =>
            rw [if_neg gk']
            have k0 : kk = 0 := by omega
            have i6 : ib' < b.size := i5
            clear m3 s3
            have m3 := m2
            have s3 := s2
            rw [k0, Nat.add_zero] at c3'
            generalize o2 = o3 at m3 s3 ⊢
            generalize ib' = ib'' at m3 i6 c3' ⊢
        all_goals
          refine wpS_bind (wp_elem j2 ?_)
          have m4 := m3.pushX j2 c3'
          by_cases g7 : ia' + 1 + 1 = a.size
          · rw [if_pos (by simpa using g7)]
            exact wpS_pure (.inl ⟨_, _, rfl, ev, fin_last m4 g7 hl⟩)
          rw [if_neg (by simpa using g7)]
          have s4 : t + 2 ≤ (o3.push a[ia']).size := by rw [Array.size_push]; omega
          cases (decide (k < 7) && decide (kk < 7))
          · rw [if_neg (by decide)]
            exact wpS_pure ⟨_, _, _, _, _, _, rfl, ev, m4, by omega, i6, s4⟩
          · rw [if_pos rfl]
            exact wpS_pure (.inr ⟨_, _, _, _, _, _, rfl, ev, m4, by omega, i6, s4⟩)
      · rintro c st' ⟨out, ia, ib, mg, ac, bc, rfl, ev, mi, i1, i2, i3⟩
        exact .inr ⟨_, _, _, _, _, _, rfl, ev, mi, i1, i2, i3⟩
      · rintro c st' (⟨res, rest, rfl, ev, fi⟩ | ⟨out, ia, ib, mg, ac, bc, rfl, ev, mi, i1, i2, i3⟩)
        · exact wpS_pure ⟨_, _, rfl, ev, fi⟩
        dsimp only
        refine wp_setG ev fun st' ev => ?_
        exact wpS_pure ⟨_, _, _, _, rfl, ev, mi, i1, i2, by omega⟩
  · rintro c st' ⟨out, ia, ib, mg, rfl, ev, mi, i1, i2, i3⟩
    have := mi.len
    simp only [List.length_drop, Array.length_toList] at this
    omega
  · rintro c st' ⟨res, rest, rfl, ev, fi⟩
    exact wpS_pure (h _ _ ev fi)
end
end FQ
namespace FQ
open PySem PyProof.Rows
section
variable {kf : Keyed → Int} {T O X Y : List Keyed}
theorem take_snoc {a : Array Keyed} {n : Nat} (h0 : 0 < n) (h : n ≤ a.size) : (a.toList.take n).reverse = a[n - 1] :: (a.toList.take (n - 1)).reverse := by
  obtain ⟨m, rfl⟩ : ∃ m, n = m + 1 := ⟨n - 1, by omega⟩
  rw [List.take_succ_eq_append_getElem (by rw [Array.length_toList]; omega), List.reverse_append]
  simp
theorem mem_take {a : Array Keyed} {n : Nat} {z : Keyed} (h : z ∈ (a.toList.take n).reverse) : ∃ j, ∃ hj : j < a.size, j < n ∧ a[j] = z := by
  obtain ⟨j, hj, e⟩ := List.mem_iff_getElem.mp (List.mem_reverse.mp h)
  rw [List.getElem_take] at e
  simp only [List.length_take, Array.length_toList] at hj
  exact ⟨j, by omega, by omega, by simpa using e⟩
theorem MI.popX {a : Array Keyed} {out : Array Keyed} {n : Nat} (m : MI kf T out.toList (a.toList.take n).reverse Y) (h0 : 0 < n) (h : n ≤ a.size) (c : ∀ y ∈ Y, kf a[n - 1] ≤ kf y) : MI kf T (out.push a[n - 1]).toList (a.toList.take (n - 1)).reverse Y := by
  rw [take_snoc h0 h] at m
  rw [Array.toList_push]
  exact MI.takeX (X1 := [a[n - 1]]) m fun x hx y hy => by rw [List.mem_singleton.mp hx]; exact c y hy
theorem MI.popY {b : Array Keyed} {out : Array Keyed} {n : Nat} (m : MI kf T out.toList X (b.toList.take n).reverse) (h0 : 0 < n) (h : n ≤ b.size) (c : ∀ y ∈ X, kf b[n - 1] ≤ kf y) : MI kf T (out.push b[n - 1]).toList X (b.toList.take (n - 1)).reverse := (m.flip.popX h0 h c).flip
theorem MI.cutX {a : Array Keyed} {out : Array Keyed} {at_ n : Nat} (m : MI kf T out.toList (a.toList.take n).reverse Y) (h0 : at_ ≤ n) (h : n ≤ a.size) (c : ∀ j, ∀ hj : j < a.size, at_ ≤ j → j < n → ∀ y ∈ Y, kf a[j] ≤ kf y) : MI kf T (out ++ (a.extract at_ n).reverse).toList (a.toList.take at_).reverse Y := by
  have e : a.toList.take n = a.toList.take at_ ++ (a.toList.drop at_).take (n - at_) := by
    have := List.take_append_drop at_ (a.toList.take n)
    rw [List.take_take, Nat.min_eq_left h0, List.drop_take] at this
    exact this.symm
  have e2 : (a.extract at_ n).toList = (a.toList.drop at_).take (n - at_) := by
    have := ext_list (a := a) (i := at_) (k := n - at_) (by omega)
    rwa [Nat.add_sub_cancel' h0] at this
  rw [Array.toList_append, Array.toList_reverse, e2]
  rw [e, List.reverse_append] at m
  exact MI.takeX m fun x hx y hy => by
    obtain ⟨j, hj, l, rfl⟩ := take_mem (List.mem_reverse.mp hx)
    exact c _ hj (by omega) (by omega) y hy
theorem MI.cutY {b : Array Keyed} {out : Array Keyed} {at_ n : Nat} (m : MI kf T out.toList X (b.toList.take n).reverse) (h0 : at_ ≤ n) (h : n ≤ b.size) (c : ∀ j, ∀ hj : j < b.size, at_ ≤ j → j < n → ∀ y ∈ X, kf b[j] ≤ kf y) : MI kf T (out ++ (b.extract at_ n).reverse).toList X (b.toList.take at_).reverse := (m.flip.cutX h0 h c).flip
theorem ext0 {a : Array Keyed} {n : Nat} : (a.extract 0 n).toList = a.toList.take n := by
  rw [Array.toList_extract]
  simp [List.extract]
abbrev nf (kf : Keyed → Int) : Keyed → Int := fun x => -kf x
theorem srt_rev {l : List Keyed} (h : Srt (nf kf) l) : Srt kf l.reverse := by
  unfold Srt at h ⊢
  rw [List.pairwise_reverse]
  exact h.imp fun {x y} e => by simp only [nf] at e; omega
theorem rev_srt {l : List Keyed} (h : Srt kf l) : Srt (nf kf) l.reverse := by
  unfold Srt at h ⊢
  rw [List.pairwise_reverse]
  exact h.imp fun {x y} e => by simp only [nf]; omega
theorem fin_doneH {a b out : Array Keyed} {na nb : Nat} (h : MI (nf kf) T out.toList (a.toList.take na).reverse (b.toList.take nb).reverse) (c : na = 0 ∨ nb = 0) : Fin' kf T (a.extract 0 na ++ b.extract 0 nb ++ out.reverse) := by
  have e : (a.extract 0 na ++ b.extract 0 nb ++ out.reverse).toList = (out.toList ++ (b.toList.take nb).reverse ++ (a.toList.take na).reverse).reverse := by
    rw [Array.toList_append, Array.toList_append, ext0, ext0, Array.toList_reverse]
    simp
  obtain ⟨p, q⟩ := h.fin' fun y hy x hx => by
    rcases c with rfl | rfl
    · simp at hx
    · simp at hy
  unfold Fin'
  rw [e]
  exact ⟨(List.reverse_perm _).trans p, srt_rev q⟩
theorem fin_first {a b out : Array Keyed} {na nb : Nat} (h : MI (nf kf) T out.toList (a.toList.take na).reverse (b.toList.take nb).reverse) (hb : 0 < b.size) (h1 : nb = 1) (h0 : ∀ x ∈ a, kf b[0] ≤ kf x) : Fin' kf T (b.extract 0 nb ++ a.extract 0 na ++ out.reverse) := by
  have e : (b.extract 0 nb ++ a.extract 0 na ++ out.reverse).toList = (out.toList ++ (a.toList.take na).reverse ++ (b.toList.take nb).reverse).reverse := by
    rw [Array.toList_append, Array.toList_append, ext0, ext0, Array.toList_reverse]
    simp
  obtain ⟨p, q⟩ := h.fin fun x hx y hy => by
    obtain ⟨j, hj, l, rfl⟩ := mem_take hy
    have : j = 0 := by omega
    subst this
    have := h0 x (Array.mem_def.mpr (List.mem_of_mem_take (List.mem_reverse.mp hx)))
    simp only [nf]
    omega
  unfold Fin'
  rw [e]
  exact ⟨(List.reverse_perm _).trans p, srt_rev q⟩
theorem srt_at {a : Array Keyed} (h : Srt kf a.toList) {j k : Nat} (hjk : j ≤ k) (hk : k < a.size) : kf (a[j]'(by omega)) ≤ kf a[k] := by
  have := srt_le (a := a) (i := 0) (j := j) (k := k) (by simpa using h) hjk (by omega)
  simpa using this
theorem bey_f {key : Keyed} {arr : Array Keyed} {i : Nat} (hi : i < arr.size) : (bey kf false key arr i = true) = (kf arr[i] ≤ kf key) := by
  unfold bey
  rw [if_neg (by decide)]
  simp only [Array.getD_eq_getD_getElem?, Array.getElem?_eq_getElem hi, Option.getD_some, Bool.not_eq_true', decide_eq_false_iff_not, Int.not_lt]
theorem bey_t {key : Keyed} {arr : Array Keyed} {i : Nat} (hi : i < arr.size) : (bey kf true key arr i = true) = (kf arr[i] < kf key) := by
  unfold bey
  rw [if_pos rfl]
  simp only [Array.getD_eq_getD_getElem?, Array.getElem?_eq_getElem hi, Option.getD_some, decide_eq_true_eq]
end
section
variable {M : Model} {A : Around} {E : Value → Shared → Prop} {s : Shared} {κ : SortKind} {kf : Keyed → Int} {S : Keyed → Prop}
theorem wp_mergeHi (hc : Cmp M A s κ kf S) {a b : Array Keyed} (ha : ∀ x ∈ a, S x) (hb : ∀ x ∈ b, S x) (sa : Srt kf a.toList) (sb : Srt kf b.toList) (za : 0 < a.size) (zb : 0 < b.size)
    (h0 : ∀ x ∈ a, kf b[0] ≤ kf x) (hl : ∀ y ∈ b, kf y ≤ kf (a[a.size - 1]'(by omega))) {st : SortSt} (ok : Ok κ st) {Q : Array Keyed → SortSt → Prop}
    (h : ∀ out st', Eqv st st' → Fin' kf (a.toList ++ b.toList) out → Q out st') : wpS M A E s (mergeHi' a b) Q st := by
  have m0 : MI (nf kf) (a.toList ++ b.toList) (#[] : Array Keyed).toList (a.toList.take a.size).reverse (b.toList.take b.size).reverse := ⟨by
      simp only [← Array.length_toList, List.take_length, List.nil_append]
      exact (List.reverse_perm _).append (List.reverse_perm _), .nil, by
      simp only [← Array.length_toList, List.take_length]
      exact rev_srt sa, by
      simp only [← Array.length_toList, List.take_length]
      exact rev_srt sb, by simp, by simp⟩
  have m1 := m0.popX za (Nat.le_refl _) fun x hx => by
    obtain ⟨j, hj, l, rfl⟩ := mem_take hx
    have := hl _ (Array.getElem_mem hj)
    simp only [nf]
    omega
  refine wpS_bind (wpS_lift (wpAny_rule ?_))
  refine ⟨rfl, ?_⟩
  refine wpS_bind (wp_elem (show a.size - 1 < a.size by omega) ?_)
  by_cases g1 : a.size - 1 = 0
  · rw [if_pos (by simpa using g1)]
    exact wpS_pure (h _ _ (.refl _) (fin_doneH m1 (.inl g1)))
  rw [if_neg (by simpa using g1)]
  by_cases g2 : b.size = 1
  · rw [if_pos (by simpa using g2)]
    exact wpS_pure (h _ _ (.refl _) (fin_first m1 zb g2 h0))
  rw [if_neg (by simpa using g2)]
  refine wpS_bind (wpS_get ?_)
  generalize eT : a.toList ++ b.toList = T at *
  have lT : T.length = a.size + b.size := by rw [← eT]; simp
  refine wp_loop (fun t c st' => ∃ na nb out mg, c = (none, na, nb, out, mg) ∧ Eqv st st' ∧ MI (nf kf) T out.toList (a.toList.take na).reverse (b.toList.take nb).reverse ∧ 0 < na ∧ na ≤ a.size ∧ 1 < nb ∧ nb ≤ b.size ∧ t + 1 ≤ out.size)
    (fun c st' => ∃ res rest, c = (some res, rest) ∧ Eqv st st' ∧ Fin' kf T res) ?_ ?_ ⟨_, _, _, _, rfl, .refl _, m1, by omega, by omega, by omega, by omega, by simp⟩ ?_
  · rintro t c st' - ht ⟨na, nb, out, mg, rfl, ev, mi, i1, i2, i3, i4, i5⟩
    dsimp only
    refine wp_loop (fun i c st' => ∃ na nb out ac bc, c = (none, na, nb, out, ac, bc) ∧ Eqv st st' ∧ MI (nf kf) T out.toList (a.toList.take na).reverse (b.toList.take nb).reverse ∧ 0 < na ∧ na ≤ a.size ∧ 1 < nb ∧ nb ≤ b.size ∧ t + 1 + i ≤ out.size)
      (fun c st' => (∃ res rest, c = (some res, rest) ∧ Eqv st st' ∧ Fin' kf T res) ∨ (∃ na nb out ac bc, c = (none, na, nb, out, ac, bc) ∧ Eqv st st' ∧ MI (nf kf) T out.toList (a.toList.take na).reverse (b.toList.take nb).reverse ∧ 0 < na ∧ na ≤ a.size ∧ 1 < nb ∧ nb ≤ b.size ∧ t + 2 ≤ out.size)) ?_ ?_ ⟨_, _, _, _, _, rfl, ev, mi, i1, i2, i3, i4, i5⟩ ?_
    · clear ev mi i1 i2 i3 i4 i5
      rintro i c st' - hi ⟨na, nb, out, ac, bc, rfl, ev, mi, i1, i2, i3, i4, i5⟩
      have ja : na - 1 < a.size := by omega
      have jb : nb - 1 < b.size := by omega
      dsimp only
      refine wpS_bind (wp_elem jb (wpS_bind (wp_elem ja (wpS_bind (wp_lt hc (hb _ (Array.getElem_mem jb)) (ha _ (Array.getElem_mem ja)) (ev.ok ok) ?_)))))
      dsimp only
      by_cases g : kf b[nb - 1] < kf a[na - 1]
      · rw [if_pos (by simpa using g)]
        have mi' := mi.popX i1 i2 fun x hx => by
          obtain ⟨j, hj, l, rfl⟩ := mem_take hx
          have := srt_at sb (show j ≤ nb - 1 by omega) jb
          simp only [nf]
          omega
        refine wpS_bind (wp_elem ja ?_)
        by_cases g3 : na - 1 = 0
        · rw [if_pos (by simpa using g3)]
          exact wpS_pure (.inl ⟨_, _, rfl, ev, fin_doneH mi' (.inl g3)⟩)
        rw [if_neg (by simpa using g3)]
        by_cases g5 : ac + 1 ≥ mg
        · rw [if_pos g5]
          exact wpS_pure (.inr ⟨_, _, _, _, _, rfl, ev, mi', by omega, by omega, i3, i4, by simp; omega⟩)
        · rw [if_neg g5]
          exact wpS_pure ⟨_, _, _, _, _, rfl, ev, mi', by omega, by omega, i3, i4, by simp; omega⟩
      · rw [if_neg (by simpa using g)]
        have mi' := mi.popY (by omega) i4 fun x hx => by
          obtain ⟨j, hj, l, rfl⟩ := mem_take hx
          have := srt_at sa (show j ≤ na - 1 by omega) ja
          simp only [nf]
          omega
        refine wpS_bind (wp_elem jb ?_)
        by_cases g3 : nb - 1 = 1
        · rw [if_pos (by simpa using g3)]
          exact wpS_pure (.inl ⟨_, _, rfl, ev, fin_first mi' zb g3 h0⟩)
        rw [if_neg (by simpa using g3)]
        by_cases g5 : bc + 1 ≥ mg
        · rw [if_pos g5]
          exact wpS_pure (.inr ⟨_, _, _, _, _, rfl, ev, mi', i1, i2, by omega, by omega, by simp; omega⟩)
        · rw [if_neg g5]
          exact wpS_pure ⟨_, _, _, _, _, rfl, ev, mi', i1, i2, by omega, by omega, by simp; omega⟩
    · rintro c st' ⟨na, nb, out, ac, bc, rfl, ev, mi, i1, i2, i3, i4, i5⟩
      exact .inr ⟨_, _, _, _, _, rfl, ev, mi, i1, i2, i3, i4, by omega⟩
    · clear ev mi i1 i2 i3 i4 i5
      rintro c st' (⟨res, rest, rfl, ev, fi⟩ | ⟨na, nb, out, ac, bc, rfl, ev, mi, i1, i2, i3, i4, i5⟩)
      · exact wpS_pure ⟨_, _, rfl, ev, fi⟩
      dsimp only
      refine wpS_bind (wpS_lift (wpAny_rule ?_))
      refine ⟨rfl, ?_⟩
      refine wp_loop (fun i c st' => ∃ na nb out mg ac bc, c = (none, na, nb, out, mg, ac, bc) ∧ Eqv st st' ∧ MI (nf kf) T out.toList (a.toList.take na).reverse (b.toList.take nb).reverse ∧ 0 < na ∧ na ≤ a.size ∧ 1 < nb ∧ nb ≤ b.size ∧ t + 2 ≤ out.size)
        (fun c st' => (∃ res rest, c = (some res, rest) ∧ Eqv st st' ∧ Fin' kf T res) ∨ (∃ na nb out mg ac bc, c = (none, na, nb, out, mg, ac, bc) ∧ Eqv st st' ∧ MI (nf kf) T out.toList (a.toList.take na).reverse (b.toList.take nb).reverse ∧ 0 < na ∧ na ≤ a.size ∧ 1 < nb ∧ nb ≤ b.size ∧ t + 2 ≤ out.size)) ?_ ?_ ⟨_, _, _, _, _, _, rfl, ev, mi, i1, i2, i3, i4, i5⟩ ?_
      · clear ev mi i1 i2 i3 i4 i5
        rintro i c st' - hi ⟨na, nb, out, mg, ac, bc, rfl, ev, mi, i1, i2, i3, i4, i5⟩
        have ja : na - 1 < a.size := by omega
        have jb : nb - 1 < b.size := by omega
        dsimp only
        have sbb := hb _ (Array.getElem_mem jb)
        by_cases gm : mg > 1
        case' pos => rw [if_pos gm]
        case' neg => rw [if_neg gm]
        all_goals
          refine wp_setG ev fun st' ev => ?_
          refine wpS_bind (wp_elem jb ?_)
          refine wpS_bind (wp_gallop (left := false) (arr := a) (base := 0) (n := na) (hint := na - 1) hc sbb ha (by omega) (by omega) ?_ (ev.ok ok) fun k k1 k2 k3 => ?_)
          · intro i j hij hj q
            have e := srt_at sa (show 0 + i ≤ 0 + j by omega) (show 0 + j < a.size by omega)
            rw [bey_f (by omega)] at q ⊢
            omega
        all_goals
          have k3' : ∀ j, ∀ hj : j < a.size, k ≤ j → j < na → kf b[nb - 1] < kf a[j] := fun j hj l1 l2 => by
            have q := k3 j l1 l2
            rw [← Bool.not_eq_true, Nat.zero_add, bey_f hj] at q
            omega
          have k2' : ∀ j, ∀ hj : j < a.size, j < k → kf a[j] ≤ kf b[nb - 1] := fun j hj l1 => by
            have q := k2 j l1
            rw [Nat.zero_add, bey_f hj] at q
            exact q
          have mc := mi.cutX (at_ := k) k1 i2 fun j hj l1 l2 y hy => by
            obtain ⟨i, hi', l, rfl⟩ := mem_take hy
            have := srt_at sb (show i ≤ nb - 1 by omega) jb
            have := k3' j hj l1 l2
            simp only [nf]
            omega
          have sc : t + 2 ≤ (out ++ (a.extract k na).reverse).size := by rw [Array.size_append]; omega
          dsimp only
          by_cases gk : na - k > 0
          case' pos =>
            rw [if_pos gk]
            by_cases g3 : k = 0
            · rw [if_pos (by simpa using g3)]
              exact wpS_pure (.inl ⟨_, _, rfl, ev, fin_doneH mc (.inl g3)⟩)
            rw [if_neg (by simpa using g3)]
            have j0 : 0 < k := by omega
            have j1 : k ≤ a.size := by omega
            generalize na - k = kx
            clear mi i1 i2 k3 k3' k2 ja
            generalize out ++ (a.extract k na).reverse = out' at mc sc ⊢
          case' neg =>
            rw [if_neg gk]
            have k0 : k = na := by omega
            clear mc sc
            have mc := mi
            have sc := i5
            generalize na - k = kx
            subst k0
            have j0 : 0 < k := i1
            have j1 : k ≤ a.size := i2
            clear mi i5 i1 i2 k3 k3' k2 k1 ja
            generalize out = out' at mc sc ⊢
        all_goals
          refine wpS_bind (wp_elem jb ?_)
          have m2 := mc.popY (by omega) i4 fun x hx => by
            obtain ⟨j, hj, l, rfl⟩ := mem_take hx
            have := k2' j hj l
            simp only [nf]
            omega
          have s2 : t + 2 ≤ (out'.push b[nb - 1]).size := by rw [Array.size_push]; omega
          by_cases g5 : nb - 1 = 1
          · rw [if_pos (by simpa using g5)]
            exact wpS_pure (.inl ⟨_, _, rfl, ev, fin_first m2 zb g5 h0⟩)
          rw [if_neg (by simpa using g5)]
          have i6 : 1 < nb - 1 := by omega
          have i7 : nb - 1 ≤ b.size := by omega
          have ja : k - 1 < a.size := by omega
          have saa := ha _ (Array.getElem_mem ja)
          refine wpS_bind (wp_elem ja ?_)
          clear k2'
          generalize out'.push b[nb - 1] = o2 at m2 s2 ⊢
          generalize nb - 1 = nb' at m2 i6 i7 ⊢
          refine wpS_bind (wp_gallop (left := true) (arr := b) (base := 0) (n := nb') (hint := nb' - 1) hc saa hb (by omega) (by omega) ?_ (ev.ok ok) fun kk k1 k2 k3 => ?_)
          · intro i j hij hj q
            have e := srt_at sb (show 0 + i ≤ 0 + j by omega) (show 0 + j < b.size by omega)
            rw [bey_t (by omega)] at q ⊢
            omega
        all_goals
          have k3' : ∀ j, ∀ hj : j < b.size, kk ≤ j → j < nb' → kf a[k - 1] ≤ kf b[j] := fun j hj l1 l2 => by
            have q := k3 j l1 l2
            rw [← Bool.not_eq_true, Nat.zero_add, bey_t hj] at q
            omega
          have k2' : ∀ j, ∀ hj : j < b.size, j < kk → kf b[j] ≤ kf a[k - 1] := fun j hj l1 => by
            have q := k2 j l1
            rw [Nat.zero_add, bey_t hj] at q
            omega
          have m3 := m2.cutY (at_ := kk) k1 i7 fun j hj l1 l2 y hy => by
            obtain ⟨i, hi', l, rfl⟩ := mem_take hy
            have := srt_at sa (show i ≤ k - 1 by omega) ja
            have := k3' j hj l1 l2
            simp only [nf]
            omega
          have s3 : t + 2 ≤ (o2 ++ (b.extract kk nb').reverse).size := by rw [Array.size_append]; omega
          dsimp only
          by_cases gk' : nb' - kk > 0
          case' pos =>
            rw [if_pos gk']
            by_cases g3 : kk = 1
            · rw [if_pos (by simpa using g3)]
              exact wpS_pure (.inl ⟨_, _, rfl, ev, fin_first m3 zb g3 h0⟩)
            rw [if_neg (by simpa using g3)]
            by_cases g4 : kk = 0
            · rw [if_pos (by simpa using g4)]
              exact wpS_pure (.inl ⟨_, _, rfl, ev, fin_doneH m3 (.inr g4)⟩)
            rw [if_neg (by simpa using g4)]
            have j2 : 1 < kk := by omega
            have j3 : kk ≤ b.size := by omega
            generalize nb' - kk = ky
            generalize o2 ++ (b.extract kk nb').reverse = o3 at m3 s3 ⊢
          case' neg =>
            rw [if_neg gk']
            have k0 : kk = nb' := by omega
            clear m3 s3
            have m3 := m2
            have s3 := s2
            generalize nb' - kk = ky
            subst k0
            have j2 : 1 < kk := i6
            have j3 : kk ≤ b.size := i7
            generalize o2 = o3 at m3 s3 ⊢
        all_goals
          refine wpS_bind (wp_elem ja ?_)
          have m4 := m3.popX j0 j1 fun y hy => by
            obtain ⟨j, hj, l, rfl⟩ := mem_take hy
            have := k2' j hj l
            simp only [nf]
            omega
          have s4 : t + 2 ≤ (o3.push a[k - 1]).size := by rw [Array.size_push]; omega
          by_cases g7 : k - 1 = 0
          · rw [if_pos (by simpa using g7)]
            exact wpS_pure (.inl ⟨_, _, rfl, ev, fin_doneH m4 (.inl g7)⟩)
          rw [if_neg (by simpa using g7)]
          cases (decide (kx < 7) && decide (ky < 7))
          · rw [if_neg (by decide)]
            exact wpS_pure ⟨_, _, _, _, _, _, rfl, ev, m4, by omega, by omega, j2, j3, s4⟩
          · rw [if_pos rfl]
            exact wpS_pure (.inr ⟨_, _, _, _, _, _, rfl, ev, m4, by omega, by omega, j2, j3, s4⟩)
      · rintro c st' ⟨na, nb, out, mg, ac, bc, rfl, ev, mi, i1, i2, i3, i4, i5⟩
        exact .inr ⟨_, _, _, _, _, _, rfl, ev, mi, i1, i2, i3, i4, i5⟩
      · rintro c st' (⟨res, rest, rfl, ev, fi⟩ | ⟨na, nb, out, mg, ac, bc, rfl, ev, mi, i1, i2, i3, i4, i5⟩)
        · exact wpS_pure ⟨_, _, rfl, ev, fi⟩
        dsimp only
        refine wp_setG ev fun st' ev => ?_
        exact wpS_pure ⟨_, _, _, _, rfl, ev, mi, i1, i2, i3, i4, by omega⟩
  · rintro c st' ⟨na, nb, out, mg, rfl, ev, mi, i1, i2, i3, i4, i5⟩
    have := mi.len
    simp only [List.length_reverse, List.length_take, Array.length_toList] at this
    omega
  · rintro c st' ⟨res, rest, rfl, ev, fi⟩
    exact wpS_pure (h _ _ ev fi)
end
end FQ
namespace FQ
open PySem PyProof.Rows
section
variable {kf : Keyed → Int}
/-- n items from i on -/
def seg (L : List Keyed) (i n : Nat) : List Keyed := (L.drop i).take n
theorem seg_len {L : List Keyed} {i n : Nat} (h : i + n ≤ L.length) : (seg L i n).length = n := by
  unfold seg
  rw [List.length_take, List.length_drop]
  omega
theorem seg_get {L : List Keyed} {i n j : Nat} : (seg L i n)[j]? = if j < n then L[i + j]? else none := by
  unfold seg
  rw [List.getElem?_take]
  split
  · rw [List.getElem?_drop]
  · rfl
theorem seg_cut {L : List Keyed} {i n m : Nat} : seg L i (n + m) = seg L i n ++ seg L (i + n) m := by
  unfold seg
  rw [List.take_add, List.drop_drop]
theorem seg_mem {a : Array Keyed} {i n : Nat} {z : Keyed} (h : z ∈ seg a.toList i n) : ∃ j, ∃ hj : i + j < a.size, j < n ∧ a[i + j] = z := take_mem h
theorem seg_le {a : Array Keyed} {i n : Nat} (h : Srt kf (seg a.toList i n)) {j k : Nat} (hjk : j ≤ k) (hk : k < n) (hs : i + n ≤ a.size) : kf (a[i + j]'(by omega)) ≤ kf (a[i + k]'(by omega)) := by
  rcases Nat.lt_or_ge j k with l | g
  · have l1 : (seg a.toList i n).length = n := seg_len (by simpa using hs)
    have := List.pairwise_iff_getElem.mp h j k (by omega) (by omega) l
    unfold seg at this
    simpa using this
  · have : j = k := by omega
    subst this
    exact Int.le_refl _
theorem seg_take {L : List Keyed} {i n k : Nat} (h : k ≤ n) : (seg L i n).take k = seg L i k := by
  unfold seg
  rw [List.take_take, Nat.min_eq_left h]
theorem seg_drop {L : List Keyed} {i n k : Nat} : (seg L i n).drop k = seg L (i + k) (n - k) := by
  unfold seg
  rw [List.drop_take, List.drop_drop]
theorem parts {L : List Keyed} {i n m : Nat} (h : i + n + m ≤ L.length) : L = L.take i ++ (seg L i n ++ seg L (i + n) m) ++ L.drop (i + n + m) := by
  have e1 := (List.take_append_drop i L).symm
  have e2 : L.drop i = seg L i (n + m) ++ L.drop (i + n + m) := by
    have := (List.take_append_drop (n + m) (L.drop i)).symm
    rw [List.drop_drop, ← Nat.add_assoc] at this
    exact this
  rw [seg_cut] at e2
  rw [List.append_assoc, ← e2]
  exact e1
/-- the two ends that stay, and what is merged between -/
theorem joinW {X Y Z : List Keyed} {k n : Nat} (sx : Srt kf X) (sy : Srt kf Y) (c1 : ∀ x ∈ X.take k, ∀ y ∈ Y, kf x ≤ kf y) (c2 : ∀ x ∈ X, ∀ y ∈ Y.drop n, kf x ≤ kf y) (p : Z.Perm (X.drop k ++ Y.take n)) (sz : Srt kf Z) :
    Srt kf (X.take k ++ Z ++ Y.drop n) ∧ (X.take k ++ Z ++ Y.drop n).Perm (X ++ Y) := by
  have hx := List.take_append_drop k X
  have hy := List.take_append_drop n Y
  have sx' := sx
  have sy' := sy
  unfold Srt at sx' sy'
  rw [← hx] at sx'
  rw [← hy] at sy'
  obtain ⟨x1, x2, x3⟩ := List.pairwise_append.mp sx'
  obtain ⟨y1, y2, y3⟩ := List.pairwise_append.mp sy'
  constructor
  · refine List.pairwise_append.mpr ⟨List.pairwise_append.mpr ⟨x1, sz, fun x hx z hz => ?_⟩, y2, fun z hz y hy => ?_⟩
    · rcases List.mem_append.mp (p.mem_iff.mp hz) with q | q
      · exact x3 x hx z q
      · exact c1 x hx z (List.mem_of_mem_take q)
    · rcases List.mem_append.mp hz with q | q
      · exact c1 z q y (List.mem_of_mem_drop hy)
      · rcases List.mem_append.mp (p.mem_iff.mp q) with q | q
        · exact c2 z (List.mem_of_mem_drop q) y hy
        · exact y3 z q y hy
  · have e : X ++ Y = X.take k ++ (X.drop k ++ Y.take n) ++ Y.drop n := by
      conv => lhs; rw [← hx, ← hy]
      simp only [List.append_assoc]
    rw [e]
    exact (p.append_left _).append_right _
theorem put_get {a : Array Keyed} {s : Nat} : ∀ (l : List Keyed) (a : Array Keyed) (k : Nat), s + k + l.length ≤ a.size → ∀ m, ((l.zipIdx k).foldl (fun (a : Array Keyed) x => match x with | (p, j) => a.setIfInBounds (s + j) p) a)[m]? = if s + k ≤ m ∧ m < s + k + l.length then l[m - (s + k)]? else a[m]?
  | [], a, k, h, m => by
    rw [if_neg (by simp)]
    rfl
  | x :: l, a, k, h, m => by
    rw [List.zipIdx_cons, List.foldl_cons]
    simp only [List.length_cons] at h ⊢
    rw [put_get (a := a) l _ (k + 1) (by simp; omega) m]
    by_cases g : m = s + k
    · subst g
      rw [if_neg (by omega), if_pos (by omega), Nat.sub_self, List.getElem?_cons_zero, Array.getElem?_setIfInBounds_self_of_lt (by omega)]
    · by_cases g2 : s + (k + 1) ≤ m ∧ m < s + (k + 1) + l.length
      · rw [if_pos g2, if_pos (by omega), show m - (s + k) = (m - (s + (k + 1))) + 1 by omega, List.getElem?_cons_succ]
      · rw [if_neg g2, if_neg (by omega), Array.getElem?_setIfInBounds_ne (by omega)]
theorem put_list {a : Array Keyed} {s : Nat} {l : List Keyed} (h : s + l.length ≤ a.size) : ((l.zipIdx).foldl (fun (a : Array Keyed) x => match x with | (p, j) => a.setIfInBounds (s + j) p) a).toList = a.toList.take s ++ l ++ a.toList.drop (s + l.length) := by
  refine List.ext_getElem? fun m => ?_
  rw [Array.getElem?_toList, put_get (a := a) l a 0 (by omega) m]
  simp only [Nat.add_zero]
  by_cases g : m < s
  · rw [if_neg (by omega), List.append_assoc, List.getElem?_append_left (by simp; omega), List.getElem?_take, if_pos g, Array.getElem?_toList]
  · by_cases g2 : m < s + l.length
    · rw [if_pos (by omega), List.append_assoc, List.getElem?_append_right (by simp; omega)]
      have e : (a.toList.take s).length = s := by simp; omega
      rw [e, List.getElem?_append_left (by omega)]
    · have e : (a.toList.take s ++ l).length = s + l.length := by simp; omega
      rw [if_neg (by omega), List.getElem?_append_right (by omega), e, List.getElem?_drop, Array.getElem?_toList]
      congr 1
      omega
end
end FQ
namespace FQ
open PySem PyProof.Rows
section
variable {M : Model} {A : Around} {E : Value → Shared → Prop} {s : Shared} {κ : SortKind} {kf : Keyed → Int} {S : Keyed → Prop}
theorem wp_set {σ : Type} {x st : σ} {Q : PUnit → σ → Prop} (h : Q () x) : wpS M A E s (set x) Q st := wpAny_pure ⟨rfl, h⟩
theorem wp_setS {σ γ : Type} {x st : σ} {f : PUnit → StateT σ Sem γ} {Q : γ → σ → Prop} (P : σ → Prop) (hx : P x) (h : ∀ st', P st' → wpS M A E s (f ()) Q st') : wpS M A E s (set x >>= f) Q st := wpS_bind (wp_set (h x hx))
theorem wp_mergeAt (hc : Cmp M A s κ kf S) {st : SortSt} (ok : Ok κ st) (ha : ∀ x ∈ arrOf st, S x) {i sa na pa sb nb pb : Nat} (e1 : (pendingOf st)[i]? = some (sa, na, pa)) (e2 : (pendingOf st)[i + 1]? = some (sb, nb, pb))
    (hab : sb = sa + na) (za : 0 < na) (zb : 0 < nb) (hs : sb + nb ≤ (arrOf st).size) (s1 : Srt kf (seg (arrOf st).toList sa na)) (s2 : Srt kf (seg (arrOf st).toList sb nb)) {Q : Bool → SortSt → Prop}
    (h : ∀ st' W, Ok κ st' → pendingOf st' = ((pendingOf st).setIfInBounds i (sa, na + nb, pa)).eraseIdxIfInBounds (i + 1) → W.Perm (seg (arrOf st).toList sa (na + nb)) → Srt kf W →
      (arrOf st').toList = (arrOf st).toList.take sa ++ W ++ (arrOf st).toList.drop (sa + (na + nb)) → Q true st') :
    wpS M A E s (mergeAt' i) Q st := by
  refine wpS_bind (wpS_get ?_)
  rw [e1, e2]
  refine wp_setS (fun st' => Ok κ st' ∧ pendingOf st' = ((pendingOf st).setIfInBounds i (sa, na + nb, pa)).eraseIdxIfInBounds (i + 1) ∧ arrOf st' = arrOf st) ⟨ok, rfl, rfl⟩ fun st1 ⟨ok1, p1, a1⟩ => ?_
  subst hab
  have L0 : (arrOf st).toList.length = (arrOf st).size := Array.length_toList
  have jb : sa + na < (arrOf st).size := by omega
  have P := parts (L := (arrOf st).toList) (i := sa) (n := na) (m := nb) (by rw [L0]; omega)
  refine wpS_bind (wp_elem jb ?_)
  refine wpS_bind (wp_gallop (left := false) (arr := arrOf st) (base := sa) (n := na) (hint := 0) hc (ha _ (Array.getElem_mem jb)) ha (by omega) za ?_ ok1 fun k k1 k2 k3 => ?_)
  · intro i j hij hj q
    have e := seg_le s1 hij hj (by omega)
    rw [bey_f (by omega)] at q ⊢
    omega
  have k2' : ∀ j, ∀ hj : sa + j < (arrOf st).size, j < k → kf (arrOf st)[sa + j] ≤ kf (arrOf st)[sa + na] := fun j hj l => by
    have q := k2 j l
    rwa [bey_f hj] at q
  have k3' : ∀ j, ∀ hj : sa + j < (arrOf st).size, k ≤ j → j < na → kf (arrOf st)[sa + na] < kf (arrOf st)[sa + j] := fun j hj l1 l2 => by
    have q := k3 j l1 l2
    rw [← Bool.not_eq_true, bey_f hj] at q
    omega
  have l1 : (seg (arrOf st).toList sa na).length = na := seg_len (by omega)
  have l2 : (seg (arrOf st).toList (sa + na) nb).length = nb := seg_len (by omega)
  -- the end: what is put between
  have fin : ∀ st' (n : Nat) (Z : List Keyed), n ≤ nb → Ok κ st' → pendingOf st' = pendingOf st1 → (∀ x ∈ seg (arrOf st).toList sa na, ∀ y ∈ seg (arrOf st).toList (sa + na + n) (nb - n), kf x ≤ kf y) →
      Z.Perm (seg (arrOf st).toList (sa + k) (na - k) ++ seg (arrOf st).toList (sa + na) n) → Srt kf Z → (arrOf st').toList = (arrOf st).toList.take (sa + k) ++ Z ++ (arrOf st).toList.drop (sa + na + n) → Q true st' := by
    intro st' n Z hn ok' p' c hZ sZ ea
    have c0 : ∀ x ∈ (seg (arrOf st).toList sa na).take k, ∀ y ∈ seg (arrOf st).toList (sa + na) nb, kf x ≤ kf y := fun x hx y hy => by
      rw [seg_take k1] at hx
      obtain ⟨j, hj, l, rfl⟩ := seg_mem hx
      obtain ⟨m, hm, l', rfl⟩ := seg_mem hy
      have := k2' j hj l
      have := seg_le s2 (Nat.zero_le m) l' hs
      simp only [Nat.add_zero] at this
      omega
    obtain ⟨w1, w2⟩ := joinW (k := k) (n := n) s1 s2 c0 (by rw [seg_drop]; exact c) (by rw [seg_drop, seg_take hn]; exact hZ) sZ
    rw [seg_take k1, seg_drop] at w1 w2
    refine h st' _ ok' (p'.trans p1) ?_ w1 ?_
    · rw [seg_cut]
      exact w2
    · rw [ea]
      have t1 : (arrOf st).toList.take (sa + k) = (arrOf st).toList.take sa ++ seg (arrOf st).toList sa k := by
        unfold seg
        rw [List.take_add]
      have t2 : (arrOf st).toList.drop (sa + na + n) = seg (arrOf st).toList (sa + na + n) (nb - n) ++ (arrOf st).toList.drop (sa + (na + nb)) := by
        unfold seg
        have := (List.take_append_drop (nb - n) ((arrOf st).toList.drop (sa + na + n))).symm
        rw [List.drop_drop, show sa + na + n + (nb - n) = sa + (na + nb) by omega] at this
        exact this
      rw [t1, t2]
      simp only [List.append_assoc]
  dsimp only
  by_cases g1 : na - k = 0
  · rw [if_pos (by simpa using g1)]
    have kn : k = na := by omega
    refine wpS_pure (fin st1 0 [] (by omega) ok1 rfl (fun x hx y hy => ?_) ?_ .nil ?_)
    · obtain ⟨j, hj, l, rfl⟩ := seg_mem hx
      obtain ⟨m, hm, l', rfl⟩ := seg_mem hy
      have := k2' j hj (by omega)
      have := seg_le s2 (Nat.zero_le m) (by omega) hs
      simp only [Nat.add_zero] at this ⊢
      omega
    · rw [g1]
      simp [seg]
    · rw [a1, kn, Nat.add_zero]
      simp
  rw [if_neg (by simpa using g1)]
  have ja : sa + k + (na - k) - 1 < (arrOf st).size := by omega
  refine wpS_bind (wp_elem ja ?_)
  refine wpS_bind (wp_gallop (left := true) (arr := arrOf st) (base := sa + na) (n := nb) (hint := nb - 1) hc (ha _ (Array.getElem_mem ja)) ha (by omega) (by omega) ?_ ok1 fun n n1 n2 n3 => ?_)
  · intro i j hij hj q
    have e := seg_le s2 hij hj (by omega)
    rw [bey_t (by omega)] at q ⊢
    omega
  have ej : sa + k + (na - k) - 1 = sa + (na - 1) := by omega
  have n2' : ∀ j, ∀ hj : sa + na + j < (arrOf st).size, j < n → kf (arrOf st)[sa + na + j] ≤ kf (arrOf st)[sa + (na - 1)] := fun j hj l => by
    have q := n2 j l
    rw [bey_t hj] at q
    simp only [ej] at q
    omega
  have n3' : ∀ j, ∀ hj : sa + na + j < (arrOf st).size, n ≤ j → j < nb → kf (arrOf st)[sa + (na - 1)] ≤ kf (arrOf st)[sa + na + j] := fun j hj l1 l2 => by
    have q := n3 j l1 l2
    rw [← Bool.not_eq_true, bey_t hj] at q
    simp only [ej] at q
    omega
  have c : ∀ x ∈ seg (arrOf st).toList sa na, ∀ y ∈ seg (arrOf st).toList (sa + na + n) (nb - n), kf x ≤ kf y := fun x hx y hy => by
    obtain ⟨j, hj, l, rfl⟩ := seg_mem hx
    obtain ⟨m, hm, l', rfl⟩ := seg_mem hy
    have a := seg_le s1 (show j ≤ na - 1 by omega) (by omega) (by omega)
    have b := n3' (n + m) (by omega) (by omega) (by omega)
    simp only [← Nat.add_assoc] at b
    omega
  dsimp only
  by_cases g2 : n = 0
  · rw [if_pos (by simpa using g2)]
    refine wpS_pure (fin st1 n (seg (arrOf st).toList (sa + k) (na - k)) n1 ok1 rfl c ?_ ?_ ?_)
    · rw [g2]
      simp [seg]
    · rw [← seg_drop]
      exact List.Pairwise.drop s1
    · rw [a1, g2, Nat.add_zero]
      have t1 : (arrOf st).toList.drop (sa + k) = seg (arrOf st).toList (sa + k) (na - k) ++ (arrOf st).toList.drop (sa + na) := by
        unfold seg
        have := (List.take_append_drop (na - k) ((arrOf st).toList.drop (sa + k))).symm
        rw [List.drop_drop, show sa + k + (na - k) = sa + na by omega] at this
        exact this
      rw [List.append_assoc, ← t1, List.take_append_drop]
  rw [if_neg (by simpa using g2)]
  have x1 : ((arrOf st).extract (sa + k) (sa + na)).toList = seg (arrOf st).toList (sa + k) (na - k) := by
    have := ext_list (a := arrOf st) (i := sa + k) (k := na - k) (by omega)
    rwa [show sa + k + (na - k) = sa + na by omega] at this
  have y1 : ((arrOf st).extract (sa + na) (sa + na + n)).toList = seg (arrOf st).toList (sa + na) n := ext_list (by omega)
  have xs : ((arrOf st).extract (sa + k) (sa + na)).size = na - k := by simp; omega
  have ys : ((arrOf st).extract (sa + na) (sa + na + n)).size = n := by simp; omega
  have hx : ∀ x ∈ (arrOf st).extract (sa + k) (sa + na), x ∈ seg (arrOf st).toList (sa + k) (na - k) := fun x q => x1 ▸ Array.mem_def.mp q
  have hy : ∀ x ∈ (arrOf st).extract (sa + na) (sa + na + n), x ∈ seg (arrOf st).toList (sa + na) n := fun x q => y1 ▸ Array.mem_def.mp q
  have rest : ∀ out st', Eqv st1 st' → Fin' kf (((arrOf st).extract (sa + k) (sa + na)).toList ++ ((arrOf st).extract (sa + na) (sa + na + n)).toList) out →
      Q true (setArr st' (out.toList.zipIdx.foldl (fun (a : Array Keyed) x => match x with | (p, j) => a.setIfInBounds (sa + k + j) p) (arrOf st'))) := by
    intro out st' ev ⟨f1, f2⟩
    rw [x1, y1] at f1
    have lo : out.toList.length = na - k + n := by
      rw [f1.length_eq, List.length_append, seg_len (by omega), seg_len (by omega)]
    refine fin _ n out.toList n1 ⟨ev.1.trans ok1.1, ev.2.2.2.trans ok1.2⟩ ev.2.2.1 c f1 f2 ?_
    show (List.foldl _ (arrOf st') _).toList = _
    rw [ev.2.1, a1, put_list (by omega), lo, show sa + k + (na - k + n) = sa + na + n by omega]
  have q1 : ∀ x ∈ (arrOf st).extract (sa + k) (sa + na), S x := fun x q => by
    obtain ⟨j, hj, l, rfl⟩ := seg_mem (hx x q)
    exact ha _ (Array.getElem_mem hj)
  have q2 : ∀ x ∈ (arrOf st).extract (sa + na) (sa + na + n), S x := fun x q => by
    obtain ⟨j, hj, l, rfl⟩ := seg_mem (hy x q)
    exact ha _ (Array.getElem_mem hj)
  have q3 : Srt kf ((arrOf st).extract (sa + k) (sa + na)).toList := by
    rw [x1, ← seg_drop]
    exact List.Pairwise.drop s1
  have q4 : Srt kf ((arrOf st).extract (sa + na) (sa + na + n)).toList := by
    rw [y1, ← seg_take n1]
    exact List.Pairwise.take s2
  have z1 : 0 < ((arrOf st).extract (sa + k) (sa + na)).size := by omega
  have z2 : 0 < ((arrOf st).extract (sa + na) (sa + na + n)).size := by omega
  have q5 : ∀ x ∈ (arrOf st).extract (sa + k) (sa + na), kf ((arrOf st).extract (sa + na) (sa + na + n))[0] ≤ kf x := fun x q => by
    obtain ⟨j, hj, l, rfl⟩ := seg_mem (hx x q)
    have := k3' (k + j) (by omega) (by omega) (by omega)
    simp only [← Nat.add_assoc] at this
    simp only [Array.getElem_extract, Nat.add_zero]
    omega
  have q6 : ∀ x ∈ (arrOf st).extract (sa + na) (sa + na + n), kf x ≤ kf (((arrOf st).extract (sa + k) (sa + na))[((arrOf st).extract (sa + k) (sa + na)).size - 1]'(by omega)) := fun x q => by
    obtain ⟨j, hj, l, rfl⟩ := seg_mem (hy x q)
    have := n2' j hj l
    simp only [xs, Array.getElem_extract, show sa + k + (na - k - 1) = sa + (na - 1) by omega]
    omega
  have e3 : ∀ st', Eqv st1 st' → failedOf st' = none := fun st' ev => ev.2.2.2.trans ok1.2
  by_cases g3 : na - k ≤ n
  · rw [if_pos g3]
    refine wpS_bind (wp_mergeLo hc q1 q2 q3 q4 z1 z2 q5 q6 ok1 fun out st' ev f => ?_)
    refine wpS_bind (wpS_modify (wpS_bind (wpS_get (wpS_pure ?_))))
    show Q (failedOf st').isNone _
    rw [e3 st' ev]
    exact rest out st' ev f
  · rw [if_neg g3]
    refine wpS_bind (wp_mergeHi hc q1 q2 q3 q4 z1 z2 q5 q6 ok1 fun out st' ev f => ?_)
    refine wpS_bind (wpS_modify (wpS_bind (wpS_get (wpS_pure ?_))))
    show Q (failedOf st').isNone _
    rw [e3 st' ev]
    exact rest out st' ev f
end
end FQ
namespace FQ
open PySem PyProof.Rows
section
variable {kf : Keyed → Int} {arr : Array Keyed}
def kv (kf : Keyed → Int) (arr : Array Keyed) (i : Nat) : Int := kf (arr.getD i (.none, .none))
def Up (kf : Keyed → Int) (arr : Array Keyed) (lo m : Nat) : Prop := ∀ i j, lo ≤ i → i ≤ j → j < lo + m → kv kf arr i ≤ kv kf arr j
def Dn (kf : Keyed → Int) (arr : Array Keyed) (lo m : Nat) : Prop := ∀ i j, lo ≤ i → i ≤ j → j < lo + m → kv kf arr j ≤ kv kf arr i
theorem kv_at {i : Nat} (h : i < arr.size) : kv kf arr i = kf arr[i] := by
  unfold kv
  simp [h]
theorem kv_eq {arr' : Array Keyed} {i j : Nat} (h : arr'[i]? = arr[j]?) : kv kf arr' i = kv kf arr j := by
  unfold kv
  simp only [Array.getD_eq_getD_getElem?, h]
theorem kv_rev {i j : Nat} (hj : j ≤ arr.size) (k : Nat) : kv kf (mirror arr i j ((j - i) / 2)) k = if i ≤ k ∧ k < j then kv kf arr (i + j - 1 - k) else kv kf arr k := by
  have h := getElem?_mirror_all (xs := arr) (i := i) hj k
  split at h
  · rename_i g
    rw [if_pos g]
    exact kv_eq h
  · rename_i g
    rw [if_neg g]
    exact kv_eq h
theorem kv_rev_const {i j : Nat} (hj : j ≤ arr.size) (hc : ∀ k, i ≤ k → k < j → kv kf arr k = kv kf arr (j - 1)) (k : Nat) : kv kf (mirror arr i j ((j - i) / 2)) k = kv kf arr k := by
  rw [kv_rev hj]
  split
  · rename_i g
    rw [hc _ (by omega) (by omega), hc k g.1 g.2]
  · rfl
theorem kv_down {src d : Nat} (hs : src < arr.size) (hd : d ≤ src) (k : Nat) : kv kf (bubble arr src d) k = if k = src - d then kv kf arr src else if src - d < k ∧ k ≤ src then kv kf arr (k - 1) else kv kf arr k := by
  have h := getElem?_bubble hs d hd k
  split at h
  · rename_i g
    rw [if_pos g]
    exact kv_eq h
  · rename_i g
    rw [if_neg g]
    split at h
    · rename_i g2
      rw [if_pos g2]
      exact kv_eq h
    · rename_i g2
      rw [if_neg g2]
      exact kv_eq h
theorem Up.more {lo m : Nat} (h : Up kf arr lo m) (hm : 1 ≤ m) (c : kv kf arr (lo + m - 1) ≤ kv kf arr (lo + m)) : Up kf arr lo (m + 1) := fun i j h1 h2 h3 => by
  rcases Nat.lt_or_ge j (lo + m) with l | g
  · exact h i j h1 h2 l
  · have e : j = lo + m := by omega
    subst e
    rcases Nat.lt_or_ge i (lo + m) with l | g'
    · exact Int.le_trans (h i (lo + m - 1) h1 (by omega) (by omega)) c
    · have : i = lo + m := by omega
      rw [this]
      exact Int.le_refl _
theorem Dn.more {lo m : Nat} (h : Dn kf arr lo m) (hm : 1 ≤ m) (c : kv kf arr (lo + m) ≤ kv kf arr (lo + m - 1)) : Dn kf arr lo (m + 1) := fun i j h1 h2 h3 => by
  rcases Nat.lt_or_ge j (lo + m) with l | g
  · exact h i j h1 h2 l
  · have e : j = lo + m := by omega
    subst e
    rcases Nat.lt_or_ge i (lo + m) with l | g'
    · exact Int.le_trans c (h i (lo + m - 1) h1 (by omega) (by omega))
    · have : i = lo + m := by omega
      rw [this]
      exact Int.le_refl _
theorem up_one {lo : Nat} : Up kf arr lo 1 := fun i j h1 h2 h3 => by
  have : i = j := by omega
  rw [this]
  exact Int.le_refl _
theorem dn_one {lo : Nat} : Dn kf arr lo 1 := fun i j h1 h2 h3 => by
  have : i = j := by omega
  rw [this]
  exact Int.le_refl _
theorem Dn.cong {arr' : Array Keyed} {lo m : Nat} (h : Dn kf arr lo m) (e : ∀ k, kv kf arr' k = kv kf arr k) : Dn kf arr' lo m := fun i j h1 h2 h3 => by rw [e, e]; exact h i j h1 h2 h3
/-- moved about between lo and hi alone -/
def Mv (lo hi : Nat) (st st' : SortSt) : Prop := kindOf st' = kindOf st ∧ pendingOf st' = pendingOf st ∧ failedOf st' = failedOf st ∧ (arrOf st').Perm (arrOf st) ∧ ∀ j, j < lo ∨ hi ≤ j → (arrOf st')[j]? = (arrOf st)[j]?
theorem Mv.refl {lo hi : Nat} (st : SortSt) : Mv lo hi st st := ⟨rfl, rfl, rfl, Array.Perm.refl _, fun _ _ => rfl⟩
theorem Mv.ok {lo hi : Nat} {κ : SortKind} {st st' : SortSt} (h : Mv lo hi st st') (o : Ok κ st) : Ok κ st' := ⟨h.1.trans o.1, h.2.2.1.trans o.2⟩
theorem Mv.size {lo hi : Nat} {st st' : SortSt} (h : Mv lo hi st st') : (arrOf st').size = (arrOf st).size := Array.Perm.size_eq h.2.2.2.1
theorem Mv.all {lo hi : Nat} {S : Keyed → Prop} {st st' : SortSt} (h : Mv lo hi st st') (a : ∀ x ∈ arrOf st, S x) : ∀ x ∈ arrOf st', S x := fun x hx => a x (h.2.2.2.1.mem_iff.mp hx)
theorem Mv.put {lo hi : Nat} {st st' : SortSt} (h : Mv lo hi st st') {a : Array Keyed} (p : a.Perm (arrOf st')) (o : ∀ j, j < lo ∨ hi ≤ j → a[j]? = (arrOf st')[j]?) : Mv lo hi st (setArr st' a) :=
  ⟨h.1, h.2.1, h.2.2.1, p.trans h.2.2.2.1, fun j hj => (o j hj).trans (h.2.2.2.2 j hj)⟩
end
section
variable {prog : Program} {w : World} {A : Around} {E : Value → Shared → Prop} {s : Shared} {κ : SortKind} {kf : Keyed → Int} {S : Keyed → Prop}
theorem wp_ltAt (hc : Cmp (model prog w) A s κ kf S) {st : SortSt} (ok : Ok κ st) (ha : ∀ x ∈ arrOf st, S x) {i j : Nat} (hi : i < (arrOf st).size) (hj : j < (arrOf st).size) {Q : Option Bool → SortSt → Prop}
    (h : Q (some (decide (kv kf (arrOf st) i < kv kf (arrOf st) j))) st) : wpS (model prog w) A E s (ltAt' i j) Q st := by
  rw [kv_at hi, kv_at hj] at h
  refine wpS_bind (wpS_get (wpS_bind (wp_elem hi (wpS_bind (wp_elem hj ?_)))))
  exact wp_lt hc (ha _ (Array.getElem_mem hi)) (ha _ (Array.getElem_mem hj)) ok h
theorem wp_rev {γ : Type} {lo hi i j : Nat} {st st' : SortSt} (mv : Mv lo hi st st') (h1 : lo ≤ i) (h2 : j ≤ hi) (h3 : hi ≤ (arrOf st).size) {f : Unit → StateT SortSt Sem γ} {Q : γ → SortSt → Prop}
    (h : ∀ st2, Mv lo hi st st2 → arrOf st2 = mirror (arrOf st') i j ((j - i) / 2) → wpS (model prog w) A E s (f ()) Q st2) : wpS (model prog w) A E s (reverseSlice' i j >>= f) Q st' := by
  refine wpS_bind (wpS_reverse (h _ (mv.put (mirror_perm _ _ _ _) fun k hk => ?_) rfl))
  rw [getElem?_mirror_all (by rw [mv.size]; omega)]
  rw [if_neg (by omega)]
theorem wp_countRun (hc : Cmp (model prog w) A s κ kf S) {st : SortSt} (ok : Ok κ st) (ha : ∀ x ∈ arrOf st, S x) {lo nrem : Nat} (h1 : 1 ≤ nrem) (h3 : lo + nrem ≤ (arrOf st).size) {Q : Option Nat → SortSt → Prop}
    (h : ∀ m st', Mv lo (lo + nrem) st st' → 1 ≤ m → m ≤ nrem → Up kf (arrOf st') lo m → Q (some m) st') : wpS (model prog w) A E s (countRun' lo nrem) Q st := by
  rw [countRun'_eq]
  refine wp_loop (fun i c st' => c = (none, i) ∧ st = st' ∧ Up kf (arrOf st) lo i) (fun c st' => ∃ n, c = (none, n) ∧ st = st' ∧ 1 ≤ n ∧ n ≤ nrem ∧ Up kf (arrOf st) lo n ∧ (n = nrem ∨ kv kf (arrOf st) (lo + n) < kv kf (arrOf st) (lo + n - 1))) ?_ ?_ ⟨rfl, rfl, up_one⟩ ?_
  · rintro i c st' a1 a2 ⟨rfl, rfl, u⟩
    dsimp only
    refine wpS_bind (wp_ltAt hc ok ha (by omega) (by omega) ?_)
    dsimp only
    by_cases g : kv kf (arrOf st) (lo + i) < kv kf (arrOf st) (lo + i - 1)
    · rw [if_pos (by simpa using g)]
      exact wpS_pure ⟨i, rfl, rfl, a1, by omega, u, .inr g⟩
    · rw [if_neg (by simpa using g)]
      exact wpS_pure ⟨rfl, rfl, u.more a1 (by omega)⟩
  · rintro c st' ⟨rfl, rfl, u⟩
    exact ⟨_, rfl, rfl, by omega, by omega, by rwa [Nat.max_eq_right h1] at u ⊢, .inl (by omega)⟩
  rintro c st' ⟨n, rfl, rfl, n1, n2, u, n3⟩
  dsimp only
  by_cases g : n = nrem
  · rw [if_pos (by simpa using g)]
    exact wpS_pure (h n st (.refl _) n1 n2 u)
  rw [if_neg (by simpa using g)]
  have n4 : kv kf (arrOf st) (lo + n) < kv kf (arrOf st) (lo + n - 1) := n3.resolve_left g
  have n5 : n + 1 ≤ nrem := by omega
  by_cases g1 : n > 1
  case' pos =>
    rw [if_pos g1]
    refine wpS_bind (wp_ltAt hc ok ha (by omega) (by omega) ?_)
    dsimp only
    by_cases g2 : kv kf (arrOf st) lo < kv kf (arrOf st) (lo + n - 1)
    · rw [if_pos (by simpa using g2)]
      exact wpS_pure (h n st (.refl _) n1 n2 u)
    rw [if_neg (by simpa using g2)]
    have ce : ∀ k, lo ≤ k → k < lo + n → kv kf (arrOf st) k = kv kf (arrOf st) (lo + n - 1) := fun k k1 k2 => by
      have a := u lo k (Nat.le_refl _) k1 k2
      have b := u k (lo + n - 1) k1 (by omega) (by omega)
      omega
    refine wp_rev (Mv.refl (lo := lo) (hi := lo + nrem) st) (Nat.le_refl _) (by omega) h3 fun st1 mv ea => ?_
    have kc : ∀ k, kv kf (arrOf st1) k = kv kf (arrOf st) k := fun k => by rw [ea]; exact kv_rev_const (by omega) ce k
    have d : Dn kf (arrOf st1) lo n := fun i j a b c => by rw [kc, kc, ce i (by omega) (by omega), ce j (by omega) (by omega)]; exact Int.le_refl _
    have d1 : Dn kf (arrOf st1) lo (n + 1) := d.more n1 (by rw [kc, kc]; omega)
    clear kc ea ce d
  case' neg =>
    rw [if_neg g1]
    have e1 : n = 1 := by omega
    obtain ⟨st1, mv, e⟩ : ∃ st1, Mv lo (lo + nrem) st st1 ∧ st = st1 := ⟨st, .refl _, rfl⟩
    have d1 : Dn kf (arrOf st1) lo (n + 1) := by
      rw [← e]
      exact Dn.more (by rw [e1]; exact dn_one) n1 (by omega)
    rw [e]
    clear e
  all_goals
    have sz := mv.size
    have ok1 := mv.ok ok
    have ha1 := mv.all ha
    refine wpS_bind (wpS_lift (wpAny_rule ?_))
    refine ⟨rfl, ?_⟩
    refine wp_loop (fun i c st' => ∃ q, c = (none, i, q) ∧ Mv lo (lo + nrem) st st' ∧ Dn kf (arrOf st') lo i ∧ q + 1 ≤ i ∧ (∀ k, lo + i - (q + 1) ≤ k → k < lo + i → kv kf (arrOf st') k = kv kf (arrOf st') (lo + i - 1)))
      (fun c st' => ∃ m q, c = (none, m, q) ∧ Mv lo (lo + nrem) st st' ∧ 1 ≤ m ∧ m ≤ nrem ∧ Dn kf (arrOf st') lo m ∧ q + 1 ≤ m ∧ (∀ k, lo + m - (q + 1) ≤ k → k < lo + m → kv kf (arrOf st') k = kv kf (arrOf st') (lo + m - 1))) ?_ ?_ ⟨0, rfl, mv, d1, by omega, fun k a b => by rw [show k = lo + (n + 1) - 1 by omega]⟩ ?_
    · clear mv ok1 ha1 sz d1
      rintro i c st' a1 a2 ⟨q, rfl, mv, d, q1, q2⟩
      have sz := mv.size
      dsimp only
      refine wpS_bind (wp_ltAt hc (mv.ok ok) (mv.all ha) (by omega) (by omega) ?_)
      dsimp only
      by_cases g : kv kf (arrOf st') (lo + i) < kv kf (arrOf st') (lo + i - 1)
      · rw [if_pos (by simpa using g)]
        by_cases gq : q > 0
        · rw [if_pos gq]
          refine wp_rev mv (by omega) (by omega) h3 fun st2 mv2 ea => ?_
          have kc : ∀ k, kv kf (arrOf st2) k = kv kf (arrOf st') k := fun k => by rw [ea]; exact kv_rev_const (by omega) q2 k
          exact wpS_pure ⟨0, rfl, mv2, (d.cong kc).more (by omega) (by rw [kc, kc]; omega), by omega, fun k a b => by rw [show k = lo + (i + 1) - 1 by omega]⟩
        · rw [if_neg gq]
          exact wpS_pure ⟨0, rfl, mv, d.more (by omega) (by omega), by omega, fun k a b => by rw [show k = lo + (i + 1) - 1 by omega]⟩
      · rw [if_neg (by simpa using g)]
        refine wpS_bind (wp_ltAt hc (mv.ok ok) (mv.all ha) (by omega) (by omega) ?_)
        dsimp only
        by_cases g' : kv kf (arrOf st') (lo + i - 1) < kv kf (arrOf st') (lo + i)
        · rw [if_pos (by simpa using g')]
          exact wpS_pure ⟨i, q, rfl, mv, by omega, by omega, d, q1, q2⟩
        · rw [if_neg (by simpa using g')]
          have ee : kv kf (arrOf st') (lo + i) = kv kf (arrOf st') (lo + i - 1) := by omega
          refine wpS_pure ⟨q + 1, rfl, mv, d.more (by omega) (by omega), by omega, fun k a b => ?_⟩
          rw [show lo + (i + 1) - 1 = lo + i by omega, ee]
          rcases Nat.lt_or_ge k (lo + i) with l | gg
          · exact q2 k (by omega) l
          · rw [show k = lo + i by omega, ee]
    · rintro c st' ⟨q, rfl, mv, d, q1, q2⟩
      exact ⟨_, q, rfl, mv, by omega, by omega, d, q1, q2⟩
    clear mv ok1 ha1 sz d1
    rintro c st' ⟨m, q, rfl, mv, m1, m2, d, q1, q2⟩
    have sz := mv.size
    dsimp only
    by_cases gq : q > 0
    case' pos =>
      rw [if_pos gq]
      refine wp_rev mv (by omega) (by omega) h3 fun st2 mv2 ea => ?_
      have kc : ∀ k, kv kf (arrOf st2) k = kv kf (arrOf st') k := fun k => by rw [ea]; exact kv_rev_const (by omega) q2 k
      have d2 := d.cong kc
      clear kc ea
    case' neg =>
      rw [if_neg gq]
      obtain ⟨st2, mv2, d2, e⟩ : ∃ st2, Mv lo (lo + nrem) st st2 ∧ Dn kf (arrOf st2) lo m ∧ st' = st2 := ⟨st', mv, d, rfl⟩
      rw [e]
      clear e
  all_goals
    clear mv d q2 sz
    have sz := mv2.size
    refine wp_rev mv2 (Nat.le_refl _) (by omega) h3 fun st3 mv3 ea => ?_
    have u3 : Up kf (arrOf st3) lo m := fun i j a b c => by
      rw [ea, kv_rev (by omega), kv_rev (by omega), if_pos (by omega), if_pos (by omega)]
      exact d2 _ _ (by omega) (by omega) (by omega)
    clear ea d2 mv2 sz
    have sz := mv3.size
    refine wp_loop (fun i c st' => c = (none, i) ∧ st3 = st' ∧ Up kf (arrOf st3) lo i) (fun c st' => ∃ n, c = (none, n) ∧ st3 = st' ∧ 1 ≤ n ∧ n ≤ nrem ∧ Up kf (arrOf st3) lo n) ?_ ?_ ⟨rfl, rfl, u3⟩ ?_
    · rintro i c st' a1 a2 ⟨rfl, rfl, u⟩
      dsimp only
      refine wpS_bind (wp_ltAt hc (mv3.ok ok) (mv3.all ha) (by omega) (by omega) ?_)
      dsimp only
      by_cases g : kv kf (arrOf st3) (lo + i) < kv kf (arrOf st3) (lo + i - 1)
      · rw [if_pos (by simpa using g)]
        exact wpS_pure ⟨i, rfl, rfl, by omega, by omega, u⟩
      · rw [if_neg (by simpa using g)]
        exact wpS_pure ⟨rfl, rfl, u.more (by omega) (by omega)⟩
    · rintro c st' ⟨rfl, rfl, u⟩
      exact ⟨_, rfl, rfl, by omega, by omega, u⟩
    · rintro c st' ⟨k, rfl, rfl, k1, k2, u'⟩
      exact wpS_pure (h k st3 mv3 k1 k2 u')
end
end FQ
namespace FQ
open PySem PyProof.Rows
section
variable {prog : Program} {w : World} {A : Around} {E : Value → Shared → Prop} {s : Shared} {κ : SortKind} {kf : Keyed → Int} {S : Keyed → Prop}
theorem wp_down {γ : Type} {lo hi src dst : Nat} {st st' : SortSt} (mv : Mv lo hi st st') (h1 : lo ≤ dst) (h2 : src < hi) (h3 : hi ≤ (arrOf st).size) (h4 : dst ≤ src) {f : Unit → StateT SortSt Sem γ} {Q : γ → SortSt → Prop}
    (h : ∀ st2, Mv lo hi st st2 → arrOf st2 = bubble (arrOf st') src (src - dst) → wpS (model prog w) A E s (f ()) Q st2) : wpS (model prog w) A E s (moveDown' src dst >>= f) Q st' := by
  refine wpS_bind (wpS_modify (h (setArr st' (bubble (arrOf st') src (src - dst))) (mv.put (bubble_perm _ _ _) fun k hk => ?_) rfl))
  rw [getElem?_bubble (by rw [mv.size]; omega) _ (by omega), if_neg (by omega), if_neg (by omega)]
theorem wp_binarySort (hc : Cmp (model prog w) A s κ kf S) {st : SortSt} (ok : Ok κ st) (ha : ∀ x ∈ arrOf st, S x) {lo n m : Nat} (h1 : 1 ≤ m) (h2 : m ≤ n) (h3 : lo + n ≤ (arrOf st).size) (u : Up kf (arrOf st) lo m) {Q : Bool → SortSt → Prop}
    (h : ∀ st', Mv lo (lo + n) st st' → Up kf (arrOf st') lo n → Q true st') : wpS (model prog w) A E s (binarySort' lo n m) Q st := by
  rw [binarySort'_eq]
  have em : max m 1 = m := Nat.max_eq_left h1
  rw [em]
  refine wp_loop (fun k c st' => c = (none, ()) ∧ Mv lo (lo + n) st st' ∧ Up kf (arrOf st') lo k) (fun c st' => c = (none, ()) ∧ Mv lo (lo + n) st st' ∧ Up kf (arrOf st') lo n) ?_ ?_ ⟨rfl, .refl _, u⟩ ?_
  · rintro k c st' a1 a2 ⟨rfl, mv, u⟩
    have sz := mv.size
    dsimp only
    refine wp_loop (fun i c st2 => ∃ l r, c = (none, l, r) ∧ st' = st2 ∧ l ≤ r ∧ r ≤ k ∧ (∀ i, i < l → kv kf (arrOf st') (lo + i) ≤ kv kf (arrOf st') (lo + k)) ∧ (∀ i, r ≤ i → i < k → kv kf (arrOf st') (lo + k) ≤ kv kf (arrOf st') (lo + i)) ∧ r ≤ l + (k - i))
      (fun c st2 => ∃ l, c = (none, l, l) ∧ st' = st2 ∧ l ≤ k ∧ (∀ i, i < l → kv kf (arrOf st') (lo + i) ≤ kv kf (arrOf st') (lo + k)) ∧ (∀ i, l ≤ i → i < k → kv kf (arrOf st') (lo + k) ≤ kv kf (arrOf st') (lo + i))) ?_ ?_ ⟨0, k, rfl, rfl, by omega, by omega, fun i z => by omega, fun i a b => by omega, by omega⟩ ?_
    · rintro i c st2 - hi ⟨l, r, rfl, rfl, l1, l2, l3, l4, l5⟩
      dsimp only
      by_cases g : l ≥ r
      · rw [if_pos g]
        have : l = r := by omega
        subst this
        exact wpS_pure ⟨l, rfl, rfl, l2, l3, l4⟩
      · rw [if_neg g]
        refine wpS_bind (wp_ltAt hc (mv.ok ok) (mv.all ha) (by omega) (by omega) ?_)
        dsimp only
        by_cases g2 : kv kf (arrOf st') (lo + k) < kv kf (arrOf st') (lo + (l + r) / 2)
        · rw [if_pos (by simpa using g2)]
          refine wpS_pure ⟨_, _, rfl, rfl, by omega, by omega, l3, fun i a b => ?_, by omega⟩
          have := u (lo + (l + r) / 2) (lo + i) (by omega) (by omega) (by omega)
          omega
        · rw [if_neg (by simpa using g2)]
          refine wpS_pure ⟨_, _, rfl, rfl, by omega, by omega, fun i a => ?_, l4, by omega⟩
          have := u (lo + i) (lo + (l + r) / 2) (by omega) (by omega) (by omega)
          omega
    · rintro c st2 ⟨l, r, rfl, rfl, l1, l2, l3, l4, l5⟩
      have : l = r := by omega
      subst this
      exact ⟨l, rfl, rfl, l2, l3, l4⟩
    · rintro c st2 ⟨l, rfl, rfl, l1, l2, l3⟩
      dsimp only
      refine wp_down mv (by omega) (by omega) h3 (by omega) fun st3 mv3 ea => wpS_pure ⟨rfl, mv3, fun i j i1 i2 i3 => ?_⟩
      have e0 : lo + k - (lo + l) = k - l := by omega
      rw [ea, e0, kv_down (by omega) (by omega), kv_down (by omega) (by omega)]
      have key : ∀ x, lo ≤ x → x ≤ lo + k → (if x = lo + k - (k - l) then kv kf (arrOf st') (lo + k) else if lo + k - (k - l) < x ∧ x ≤ lo + k then kv kf (arrOf st') (x - 1) else kv kf (arrOf st') x) = (if x < lo + l then kv kf (arrOf st') x else if x = lo + l then kv kf (arrOf st') (lo + k) else kv kf (arrOf st') (x - 1)) := fun x x1 x2 => by
        by_cases c1 : x < lo + l
        · rw [if_pos c1, if_neg (by omega), if_neg (by omega)]
        · rw [if_neg c1]
          by_cases c2 : x = lo + l
          · rw [if_pos c2, if_pos (by omega)]
          · rw [if_neg c2, if_neg (by omega), if_pos (by omega)]
      rw [key i i1 (by omega), key j (by omega) (by omega)]
      by_cases c1 : i < lo + l
      · rw [if_pos c1]
        have p1 := l2 (i - lo) (by omega)
        rw [show lo + (i - lo) = i by omega] at p1
        by_cases c2 : j < lo + l
        · rw [if_pos c2]
          exact u i j i1 i2 (by omega)
        · rw [if_neg c2]
          by_cases c3 : j = lo + l
          · rw [if_pos c3]
            exact p1
          · rw [if_neg c3]
            exact u i (j - 1) i1 (by omega) (by omega)
      · rw [if_neg c1, if_neg (show ¬ j < lo + l by omega)]
        by_cases c2 : i = lo + l
        · rw [if_pos c2]
          by_cases c3 : j = lo + l
          · rw [if_pos c3]
            exact Int.le_refl _
          · rw [if_neg c3]
            have p1 := l3 (j - 1 - lo) (by omega) (by omega)
            rw [show lo + (j - 1 - lo) = j - 1 by omega] at p1
            exact p1
        · rw [if_neg c2, if_neg (show ¬ j = lo + l by omega)]
          exact u (i - 1) (j - 1) (by omega) (by omega) (by omega)
  · rintro c st' ⟨rfl, mv, u⟩
    exact ⟨rfl, mv, by rwa [Nat.max_eq_right h2] at u⟩
  · rintro c st' ⟨rfl, mv, u⟩
    exact wpS_pure (h st' mv u)
end
section
variable {kf : Keyed → Int}
theorem up_seg {arr : Array Keyed} {lo m : Nat} (h : Up kf arr lo m) : Srt kf (seg arr.toList lo m) := by
  refine List.pairwise_iff_getElem.mpr fun i j hi hj hij => ?_
  have l : (seg arr.toList lo m).length = min m (arr.size - lo) := by
    unfold seg
    simp
  have := h (lo + i) (lo + j) (by omega) (by omega) (by omega)
  rw [kv_at (by omega), kv_at (by omega)] at this
  simp only [seg, List.getElem_take, List.getElem_drop, Array.getElem_toList]
  exact this
/-- the runs that wait, one behind the other from lo to hi -/
def Runs (kf : Keyed → Int) (L : List Keyed) : Nat → List (Nat × Nat × Nat) → Nat → Prop
  | lo, [], hi => lo = hi
  | lo, p :: r, hi => p.1 = lo ∧ 0 < p.2.1 ∧ Srt kf (seg L lo p.2.1) ∧ Runs kf L (lo + p.2.1) r hi
theorem Runs.le {L : List Keyed} : ∀ {r : List (Nat × Nat × Nat)} {lo hi : Nat}, Runs kf L lo r hi → lo + r.length ≤ hi
  | [], lo, hi, h => Nat.le_of_eq h
  | p :: r, lo, hi, ⟨_, a, _, b⟩ => by
    have := b.le
    simp only [List.length_cons]
    omega
theorem Runs.append {L : List Keyed} : ∀ {r r' : List (Nat × Nat × Nat)} {lo hi : Nat}, Runs kf L lo (r ++ r') hi ↔ ∃ m, Runs kf L lo r m ∧ Runs kf L m r' hi
  | [], r', lo, hi => ⟨fun h => ⟨lo, rfl, h⟩, fun ⟨m, a, b⟩ => (show lo = m from a) ▸ b⟩
  | p :: r, r', lo, hi => by
    constructor
    · rintro ⟨a, b, c, d⟩
      obtain ⟨m, x, y⟩ := Runs.append.mp d
      exact ⟨m, ⟨a, b, c, x⟩, y⟩
    · rintro ⟨m, ⟨a, b, c, x⟩, y⟩
      exact ⟨a, b, c, Runs.append.mpr ⟨m, x, y⟩⟩
theorem seg_out {L L' : List Keyed} {x y i n : Nat} (o : ∀ j, j < x ∨ y ≤ j → L'[j]? = L[j]?) (h : i + n ≤ x ∨ y ≤ i) : seg L' i n = seg L i n := by
  refine List.ext_getElem? fun j => ?_
  rw [seg_get, seg_get]
  split
  · rw [o _ (by omega)]
  · rfl
theorem Runs.out {L L' : List Keyed} {x y : Nat} (o : ∀ j, j < x ∨ y ≤ j → L'[j]? = L[j]?) : ∀ {r : List (Nat × Nat × Nat)} {lo hi : Nat}, (hi ≤ x ∨ y ≤ lo) → Runs kf L lo r hi → Runs kf L' lo r hi
  | [], lo, hi, _, h => h
  | p :: r, lo, hi, c, ⟨a, b, d, e⟩ => by
    have := e.le
    exact ⟨a, b, by rw [seg_out o (by omega)]; exact d, Runs.out o (by omega) e⟩
theorem two_split {α : Type} : ∀ {l : List α} {i : Nat} {x y z : α}, l[i]? = some x → l[i + 1]? = some y → ∃ l1 l2, l = l1 ++ x :: y :: l2 ∧ l1.length = i ∧ (l.set i z).eraseIdx (i + 1) = l1 ++ z :: l2
  | [], i, x, y, z, h, _ => by simp at h
  | [a], i, x, y, z, _, h => by simp at h
  | a :: b :: l, 0, x, y, z, h1, h2 => by
    simp at h1 h2
    subst h1 h2
    exact ⟨[], l, rfl, rfl, rfl⟩
  | a :: b :: l, i + 1, x, y, z, h1, h2 => by
    obtain ⟨l1, l2, e1, e2, e3⟩ := two_split (l := b :: l) (i := i) (x := x) (y := y) (z := z) (by simpa using h1) (by simpa using h2)
    refine ⟨a :: l1, l2, by rw [e1]; rfl, by rw [List.length_cons, e2], ?_⟩
    rw [List.set_cons_succ, List.eraseIdx_cons_succ, e3]
    rfl
theorem put_out {L L' W : List Keyed} {i n : Nat} (e : L' = L.take i ++ W ++ L.drop (i + n)) (hW : W.length = n) (h : i + n ≤ L.length) : (∀ j, j < i ∨ i + n ≤ j → L'[j]? = L[j]?) ∧ seg L' i n = W := by
  have l1 : (L.take i).length = i := by rw [List.length_take]; omega
  constructor
  · intro j hj
    rw [e]
    rcases hj with hj | hj
    · rw [List.append_assoc, List.getElem?_append_left (by omega), List.getElem?_take, if_pos hj]
    · have l2 : (L.take i ++ W).length = i + n := by rw [List.length_append]; omega
      rw [List.getElem?_append_right (by omega), l2, List.getElem?_drop, Nat.add_sub_cancel' hj]
  · rw [e]
    unfold seg
    rw [List.append_assoc, List.drop_append_of_le_length (by omega), List.drop_of_length_le (by omega), List.nil_append, List.take_append_of_le_length (by omega), List.take_of_length_le (by omega)]
theorem put_perm {L L' W : List Keyed} {i n : Nat} (e : L' = L.take i ++ W ++ L.drop (i + n)) (hW : W.Perm (seg L i n)) : L'.Perm L := by
  have e2 : L = L.take i ++ seg L i n ++ L.drop (i + n) := by
    unfold seg
    rw [List.append_assoc, ← List.drop_drop, List.take_append_drop, List.take_append_drop]
  rw [e]
  conv => rhs; rw [e2]
  exact (hW.append_left _).append_right _
end
section
variable {prog : Program} {w : World} {A : Around} {E : Value → Shared → Prop} {s : Shared} {κ : SortKind} {kf : Keyed → Int} {S : Keyed → Prop}
/-- a state between: the items are those of a₀, the runs that wait reach to lo -/
structure Wt (κ : SortKind) (kf : Keyed → Int) (a₀ : Array Keyed) (lo : Nat) (st : SortSt) : Prop where
  ok : Ok κ st
  perm : (arrOf st).Perm a₀
  runs : Runs kf (arrOf st).toList 0 (pendingOf st).toList lo
  le : lo ≤ a₀.size
theorem Wt.size {a₀ : Array Keyed} {lo : Nat} {st : SortSt} (h : Wt κ kf a₀ lo st) : (arrOf st).size = a₀.size := Array.Perm.size_eq h.perm
theorem Wt.all {a₀ : Array Keyed} {lo : Nat} {st : SortSt} (h : Wt κ kf a₀ lo st) (a : ∀ x ∈ a₀, S x) : ∀ x ∈ arrOf st, S x := fun x hx => a x (h.perm.mem_iff.mp hx)
theorem wp_merge (hc : Cmp (model prog w) A s κ kf S) {a₀ : Array Keyed} (ha : ∀ x ∈ a₀, S x) {lo i : Nat} {st : SortSt} (W : Wt κ kf a₀ lo st) (hi : i + 1 < (pendingOf st).size) {Q : Bool → SortSt → Prop}
    (h : ∀ st', Wt κ kf a₀ lo st' → (pendingOf st').size + 1 = (pendingOf st).size → (∀ j, lo ≤ j → (arrOf st').toList[j]? = (arrOf st).toList[j]?) → Q true st') : wpS (model prog w) A E s (mergeAt' i) Q st := by
  have e1 : (pendingOf st)[i]? = some (pendingOf st)[i] := Array.getElem?_eq_getElem (by omega)
  have e2 : (pendingOf st)[i + 1]? = some (pendingOf st)[i + 1] := Array.getElem?_eq_getElem hi
  generalize (pendingOf st)[i] = x at e1
  generalize (pendingOf st)[i + 1] = y at e2
  obtain ⟨sa, na, pa⟩ := x
  obtain ⟨sb, nb, pb⟩ := y
  obtain ⟨l1, l2, t1, t2, t3⟩ := two_split (z := (sa, na + nb, pa)) (by rw [Array.getElem?_toList]; exact e1) (by rw [Array.getElem?_toList]; exact e2)
  have R := W.runs
  rw [t1] at R
  obtain ⟨m, r1, ⟨q1, q2, q3, ⟨q4, q5, q6, q7⟩⟩⟩ := Runs.append.mp R
  dsimp only at q1 q2 q3 q4 q5 q6 q7
  subst q1
  have b1 := r1.le
  have b2 := q7.le
  have b3 := W.le
  have b4 := W.size
  have b5 : (arrOf st).toList.length = (arrOf st).size := Array.length_toList
  refine wp_mergeAt hc W.ok (W.all ha) e1 e2 q4 q2 q5 (by omega) q3 (by rw [q4]; exact q6) fun st' Z ok' p' hZ sZ ea => ?_
  have lZ : Z.length = na + nb := by rw [hZ.length_eq, seg_len (by omega)]
  obtain ⟨o1, o2⟩ := put_out ea lZ (by omega)
  have pl : (pendingOf st').toList = l1 ++ (sa, na + nb, pa) :: l2 := by
    rw [p', Array.eraseIdxIfInBounds]
    split
    · rw [Array.toList_eraseIdx, Array.toList_setIfInBounds]
      exact t3
    · rename_i g
      simp at g
      omega
  refine h st' ⟨ok', (Array.perm_iff_toList_perm.mpr (put_perm ea hZ)).trans W.perm, ?_, b3⟩ ?_ fun j hj => o1 j (.inr (by omega))
  · rw [pl]
    refine Runs.append.mpr ⟨sa, r1.out o1 (.inl (Nat.le_refl _)), rfl, (show 0 < na + nb by omega), by rw [o2]; exact sZ, ?_⟩
    dsimp only
    rw [← Nat.add_assoc]
    exact q7.out o1 (.inr (by omega))
  · rw [← Array.length_toList, ← Array.length_toList, pl, t1]
    simp
    omega
end
end FQ
namespace FQ
open PySem PyProof.Rows
section
variable {prog : Program} {w : World} {A : Around} {E : Value → Shared → Prop} {s : Shared} {κ : SortKind} {kf : Keyed → Int} {S : Keyed → Prop}
theorem Mv.wt {a₀ : Array Keyed} {lo hi : Nat} {st st' : SortSt} (mv : Mv lo hi st st') (W : Wt κ kf a₀ lo st) : Wt κ kf a₀ lo st' :=
  ⟨mv.ok W.ok, mv.2.2.2.1.trans W.perm, by
    rw [mv.2.1]
    exact W.runs.out (x := lo) (y := hi) (fun j hj => by rw [Array.getElem?_toList, Array.getElem?_toList]; exact mv.2.2.2.2 j hj) (.inl (Nat.le_refl _)), W.le⟩
theorem Runs.relabel {L : List Keyed} : ∀ {r r' : List (Nat × Nat × Nat)} {lo hi : Nat}, r.map (fun p => (p.1, p.2.1)) = r'.map (fun p => (p.1, p.2.1)) → Runs kf L lo r hi → Runs kf L lo r' hi
  | [], [], _, _, _, h => h
  | p :: r, q :: r', lo, hi, e, ⟨a, b, c, d⟩ => by
    simp only [List.map_cons, List.cons.injEq, Prod.mk.injEq] at e
    obtain ⟨⟨e1, e2⟩, e3⟩ := e
    exact ⟨e1 ▸ a, e2 ▸ b, e2 ▸ c, e2 ▸ Runs.relabel e3 d⟩
  | [], _ :: _, _, _, e, _ => by simp at e
  | _ :: _, [], _, _, e, _ => by simp at e
theorem map_modify {α β : Type} {g : α → β} {f : α → α} (e : ∀ x, g (f x) = g x) (a : Array α) (i : Nat) : (a.modify i f).toList.map g = a.toList.map g := by
  refine List.ext_getElem? fun j => ?_
  rw [List.getElem?_map, List.getElem?_map, Array.getElem?_toList, Array.getElem?_toList, Array.getElem?_modify]
  split
  · cases a[j]? with
    | none => rfl
    | some x => simp [e]
  · rfl
theorem wp_sortRuns (hc : Cmp (model prog w) A s κ kf S) {st : SortSt} (ok : Ok κ st) (hp : pendingOf st = #[]) (ha : ∀ x ∈ arrOf st, S x) {Q : Unit → SortSt → Prop}
    (h : ∀ st', Ok κ st' → (arrOf st').Perm (arrOf st) → Srt kf (arrOf st').toList → Q () st') : wpS (model prog w) A E s sortRuns' Q st := by
  rw [sortRuns'_eq]
  refine wpS_bind (wpS_get ?_)
  generalize ea0 : arrOf st = a₀ at h ha ⊢
  have W0 : Wt κ kf a₀ 0 st := ⟨ok, ea0 ▸ Array.Perm.refl _, by rw [hp]; rfl, Nat.zero_le _⟩
  refine wp_loop (fun t c st' => ∃ lo, c = (none, lo) ∧ Wt κ kf a₀ lo st' ∧ t ≤ lo) (fun c st' => c = (none, a₀.size) ∧ Wt κ kf a₀ a₀.size st') ?_ ?_ ⟨0, rfl, W0, Nat.le_refl _⟩ ?_
  · rintro t c st1 - ht ⟨lo, rfl, W, tl⟩
    have sz := W.size
    dsimp only
    by_cases g : lo ≥ a₀.size
    · rw [if_pos g]
      have := W.le
      have e : lo = a₀.size := by omega
      subst e
      exact wpS_pure ⟨rfl, W⟩
    rw [if_neg g]
    refine wpS_bind (wp_countRun hc W.ok (W.all ha) (by omega) (by omega) fun n st2 mv n1 n2 u => ?_)
    dsimp only
    have W2 := mv.wt W
    clear mv W sz
    have sz := W2.size
    -- the run's end
    have mid : ∀ (n : Nat) (st3 : SortSt), 1 ≤ n → n ≤ a₀.size - lo → Wt κ kf a₀ lo st3 → Srt kf (seg (arrOf st3).toList lo n) → ∀ st4, kindOf st4 = kindOf st3 → arrOf st4 = arrOf st3 → failedOf st4 = failedOf st3 → pendingOf st4 = (pendingOf st3).push (lo, n, 0) → Wt κ kf a₀ (lo + n) st4 ∧ t + 1 ≤ lo + n := by
      intro n st3 n1 n2 W3 s3 st4 e1 e2 e3 e4
      refine ⟨⟨⟨e1.trans W3.ok.1, e3.trans W3.ok.2⟩, e2 ▸ W3.perm, ?_, by omega⟩, by omega⟩
      rw [e2, e4, Array.toList_push]
      exact Runs.append.mpr ⟨lo, W3.runs, rfl, n1, s3, rfl⟩
    generalize minRun' a₀.size a₀.size 0 = mr
    by_cases gm : n < mr
    case' pos =>
      rw [if_pos gm]
      refine wpS_bind (wpS_lift (wpAny_rule ?_))
      refine ⟨rfl, ?_⟩
      refine wpS_bind (wp_binarySort hc W2.ok (W2.all ha) n1 (by omega) (by omega) u fun st3 mv u3 => ?_)
      rw [if_neg (by decide)]
      have W3 := mv.wt W2
      have s3 := up_seg u3
      have z1 : 1 ≤ min (a₀.size - lo) mr := by omega
      have z2 : min (a₀.size - lo) mr ≤ a₀.size - lo := by omega
      clear mv u3 u n1 n2 W2 sz gm
      generalize min (a₀.size - lo) mr = n' at s3 z1 z2 ⊢
    case' neg =>
      rw [if_neg gm]
      have W3 := W2
      have s3 := up_seg u
      have z1 := n1
      have z2 := n2
      clear u n1 n2 W2 gm sz
      generalize st2 = st3 at W3 s3 ⊢
      generalize n = n' at s3 z1 z2 ⊢
    all_goals
      refine wpS_bind (wpS_get ?_)
      cases eb : (pendingOf st3).back? with
      | none =>
        refine wpS_bind (wpS_modify (wpS_pure ?_))
        obtain ⟨Wn, tn⟩ := mid n' st3 z1 z2 W3 s3 (setPending st3 ((pendingOf st3).push (lo, n', 0))) rfl rfl rfl rfl
        exact ⟨_, rfl, Wn, tn⟩
      | some x =>
        obtain ⟨s1, n1, q1⟩ := x
        refine wp_loop (fun t c st' => c = (none, ()) ∧ Wt κ kf a₀ lo st' ∧ Srt kf (seg (arrOf st').toList lo n')) (fun c st' => c = (none, ()) ∧ Wt κ kf a₀ lo st' ∧ Srt kf (seg (arrOf st').toList lo n')) ?_ (fun c st' x => x) ⟨rfl, W3, s3⟩ ?_
        · clear W3 s3 eb
          rintro i c st4 - hi ⟨rfl, W4, s4⟩
          refine wpS_bind (wpS_get ?_)
          by_cases g1 : (pendingOf st4).size > 1
          · rw [if_pos g1]
            have e1 : (pendingOf st4)[(pendingOf st4).size - 2]? = some (pendingOf st4)[(pendingOf st4).size - 2] := Array.getElem?_eq_getElem (by omega)
            rw [e1]
            generalize (pendingOf st4)[(pendingOf st4).size - 2] = x
            obtain ⟨f1, f2, older⟩ := x
            dsimp only
            by_cases g2 : older ≤ power' a₀.size (2 * s1 + n1) (2 * s1 + n1 + n1 + n') a₀.size
            · rw [if_pos g2]
              exact wpS_pure ⟨rfl, W4, s4⟩
            · rw [if_neg g2]
              refine wpS_bind (wp_merge hc ha W4 (by omega) fun st5 W5 sz5 o5 => ?_)
              rw [if_neg (by decide)]
              refine wpS_pure ⟨rfl, W5, ?_⟩
              have : seg (arrOf st5).toList lo n' = seg (arrOf st4).toList lo n' := seg_out (x := 0) (y := lo) (fun j hj => o5 j (by omega)) (.inr (Nat.le_refl _))
              rw [this]
              exact s4
          · rw [if_neg g1]
            exact wpS_pure ⟨rfl, W4, s4⟩
        · clear W3 s3 eb
          rintro c st4 ⟨rfl, W4, s4⟩
          dsimp only
          refine wpS_bind (wpS_modify (wpS_bind (wpS_modify (wpS_pure ?_))))
          have W5 : Wt κ kf a₀ lo (setPending st4 ((pendingOf st4).modify ((pendingOf st4).size - 1) fun x => (x.1, x.2.1, power' a₀.size (2 * s1 + n1) (2 * s1 + n1 + n1 + n') a₀.size))) :=
            ⟨W4.ok, W4.perm, Runs.relabel (map_modify (g := fun p : Nat × Nat × Nat => (p.1, p.2.1)) (f := fun x => (x.1, x.2.1, power' a₀.size (2 * s1 + n1) (2 * s1 + n1 + n1 + n') a₀.size)) (fun _ => rfl) (pendingOf st4) _).symm W4.runs, W4.le⟩
          obtain ⟨Wn, tn⟩ := mid n' _ z1 z2 W5 s4 (setPending (setPending st4 ((pendingOf st4).modify ((pendingOf st4).size - 1) fun x => (x.1, x.2.1, power' a₀.size (2 * s1 + n1) (2 * s1 + n1 + n1 + n') a₀.size))) ((pendingOf (setPending st4 ((pendingOf st4).modify ((pendingOf st4).size - 1) fun x => (x.1, x.2.1, power' a₀.size (2 * s1 + n1) (2 * s1 + n1 + n1 + n') a₀.size)))).push (lo, n', 0))) rfl rfl rfl rfl
          exact ⟨_, rfl, Wn, tn⟩
  · rintro c st' ⟨lo, rfl, W, tl⟩
    have := W.le
    have e : lo = a₀.size := by omega
    subst e
    exact ⟨rfl, W⟩
  · rintro c st' ⟨rfl, W⟩
    dsimp only
    refine wp_loop (fun t c st' => c = (none, ()) ∧ Wt κ kf a₀ a₀.size st' ∧ (pendingOf st').size + t ≤ a₀.size) (fun c st' => c = (none, ()) ∧ Wt κ kf a₀ a₀.size st' ∧ (pendingOf st').size ≤ 1) ?_ ?_ ⟨rfl, W, ?_⟩ ?_
    · rintro t c st2 - ht ⟨rfl, W, l⟩
      refine wpS_bind (wpS_get ?_)
      by_cases g : (pendingOf st2).size ≤ 1
      · rw [if_pos g]
        exact wpS_pure ⟨rfl, W, g⟩
      rw [if_neg g]
      have hi : ∀ b : Bool, (if b = true then (pendingOf st2).size - 2 - 1 else (pendingOf st2).size - 2) + 1 < (pendingOf st2).size := fun b => by
        split <;> omega
      refine wpS_bind (wp_merge hc ha W (hi _) fun st3 W3 sz o => ?_)
      rw [if_neg (by decide)]
      exact wpS_pure ⟨rfl, W3, by omega⟩
    · rintro c st2 ⟨rfl, W, l⟩
      exact ⟨rfl, W, by omega⟩
    · have := W.runs.le
      rw [Array.length_toList] at this
      omega
    · rintro c st2 ⟨rfl, W, l⟩
      refine wpS_pure (h st2 W.ok W.perm ?_)
      have R := W.runs
      have sz := W.size
      have ll : (pendingOf st2).toList.length ≤ 1 := by rw [Array.length_toList]; exact l
      generalize (pendingOf st2).toList = p at R ll
      match p, R, ll with
      | [], R, _ =>
        have : (arrOf st2).toList = [] := List.eq_nil_of_length_eq_zero (by rw [Array.length_toList, sz]; exact R.symm)
        rw [this]
        exact .nil
      | [x], R, _ =>
        obtain ⟨a, b, c, d⟩ := R
        have d' : 0 + x.2.1 = a₀.size := d
        have : seg (arrOf st2).toList 0 x.2.1 = (arrOf st2).toList := by
          unfold seg
          rw [List.drop_zero, List.take_of_length_le (by rw [Array.length_toList]; omega)]
        rw [this] at c
        exact c
      | _ :: _ :: _, _, l => exact absurd l (by simp)
end
end FQ

/-! FQB: sorted() of tuples of whole numbers of one length, as many as a list may hold -/
namespace FT
open PySem PySem.W PySem.Calls PyProof.Rows
section
variable {prog : Program} {w : World} {A : Around} {E : Value → Shared → Prop} {s : Shared} {vs : List Value} {r : Nat → Int} {κ : SortKind} {n : Nat}
theorem perm_map_inv {α β : Type} {f : α → β} : ∀ {l m : List β}, l.Perm m → ∀ q : List α, m = q.map f → ∃ p : List α, p.Perm q ∧ l = p.map f := by
  intro l m h
  induction h with
  | nil => intro q e; exact ⟨q, List.Perm.refl _, e⟩
  | cons x h ih =>
    intro q e
    match q, e with
    | y :: q, e =>
      simp only [List.map_cons, List.cons.injEq] at e
      obtain ⟨p, hp, hl⟩ := ih q e.2
      exact ⟨y :: p, hp.cons y, by rw [List.map_cons, hl, e.1]⟩
  | swap x y l =>
    intro q e
    match q, e with
    | a :: b :: q, e =>
      simp only [List.map_cons, List.cons.injEq] at e
      exact ⟨b :: a :: q, List.Perm.swap a b q, by simp [e]⟩
  | trans h1 h2 ih1 ih2 =>
    intro q e
    obtain ⟨p, hp, e1⟩ := ih2 q e
    obtain ⟨p2, hp2, e2⟩ := ih1 p e1
    exact ⟨p2, hp2.trans hp, e2⟩
open Classical in
noncomputable def kfOf (vs : List Value) (r : Nat → Int) (x : Keyed) : Int := if h : ∃ i, i < vs.length ∧ vs.getD i Value.none = x.1 then r (Classical.choose h) else 0
theorem kfOf_at (hr : ∀ i j, i < vs.length → j < vs.length → vs.getD i Value.none = vs.getD j Value.none → r i = r j) {i : Nat} (hi : i < vs.length) {x : Keyed} (e : x.1 = vs.getD i Value.none) : kfOf vs r x = r i := by
  have h : ∃ i, i < vs.length ∧ vs.getD i Value.none = x.1 := ⟨i, hi, e.symm⟩
  unfold kfOf
  rw [dif_pos h]
  obtain ⟨a, b⟩ := Classical.choose_spec h
  exact hr _ _ a hi (b.trans e)
theorem zip_item {i : Nat} (hi : i < vs.length) : kas_item (vs.toArray.zip vs.toArray) i = (vs.getD i Value.none, vs.getD i Value.none) := by
  unfold kas_item
  simp [hi]
theorem zip_all : (vs.toArray.zip vs.toArray).toList = (List.range vs.length).map (kas_item (vs.toArray.zip vs.toArray)) := by
  refine List.ext_getElem (by simp) fun i a b => ?_
  have hi : i < vs.length := by simpa using b
  rw [List.getElem_map, List.getElem_range, zip_item hi]
  simp [hi]
theorem run_any (hn : vs.length = n) (hr : ∀ i j, i < vs.length → j < vs.length → vs.getD i Value.none = vs.getD j Value.none → r i = r j) {Q : SortSt → Shared → Prop}
    (hc : ∀ i j C, i < n → j < n → C (decide (r i < r j)) s → kas_ask prog w A κ vs i j C s)
    (fin : ∀ p st', Pm n p → Up r p n → arrOf st' = p.map (kas_item (vs.toArray.zip vs.toArray)) → failedOf st' = none → Q st' s) :
    wpAny (model prog w) A (sortRuns'.run (SortSt.mk' κ (vs.toArray.zip vs.toArray) #[] 7 none)) (fun r s' => Q r.snd s') E s := by
  subst hn
  have ms : ∀ x ∈ vs.toArray.zip vs.toArray, ∃ i, i < vs.length ∧ x = kas_item (vs.toArray.zip vs.toArray) i := fun x hx => by
    have := Array.mem_def.mp hx
    rw [zip_all] at this
    obtain ⟨i, a, b⟩ := List.mem_map.mp this
    exact ⟨i, List.mem_range.mp a, b.symm⟩
  have k0 : ∀ {i}, i < vs.length → kfOf vs r (kas_item (vs.toArray.zip vs.toArray) i) = r i := fun {i} hi => kfOf_at hr hi (by rw [zip_item hi])
  have H : PyProof.Rows.wpS (model prog w) A E s sortRuns' (fun _ st' => Q st' s) (SortSt.mk' κ (vs.toArray.zip vs.toArray) #[] 7 none) := by
    refine FQ.wp_sortRuns (κ := κ) (kf := kfOf vs r) (S := fun x => ∃ i, i < vs.length ∧ x = kas_item (vs.toArray.zip vs.toArray) i) ?_ ⟨rfl, rfl⟩ rfl ms fun st' ok hp hs => ?_
    · rintro x y ⟨i, hi, rfl⟩ ⟨j, hj, rfl⟩ C hC
      rw [k0 hi, k0 hj] at hC
      have := hc i j C hi hj hC
      unfold kas_ask at this
      rw [zip_item hi, zip_item hj]
      exact this
    · have hp' : (arrOf st').toList.Perm (vs.toArray.zip vs.toArray).toList := Array.perm_iff_toList_perm.mp hp
      obtain ⟨p, p1, p2⟩ := perm_map_inv hp' _ zip_all
      have pm : Pm vs.length p.toArray := Array.perm_iff_toList_perm.mpr (by simpa using p1)
      have pl : p.length = vs.length := by rw [p1.length_eq, List.length_range]
      have pb : ∀ i (h : i < p.length), p[i] < vs.length := fun i h => List.mem_range.mp (p1.mem_iff.mp (List.getElem_mem h))
      refine fin p.toArray st' pm (fun i j hij hj => ?_) ?_ ok.2
      · rcases Nat.lt_or_ge i j with l | g
        · rw [p2] at hs
          have := List.pairwise_iff_getElem.mp hs i j (by rw [List.length_map]; omega) (by rw [List.length_map]; omega) l
          rw [List.getElem_map, List.getElem_map, k0 (pb i (by omega)), k0 (pb j (by omega))] at this
          unfold kv
          simpa [show i < p.length by omega, show j < p.length by omega] using this
        · have : i = j := by omega
          rw [this]
          exact Int.le_refl _
      · apply Array.toList_inj.mp
        rw [p2]
        simp
  exact wpAny_mono H (fun r s' q => by obtain ⟨rfl, q⟩ := q; exact q) fun _ _ e => e
/-- list.sort of a list that nothing else holds -/
theorem lsort_any {a n : Nat} {P : PySem.Fin → Shared → Prop} {h0 : Heap} (K0 : Kp h0 s.heap) (ha : h0.objs.size ≤ a) (ho : s.heap.get? a = some (seqObj "list" vs.toArray n)) (h2 : 2 ≤ vs.length) (small : vs.length ≤ sizeLine) (hr : ∀ i j, i < vs.length → j < vs.length → vs.getD i Value.none = vs.getD j Value.none → r i = r j)
    (hk : ∀ h' C, Kp h0 h' → C κ { s with heap := h' } → wpAny (model prog w) A (keyKind' vs.toArray) C (fun _ _ => False) { s with heap := h' })
    (hc : ∀ h' i j C, Kp h0 h' → i < vs.length → j < vs.length → C (decide (r i < r j)) { s with heap := h' } → kas_ask prog w A κ vs i j C { s with heap := h' })
    (h : ∀ p h' c, Pm vs.length p → Up r p vs.length → Kp h0 h' → h'.get? a = some (seqObj "list" (outs vs p).toArray c) → P (.done (.ret .none)) { s with heap := h' }) :
    wpAny (model prog w) A (Builtin.«list.sort» ⟨[.ref a], []⟩) P E s := by
  have sb1 := Heap.SameBut.update s.heap a (Obj.mapSeq fun _ => (#[] : Array Value))
  have g1 := get?_update_seq ho fun _ => (#[] : Array Value)
  generalize eh1 : s.heap.update a (Obj.mapSeq fun _ => (#[] : Array Value)) = h1 at sb1 g1
  have K1 : Kp h0 h1 := K0.but ha sb1
  rw [list_sort_plain]
  refine wpAny_bind (listItems_at ho rfl (wpAny_bind (listUpdate_at ho rfl ?_ (by rw [List.size_toArray]; exact small) (Nat.zero_le _))))
  rw [eh1]
  refine wpAny_bind (seqEpoch_at g1 rfl (wpAny_bind (wpAny_newTuple (wpAny_bind (wpAny_newList (wpAny_holding ?_) (Nat.zero_le _))) small)))
  show wpAny (model prog w) A _ P E { s with heap := (h1.push (seqObj "tuple" vs.toArray 0)).push (seqObj "list" #[] 0) }
  have g3 := Heap.get?_push_of_some (seqObj "list" #[] 0) (Heap.get?_push_of_some (seqObj "tuple" vs.toArray 0) g1)
  have K3 : Kp h0 ((h1.push (seqObj "tuple" vs.toArray 0)).push (seqObj "list" #[] 0)) := K1.trans ((Kp.push _ _).trans (Kp.push _ _))
  generalize (h1.push (seqObj "tuple" vs.toArray 0)).push (seqObj "list" #[] 0) = h3 at g3 K3 ⊢
  dsimp only
  have two : ¬ vs.toArray.size < 2 := by rw [List.size_toArray]; omega
  rw [if_neg two, if_neg two]
  refine wpAny_bind (wpAny_mono (hk h3 (fun κ' s' => κ' = κ ∧ s' = { s with heap := h3 }) K3 ⟨rfl, rfl⟩) (fun κ' s' q => ?_) fun _ _ z => z.elim)
  obtain ⟨rfl, rfl⟩ := q
  refine wpAny_bind (wpAny_mono (run_any (r := r) (n := vs.length) (Q := fun st' s' => ∃ p, arrOf st' = p.map (kas_item (vs.toArray.zip vs.toArray)) ∧ failedOf st' = none ∧ (Pm vs.length p ∧ Up r p vs.length) ∧ s' = { s with heap := h3 })
    rfl hr (fun i j C a b c => hc h3 i j C K3 a b c) (fun p st' a b x y => ⟨p, x, y, ⟨a, b⟩, rfl⟩)) ?_ fun _ _ e => e)
  rintro ⟨⟨⟩, st'⟩ s' ⟨p, har, hf, ⟨hp, hu⟩, rfl⟩
  dsimp only
  rw [kat_snds rfl har]
  have len : (outs vs p).length = vs.length := by rw [List.length_map, Array.length_toList, hp.size]
  have sb2 := Heap.SameBut.update h3 a (Obj.mapSeq fun _ => (outs vs p).toArray)
  have g4 := get?_update_seq g3 fun _ => (outs vs p).toArray
  refine wpAny_bind (seqEpoch_at g3 rfl (wpAny_bind (listUpdate_at g3 rfl ?_ (Nat.zero_le _) (by rw [List.size_toArray, len]; first | exact small | exact Nat.le_succ_of_le small))))
  rw [hf]
  simp only [bne_self_eq_false, Bool.false_eq_true, if_false]
  exact wpAny_pure (h p _ _ hp hu (K3.but ha sb2) g4)
theorem sorted_any {l : Addr} {Q : Value → Shared → Prop} (hl : s.heap.IsList l vs.toArray) (small : vs.length ≤ sizeLine) (hr : ∀ i j, i < vs.length → j < vs.length → vs.getD i Value.none = vs.getD j Value.none → r i = r j)
    (hk : 2 ≤ vs.length → ∀ h' C, Kp s.heap h' → C κ { s with heap := h' } → wpAny (model prog w) A.in1.in1 (keyKind' vs.toArray) C (fun _ _ => False) { s with heap := h' })
    (hc : ∀ h' i j C, Kp s.heap h' → i < vs.length → j < vs.length → C (decide (r i < r j)) { s with heap := h' } → kas_ask prog w A.in1.in1 κ vs i j C { s with heap := h' })
    (h : ∀ p a h' c, Pm vs.length p → Up r p vs.length → Kp s.heap h' → s.heap.objs.size ≤ a → h'.get? a = some (seqObj "list" (outs vs p).toArray c) → Q (.ref a) { s with heap := h' }) :
    wpAny (model prog w) A (call (.builtin "sorted") [.ref l]) Q E s := by
  refine Calls.call_function_entry kind_sorted plain_sorted entry_sorted (args_sorted1 _) ?_
  unfold Builtin.«sorted»
  refine wpAny_bind (m := checkCount "sorted" 1 1 _) (wpAny_pure (wpAny_bind (collect_list hl (wpAny_bind (wpAny_newList ?_ small)) (by first | exact small | exact Nat.le_succ_of_le small | omega))))
  have sb := Heap.SameBut.update (s.heap.push (seqObj "list" #[] 0)) s.heap.objs.size (Obj.mapSeq (· ++ vs.toArray))
  have sz : ((s.heap.push (seqObj "list" #[] 0)).update s.heap.objs.size (Obj.mapSeq (· ++ vs.toArray))).objs.size = s.heap.objs.size + 1 := by rw [Heap.size_update, size_push']
  have K2 : Kp s.heap ((s.heap.push (seqObj "list" #[] 0)).update s.heap.objs.size (Obj.mapSeq (· ++ vs.toArray))) := (Kp.push _ _).but (Nat.le_refl _) sb
  generalize (s.heap.push (seqObj "list" #[] 0)).update s.heap.objs.size (Obj.mapSeq (· ++ vs.toArray)) = h2' at sz K2 ⊢
  have g := Heap.get?_push_size h2' (o := seqObj "list" vs.toArray 0) rfl
  show wpAny _ _ _ _ _ { s with heap := h2'.push (seqObj "list" vs.toArray 0) }
  refine wpAny_bind (wpAny_holding (wpAny_call_entry slot_list_sort ⟨_, g, rfl⟩ entry_list_sort ?body (args_list_sort _)))
  case body =>
    by_cases h2 : 2 ≤ vs.length
    · refine lsort_any (s := { s with heap := h2'.push (seqObj "list" vs.toArray 0) }) (κ := κ) (r := r) (h0 := s.heap) (K2.trans (Kp.push _ _)) (by rw [sz]; exact Nat.le_succ _) g h2 small hr (hk h2) hc fun p h' c a b k e => ?_
      exact ⟨_, rfl, wpAny_pure ⟨_, rfl, h p _ h' c a b k (by rw [sz]; exact Nat.le_succ _) e⟩⟩
    · refine lsort_few (s := { s with heap := h2'.push (seqObj "list" vs.toArray 0) }) (r := r) (h0 := s.heap) (K2.trans (Kp.push _ _)) (by rw [sz]; exact Nat.le_succ _) g (by omega) fun p h' c a b k e => ?_
      exact ⟨_, rfl, wpAny_pure ⟨_, rfl, h p _ h' c a b k (by rw [sz]; exact Nat.le_succ _) e⟩⟩
end
end FT
namespace FT
open PySem PySem.W PySem.Spec PySem.Calls PyProof.Rows L2 FL
theorem vals_uniq : ∀ {t u : List Int} {its : List Value}, Vals (t.map V.int) its → Vals (u.map V.int) its → t = u
  | [], [], _, _, _ => rfl
  | [], _ :: _, _, h, k => by
    have a := h.length
    have b := k.length
    simp at a b
    omega
  | _ :: _, [], _, h, k => by
    have a := h.length
    have b := k.length
    simp at a b
    omega
  | a :: t, b :: u, its, h, k => by
    cases h with
    | cons h1 h2 =>
      cases k with
      | cons k1 k2 =>
        obtain ⟨_, h1⟩ := h1
        obtain ⟨_, k1⟩ := k1
        rw [h1] at k1
        cases k1
        rw [vals_uniq h2 k2]
theorem TupAt.uniq {h : Heap} {v : Value} {t u : List Int} (x : TupAt h v t) (y : TupAt h v u) : t = u := by
  obtain ⟨a, o, its, n, e, g, c, d, r⟩ := x
  obtain ⟨a', o', its', n', e', g', c', d', r'⟩ := y
  rw [e] at e'
  cases e'
  rw [g] at g'
  cases g'
  rw [d] at d'
  cases d'
  exact vals_uniq r r'
section
variable {X : Cx} {pins : List (Addr × Obj)} {σ : L2.St} {H : Hp} {s : Shared}
theorem call_sortedA : CallR X (.builtin "sorted") (fun xs H Q => ∃ a us ts k, xs = [.ref a] ∧ SqL X.K H a us ∧ IsAll X.K H us (ts.map tupI) ∧ (∀ t ∈ ts, t.length = k + 1) ∧ ts.length ≤ sizeLine ∧
    ∀ b ws H', H b = none → H' = upd H b (.lst ws) → IsAll X.K H ws ((srt ts).map tupI) → Q (.ref b) H') := by
  intro pins s σ H xs us Q I r h
  obtain ⟨a, ws, ts, k, rfl, h1, h2, hk, l64, q⟩ := h
  obtain ⟨u, rfl, ru⟩ := vals1 r
  cases ru
  obtain ⟨its, w, ⟨o, n, g, c, _, d⟩, _⟩ := I.list h1
  have P := tups_at I h2 w
  have ln : its.length = ts.length := by rw [← w.length, h2.length, List.length_map]
  have hz : ∀ t ∈ ts, t ≠ [] := fun t ht z => by have := hk t ht; rw [z] at this; simp at this
  have kp : ∀ {h'}, Kp s.heap h' → Paired (TupAt h') its ts := fun {h'} kk => pair_kp kk P
  refine sorted_any (κ := tuples' true) (r := fun i => rank ts (ts.getD i [])) ⟨o, g, c, n, d⟩ (by rw [ln]; exact l64) ?_ (fun l2 h' C kk hC => ?_) (fun h' i j C kk hi hj hC => ?_) fun p b h' c' hp hu kk hb hg => ?_
  · intro i j hi hj e
    have a1 := tups_get P i (by omega)
    have a2 := tups_get P j (by omega)
    rw [e] at a1
    rw [a1.uniq a2]
  · obtain ⟨fs, f1, f2, f3⟩ := kat_tups (kp kk) hz
    exact kat_kind (T := .type "int") f1 (by omega) (fun v hv => by obtain ⟨n, t, rfl⟩ := f3 v hv; exact .now) (by decide) hC
  · obtain ⟨x, ox, ix, nx, ex, gx, cx, dx, vx⟩ := tups_get (kp kk) i (by omega)
    obtain ⟨y, oy, iy, ny, ey, gy, cy, dy, vy⟩ := tups_get (kp kk) j (by omega)
    unfold kas_ask
    rw [ex, ey]
    have mi : ts.getD i [] ∈ ts := by
      rw [List.getD_eq_getElem?_getD, List.getElem?_eq_getElem (by omega)]
      exact List.getElem_mem _
    have mj : ts.getD j [] ∈ ts := by
      rw [List.getD_eq_getElem?_getD, List.getElem?_eq_getElem (by omega)]
      exact List.getElem_mem _
    have li := hk _ mi
    have lj := hk _ mj
    refine kat_lt gx dx gy dy ?_
    have e : decide ((List.toArray ix).size < (List.toArray iy).size) = false := by
      have a1 := vx.length
      have a2 := vy.length
      simp only [List.length_map] at a1 a2
      simp
      omega
    rw [e]
    refine lex_ints 0 rfl rfl vx vy (by omega) ?_
    rw [← rank_lt mi]
    exact hC
  · have hq : ∀ i ∈ p.toList, i < (ts.map tupI).length := fun i hi => by
      rw [List.length_map, ← ln]
      have : i ∈ (List.range its.length) := by
        have m := (Array.perm_iff_toList_perm.mp hp).mem_iff (a := i)
        simp only [List.toList_toArray] at m
        exact m.mp hi
      exact List.mem_range.mp this
    obtain ⟨v1, v2⟩ := pick_out h2 w p.toList hq
    have es : (p.toList.map fun i => (ts.map tupI).getD i .non) = (srt ts).map tupI := by
      rw [ln] at hp hu
      rw [← sorted_out rfl hp hu, List.map_map]
      refine List.map_congr_left fun i hi => ?_
      have := hq i hi
      rw [List.length_map] at this
      simp [this]
    rw [es] at v2
    have hf : H b = none := I.hok.fresh hb
    refine ⟨.ref b, _, I.laid (a := b) (o := .lst (p.toList.map fun i => ws.getD i .non)) (t' := s.toks) kk hb ⟨?_, _, c', v1, hg⟩, rfl, q b _ _ hf rfl v2⟩
    rw [List.length_map, Array.length_toList, hp.size, ln]
    exact l64
variable {e : Expr} {ρ : Ro} {d : D} {pos p : Pos} {ts : List (List Int)} {k : Nat}
theorem evn_sortedA (hm : X.mg "sorted" = none) (h : Ev X e ρ d) (hd : lsD d = some (ts.map tupI)) (hk : ∀ t ∈ ts, t.length = k + 1) (l64 : ts.length ≤ sizeLine)
    (hg : Gl X "sorted" := by rfl) (he : starEach [e] X.env = [(false, eval e X.env)] := by rfl) : EvN X (.Call (.Name "sorted" p) [e] [] pos) ρ ((srt ts).map tupI) := by
  refine PE.imp (pe_callB call_sortedA hg hm (by decide +kernel) (ea_cons h ea_nil he) (by decide) (by decide) he rfl) ?_
  rintro σ H Q ⟨r, q⟩
  refine ⟨r, fun vs H1 s1 h1 => ?_⟩
  obtain ⟨v, rfl, hv⟩ := one_inv h1
  obtain ⟨a, xs, rfl, hT, hA⟩ := hv.lsD_inv hd
  refine ⟨a, xs, ts, k, rfl, hT, hA, hk, l64, fun b ws H' hb e' hw => ?_⟩
  subst e'
  exact q b ws _ (s1.free hb) (s1.trans (same_new hb)) upd_same (hw.mono (same_new hb))
end
end FT

/-! MS: all places where a form is worth a number -/
namespace MS
/-- the greatest whole number whose square is no more -/
def root : Nat → Nat
  | 0 => 0
  | n + 1 => if (root n + 1) * (root n + 1) ≤ n + 1 then root n + 1 else root n
theorem root_spec : ∀ n, root n * root n ≤ n ∧ n < (root n + 1) * (root n + 1)
  | 0 => ⟨by decide, by decide⟩
  | n + 1 => by
    obtain ⟨h1, h2⟩ := root_spec n
    unfold root
    split
    · rename_i h
      refine ⟨h, ?_⟩
      have : (root n + 1 + 1) * (root n + 1 + 1) = (root n + 1) * (root n + 1) + 2 * root n + 3 := by grind
      omega
    · omega
def rt (z : Int) : Int := (root z.toNat : Nat)
theorem rt_nn (z : Int) : 0 ≤ rt z := by unfold rt; omega
theorem rt_spec {z : Int} (h : 0 ≤ z) : rt z * rt z ≤ z ∧ z < (rt z + 1) * (rt z + 1) := by
  obtain ⟨k1, k2⟩ := root_spec z.toNat
  unfold rt
  have e : ((z.toNat : Nat) : Int) = z := Int.toNat_of_nonneg h
  constructor
  · have := Int.ofNat_le.mpr k1
    rw [Int.natCast_mul, e] at this
    exact this
  · have := Int.ofNat_lt.mpr k2
    rw [e] at this
    simpa using this
theorem sq_lt {a b : Int} (ha : 0 ≤ a) (h : a < b) : (a + 1) * (a + 1) ≤ b * b := Int.mul_le_mul (by omega) (by omega) (by omega) (by omega)
theorem rt_of {z r : Int} (hr : 0 ≤ r) (h1 : r * r ≤ z) (h2 : z < (r + 1) * (r + 1)) : rt z = r := by
  have hz : 0 ≤ z := Int.le_trans (Int.mul_nonneg hr hr) h1
  obtain ⟨k1, k2⟩ := rt_spec hz
  have n0 := rt_nn z
  rcases Int.lt_trichotomy (rt z) r with h | h | h
  · have := sq_lt n0 h; omega
  · exact h
  · have := sq_lt hr h; omega
theorem rt_sq {m : Int} (h : 0 ≤ m) : rt (m * m) = m := rt_of h (Int.le_refl _) (by have : (m + 1) * (m + 1) = m * m + 2 * m + 1 := by grind
                                                                                    omega)
def sides (m : Int) : List Int := if 0 < m then [m, -m] else [0]
theorem mem_sides {m s : Int} (h : 0 ≤ m) : s ∈ sides m ↔ s * s = m * m := by
  unfold sides
  have key : s * s = m * m ↔ s = m ∨ s = -m := by
    constructor
    · intro e
      have : (s - m) * (s + m) = 0 := by grind
      rcases Int.mul_eq_zero.mp this with z | z <;> omega
    · rintro (rfl | rfl)
      · rfl
      · grind
  rw [key]
  split
  · simp
  · simp
    omega
theorem sides_nodup (m : Int) : (sides m).Nodup := by
  unfold sides
  split
  · rename_i h
    simp
    omega
  · simp
/-- in one row -/
def PR (a b y sq : Int) : List (List Int) := if rt sq * rt sq ≠ sq then [] else ((sides (rt sq)).filter fun s => decide ((s - b * y) % (2 * a) = 0)).map fun s => [(s - b * y) / (2 * a), y]
theorem mem_PR {a b y sq : Int} (ha : 0 < a) (t : List Int) : t ∈ PR a b y sq ↔ ∃ x, t = [x, y] ∧ (2 * a * x + b * y) * (2 * a * x + b * y) = sq := by
  unfold PR
  split
  · rename_i h
    refine ⟨fun z => (by cases z), fun ⟨x, e, k⟩ => ?_⟩
    exfalso
    generalize 2 * a * x + b * y = s at k
    refine h ?_
    rcases Int.le_total 0 s with n | n
    · rw [← k, rt_sq n]
    · have e2 : sq = (-s) * (-s) := by rw [← k]; grind
      rw [e2, rt_sq (by omega)]
  · rename_i h
    have h' : rt sq * rt sq = sq := Decidable.not_not.mp h
    rw [List.mem_map]
    constructor
    · rintro ⟨s, hs, rfl⟩
      obtain ⟨s1, s2⟩ := List.mem_filter.mp hs
      have e := (mem_sides (rt_nn sq)).mp s1
      have d := Int.mul_ediv_cancel' (Int.dvd_of_emod_eq_zero (of_decide_eq_true s2))
      refine ⟨_, rfl, ?_⟩
      have : 2 * a * ((s - b * y) / (2 * a)) + b * y = s := by omega
      rw [this, e, h']
    · rintro ⟨x, rfl, k⟩
      have e1 : 2 * a * x + b * y - b * y = (2 * a) * x := by omega
      refine ⟨2 * a * x + b * y, List.mem_filter.mpr ⟨(mem_sides (rt_nn sq)).mpr (by rw [k, h']), ?_⟩, ?_⟩
      · rw [e1]
        exact decide_eq_true (Int.mul_emod_right _ _)
      · rw [e1, Int.mul_ediv_cancel_left _ (by omega)]
theorem PR_nodup {a b y sq : Int} (ha : 0 < a) : (PR a b y sq).Nodup := by
  unfold PR
  split
  · exact .nil
  · have h1 := (sides_nodup (rt sq)).filter (fun s => decide ((s - b * y) % (2 * a) = 0))
    unfold List.Nodup at h1 ⊢
    rw [List.pairwise_map]
    refine h1.imp_of_mem fun {s t} hs ht ne e => ne ?_
    have d1 := Int.mul_ediv_cancel' (Int.dvd_of_emod_eq_zero (of_decide_eq_true (List.mem_filter.mp hs).2))
    have d2 := Int.mul_ediv_cancel' (Int.dvd_of_emod_eq_zero (of_decide_eq_true (List.mem_filter.mp ht).2))
    have e' : (s - b * y) / (2 * a) = (t - b * y) / (2 * a) := by
      injection e
    rw [e'] at d1
    omega
theorem PR_len (a b y sq : Int) : (PR a b y sq).length ≤ 2 := by
  unfold PR
  split
  · simp
  · rw [List.length_map]
    refine Nat.le_trans (List.length_filter_le _ _) ?_
    unfold sides
    split <;> simp
/-- the first k rows from -top on -/
def PN (a b i n top : Int) (k : Nat) : List (List Int) := (List.range k).flatMap fun (j : Nat) => PR a b (-top + (j : Int)) (4 * a * n + i * (-top + (j : Int)) * (-top + (j : Int)))
theorem PN_succ (a b i n top : Int) (k : Nat) : PN a b i n top (k + 1) = PN a b i n top k ++ PR a b (-top + (k : Int)) (4 * a * n + i * (-top + (k : Int)) * (-top + (k : Int))) := by
  unfold PN
  rw [List.range_succ, List.flatMap_append]
  simp
theorem PN_len (a b i n top : Int) : ∀ k, (PN a b i n top k).length ≤ 2 * k
  | 0 => by unfold PN; simp
  | k + 1 => by
    rw [PN_succ, List.length_append]
    have := PN_len a b i n top k
    have := PR_len a b (-top + (k : Int)) (4 * a * n + i * (-top + (k : Int)) * (-top + (k : Int)))
    omega
theorem mem_PN {a b i n top : Int} (ha : 0 < a) {k : Nat} (t : List Int) : t ∈ PN a b i n top k ↔ ∃ x y, t = [x, y] ∧ (2 * a * x + b * y) * (2 * a * x + b * y) = 4 * a * n + i * y * y ∧ -top ≤ y ∧ y < -top + (k : Int) := by
  unfold PN
  rw [List.mem_flatMap]
  constructor
  · rintro ⟨j, hj, h⟩
    obtain ⟨x, rfl, e⟩ := (mem_PR ha t).mp h
    have := List.mem_range.mp hj
    exact ⟨x, _, rfl, e, by omega, by omega⟩
  · rintro ⟨x, y, rfl, e, h1, h2⟩
    refine ⟨(y + top).toNat, List.mem_range.mpr (by omega), (mem_PR ha _).mpr ⟨x, ?_, ?_⟩⟩
    · rw [show -top + (((y + top).toNat : Nat) : Int) = y by omega]
    · rw [show -top + (((y + top).toNat : Nat) : Int) = y by omega]
      exact e
theorem PN_nodup {a b i n top : Int} (ha : 0 < a) : ∀ k, (PN a b i n top k).Nodup
  | 0 => by unfold PN; simp
  | k + 1 => by
    rw [PN_succ]
    refine List.nodup_append.mpr ⟨PN_nodup ha k, PR_nodup ha, fun t ht u hu e => ?_⟩
    subst e
    obtain ⟨x, y, rfl, _, _, h⟩ := (mem_PN ha t).mp ht
    obtain ⟨x', e, _⟩ := (mem_PR ha _).mp hu
    injection e with _ e
    injection e with e _
    omega
def top (a i n : Int) : Int := rt (4 * a * n / -i)
theorem top_spec {a i n : Int} (ha : 0 < a) (hi : i < 0) (hn : 0 ≤ n) : -i * (top a i n * top a i n) ≤ 4 * a * n ∧ 4 * a * n < -i * ((top a i n + 1) * (top a i n + 1)) := by
  have h0 : 0 ≤ 4 * a * n := Int.mul_nonneg (by omega) hn
  obtain ⟨k1, k2⟩ := rt_spec (Int.ediv_nonneg h0 (show 0 ≤ -i by omega))
  unfold top
  generalize rt (4 * a * n / -i) = r at *
  have e1 := Int.mul_ediv_add_emod (4 * a * n) (-i)
  have e2 := Int.emod_nonneg (4 * a * n) (show -i ≠ 0 by omega)
  have e3 := Int.emod_lt_of_pos (4 * a * n) (show 0 < -i by omega)
  generalize 4 * a * n = z at *
  have m1 := Int.mul_le_mul_of_nonneg_left k1 (show 0 ≤ -i by omega)
  have m2 := Int.mul_le_mul_of_nonneg_left (show z / -i + 1 ≤ (r + 1) * (r + 1) by omega) (show 0 ≤ -i by omega)
  rw [Int.mul_add] at m2
  omega
def PL (a b c n : Int) : List (List Int) := PN a b (b * b - 4 * a * c) n (top a (b * b - 4 * a * c) n) (2 * top a (b * b - 4 * a * c) n + 1).toNat
theorem four {a b c x y n : Int} (ha : 0 < a) : (2 * a * x + b * y) * (2 * a * x + b * y) = 4 * a * n + (b * b - 4 * a * c) * y * y ↔ a * x * x + b * x * y + c * y * y = n := by
  constructor
  · intro h
    have : 4 * a * (a * x * x + b * x * y + c * y * y - n) = 0 := by grind
    rcases Int.mul_eq_zero.mp this with z | z <;> omega
  · intro h
    subst h
    grind
theorem sq_nn (z : Int) : 0 ≤ z * z := by
  rcases Int.le_total 0 z with h | h
  · exact Int.mul_nonneg h h
  · have : z * z = (-z) * (-z) := by grind
    rw [this]
    exact Int.mul_nonneg (by omega) (by omega)
theorem mem_PL {a b c n : Int} (ha : 0 < a) (hi : b * b - 4 * a * c < 0) (hn : 0 ≤ n) (t : List Int) : t ∈ PL a b c n ↔ ∃ x y, t = [x, y] ∧ a * x * x + b * x * y + c * y * y = n := by
  unfold PL
  rw [mem_PN ha]
  have tn : 0 ≤ top a (b * b - 4 * a * c) n := rt_nn _
  constructor
  · rintro ⟨x, y, rfl, e, _, _⟩
    exact ⟨x, y, rfl, (four ha).mp e⟩
  · rintro ⟨x, y, rfl, e⟩
    have f := (four (c := c) ha).mpr e
    obtain ⟨k1, k2⟩ := top_spec ha hi hn
    have s := sq_nn (2 * a * x + b * y)
    generalize top a (b * b - 4 * a * c) n = T at *
    generalize b * b - 4 * a * c = i at *
    have bd : ¬ (T + 1) * (T + 1) ≤ y * y := fun z => by
      have m := Int.mul_le_mul_of_nonneg_left z (show 0 ≤ -i by omega)
      have : i * y * y = -(-i * (y * y)) := by grind
      omega
    have b1 : y ≤ T := by
      refine Int.not_lt.mp fun z => bd (sq_lt tn z)
    have b2 : -T ≤ y := by
      refine Int.not_lt.mp fun z => bd ?_
      have := sq_lt tn (show T < -y by omega)
      have e : -y * -y = y * y := by grind
      omega
    exact ⟨x, y, rfl, f, b2, by omega⟩
theorem PL_nodup {a b c n : Int} (ha : 0 < a) : (PL a b c n).Nodup := PN_nodup ha _
theorem top_le {a b c n : Int} (ha : 0 < a) (L : MT.Least a b c) (hi : b * b - 4 * a * c < 0) (hn : 0 ≤ n) (h : n ≤ 10000) : top a (b * b - 4 * a * c) n ≤ 115 := by
  obtain ⟨k1, _⟩ := top_spec ha hi hn
  have tn : 0 ≤ top a (b * b - 4 * a * c) n := rt_nn _
  have h3 : 3 * (a * a) ≤ 4 * a * c - b * b := by
    have h1 := MT.mul_nn (show 0 ≤ a - b by have := L.hi; omega) (show 0 ≤ a + b by have := L.lo; omega)
    have h2 := MT.mul_nn (Int.le_of_lt ha) (show 0 ≤ c - a by have := L.ac; omega)
    grind
  generalize top a (b * b - 4 * a * c) n = T at *
  refine Int.not_lt.mp fun z => ?_
  have q := sq_lt (a := 115) (by decide) z
  have m1 := Int.mul_le_mul_of_nonneg_left q (show 0 ≤ 3 * (a * a) by have := sq_nn a; omega)
  have m2 := Int.mul_le_mul_of_nonneg_right h3 (sq_nn T)
  have m3 := Int.mul_le_mul_of_nonneg_left h (show 0 ≤ 4 * a by omega)
  have e1 : (4 * a * c - b * b) * (T * T) = -(b * b - 4 * a * c) * (T * T) := by grind
  have a1 := Int.mul_le_mul_of_nonneg_left (show 1 ≤ a by omega) (Int.le_of_lt ha)
  omega
/-- a place, turned along -/
def sn (p q r s : Int) : List Int → List Int
  | [x, y] => [p * x + q * y, r * x + s * y]
  | t => t
theorem sn_inj {p q r s : Int} (d : p * s - q * r = 1) {x y x' y' : Int} (h : sn p q r s [x, y] = sn p q r s [x', y']) : x = x' ∧ y = y' := by
  unfold sn at h
  injection h with h1 h
  injection h with h2 _
  constructor
  · have e : x - x' = (p * s - q * r) * (x - x') := by rw [d]; omega
    have : (p * s - q * r) * (x - x') = s * (p * x + q * y - (p * x' + q * y')) - q * (r * x + s * y - (r * x' + s * y')) := by grind
    rw [this, h1, h2] at e
    simp at e
    omega
  · have e : y - y' = (p * s - q * r) * (y - y') := by rw [d]; omega
    have : (p * s - q * r) * (y - y') = p * (r * x + s * y - (r * x' + s * y')) - r * (p * x + q * y - (p * x' + q * y')) := by grind
    rw [this, h1, h2] at e
    simp at e
    omega
end MS

/-! CP: what the defs about places promise -/
namespace FL
open PySem PySem.Spec PyProof.Rows L2
section
variable {X : Cx} {e a b c : Expr} {ρ : Ro} {ds : List D} {pos : Pos} {l : Addr}
theorem evn_ifT (hc : Et X c ρ true) (ha : EvN X a ρ ds) : EvN X (.IfExp c a b pos) ρ ds :=
  PE.imp (pe_ifExp (tb := fun _ _ _ => False) hc ha (fun _ _ _ _ _ _ z => z.elim)) fun σ H Q ⟨r, q⟩ => ⟨r, fun H' s => iteT ⟨r.mono s, fun a vs H'' h1 h2 h3 h4 => q a vs H'' (s.free h1) (s.trans h2) h3 h4⟩⟩
theorem evn_ifF (hc : Et X c ρ false) (hb : EvN X b ρ ds) : EvN X (.IfExp c a b pos) ρ ds :=
  PE.imp (pe_ifExp (ta := fun _ _ _ => False) hc (fun _ _ _ _ _ _ z => z.elim) hb) fun σ H Q ⟨r, q⟩ => ⟨r, fun H' s => iteF ⟨r.mono s, fun a vs H'' h1 h2 h3 h4 => q a vs H'' (s.free h1) (s.trans h2) h3 h4⟩⟩
/-- an own list, to be read -/
theorem ev_lsOf (h : Ev X e ρ (.lst l ds)) : Ev X e ρ (.ls ds) :=
  PE.imp h fun σ H Q ⟨r, q⟩ => ⟨r, fun v H' s hv => q v H' s (by
    obtain ⟨rfl, xs, e, hh⟩ := hv.lst_inv
    exact .ls (.of e) hh)⟩
end
end FL
namespace CM
open PySem PySem.Spec L2 FL FT
def p_root (ds : List D) (d : D) : Prop := ∃ n : Int, ds = [.int n] ∧ 0 ≤ n ∧ Bd n 4000 ∧ d = .int (MS.rt n)
def p_row (ds : List D) (d : D) : Prop := ∃ a i n : Int, ds = [.int (4 * a * n), .int i] ∧ 0 < a ∧ i < 0 ∧ 0 ≤ n ∧ MS.top a i n ≤ 1000 ∧ Bd i 1200 ∧ d = .int (MS.top a i n)
def p_in_row (ds es : List D) : Prop := ∃ a b c y sq : Int, ds = [formD a b c, .int y, .int sq] ∧ 0 < a ∧ 0 ≤ sq ∧ Bd a 3000 ∧ Bd b 3000 ∧ Bd y 10 ∧ Bd sq 4000 ∧ es = (MS.PR a b y sq).map tupI
def p_of_least (ds es : List D) : Prop := ∃ a b c n : Int, ds = [formD a b c, .int n] ∧ FormS a b c ∧ MT.Least a b c ∧ 0 ≤ n ∧ n ≤ 10000 ∧ es = (MS.PL a b c n).map tupI
def Here (a b c n : Int) (t : List Int) : Prop := ∃ x y, t = [x, y] ∧ MT.Wo a b c x y = n
def p_places (ds es : List D) : Prop := ∃ (a b c n : Int) (ts : List (List Int)), ds = [formD a b c, .int n] ∧ FormS a b c ∧ 0 ≤ n ∧ n ≤ 10000 ∧ ts.Nodup ∧ (∀ t, t ∈ ts ↔ Here a b c n t) ∧ es = (srt ts).map tupI
theorem Leads.at {a b c p q r s A B C : Int} (h : Leads a b c p q r s A B C) (x y : Int) : MT.Wo a b c (p * x + q * y) (r * x + s * y) = MT.Wo A B C x y := by
  rw [h.e1, h.e2, h.e3]
  unfold MT.Wo
  grind
theorem here_map {a b c p q r s A B C n : Int} (h : Leads a b c p q r s A B C) (hA : 0 < A) (hD : B * B - 4 * A * C < 0) (hn : 0 ≤ n) : ((MS.PL A B C n).map (MS.sn p q r s)).Nodup ∧ ∀ t, t ∈ (MS.PL A B C n).map (MS.sn p q r s) ↔ Here a b c n t := by
  have M := MS.mem_PL hA hD hn
  constructor
  · have h1 := MS.PL_nodup (b := B) (c := C) (n := n) hA
    unfold List.Nodup at h1 ⊢
    rw [List.pairwise_map]
    refine h1.imp_of_mem fun {t u} ht hu ne e => ne ?_
    obtain ⟨x, y, rfl, _⟩ := (M t).mp ht
    obtain ⟨x', y', rfl, _⟩ := (M u).mp hu
    obtain ⟨e1, e2⟩ := MS.sn_inj h.det e
    rw [e1, e2]
  · intro t
    rw [List.mem_map]
    constructor
    · rintro ⟨u, hu, rfl⟩
      obtain ⟨x, y, rfl, e⟩ := (M u).mp hu
      exact ⟨_, _, rfl, (h.at x y).trans e⟩
    · rintro ⟨x, y, rfl, e⟩
      have b := h.back
      refine ⟨[s * x + -q * y, -r * x + p * y], (M _).mpr ⟨_, _, rfl, (b.at x y).trans e⟩, ?_⟩
      unfold MS.sn
      have d := h.det
      have e1 : p * (s * x + -q * y) + q * (-r * x + p * y) = (p * s - q * r) * x := by grind
      have e2 : r * (s * x + -q * y) + s * (-r * x + p * y) = (p * s - q * r) * y := by grind
      dsimp only
      rw [e1, e2, d, Int.one_mul, Int.one_mul]
theorem here_perm {a b c n : Int} {ts us : List (List Int)} (h1 : ts.Nodup) (h2 : ∀ t, t ∈ ts ↔ Here a b c n t) (h3 : us.Nodup) (h4 : ∀ t, t ∈ us ↔ Here a b c n t) : ts.Perm us :=
  (List.perm_ext_iff_of_nodup h1 h3).mpr fun t => by rw [h2, h4]
theorem here_bd {a b c n : Int} (f : FormS a b c) (hn : 0 ≤ n) (h : n ≤ 10000) {x y : Int} (e : MT.Wo a b c x y = n) : Bd x 8000 ∧ Bd y 8000 := by
  have bn : Bd n 14 := .of_lt (by omega)
  obtain ⟨h1, h2⟩ := col_bd (k := 1509) f.pos f.bar f.sa f.sb bn e.symm (by omega)
  exact ⟨h2.up _ (by decide), h1.up _ (by decide)⟩
theorem newton {n g : Int} (hn : 0 < n) (hg : 0 < g) : n < ((g + n / g) / 2 + 1) * ((g + n / g) / 2 + 1) := by
  have e1 := Int.mul_ediv_add_emod n g
  have e3 := Int.emod_lt_of_pos n hg
  generalize n / g = q at *
  have s := MS.sq_nn (g - (q + 1))
  have h1 : 4 * (g * (q + 1)) ≤ (g + q + 1) * (g + q + 1) := by
    have : (g + q + 1) * (g + q + 1) = 4 * (g * (q + 1)) + (g - (q + 1)) * (g - (q + 1)) := by grind
    omega
  have q0 : 0 ≤ q := by
    refine Int.not_lt.mp fun z => ?_
    have := Int.mul_le_mul_of_nonneg_left (show q ≤ -1 by omega) (Int.le_of_lt hg)
    omega
  have h2 : g + q + 1 ≤ 2 * ((g + q) / 2 + 1) := by omega
  have h3 := Int.mul_le_mul h2 h2 (by omega) (by omega)
  have h4 : 2 * ((g + q) / 2 + 1) * (2 * ((g + q) / 2 + 1)) = 4 * (((g + q) / 2 + 1) * ((g + q) / 2 + 1)) := by grind
  have h5 : g * (q + 1) = g * q + g := by grind
  omega
end CM
namespace CM
open PySem PySem.Spec L2 FL FT
def iOf : D → Int
  | .int z => z
  | _ => 0
end CM
namespace CM
open PySem PySem.Spec L2 FL FT
def plAt (ρ : Ro) (i : Nat) : Nat := match ρ[i]? with
  | some (some (.tup [.int x, .int y])) => x.natAbs + y.natAbs
  | _ => 0
theorem here_fz (ts : List (List Int)) : ∀ d ∈ ts.map tupI, Fz d := fun d hd => by
  obtain ⟨t, _, rfl⟩ := List.mem_map.mp hd
  exact fz_ints t
end CM
namespace CM
open PySem PySem.Spec L2 FL FT
def tOf : D → List Int
  | .tup ds => ds.map iOf
  | _ => []
theorem tOf_tup (t : List Int) : tOf (tupI t) = t := by
  unfold tOf
  dsimp only
  rw [List.map_map]
  exact List.map_id'' (fun _ => rfl) t
end CM
namespace FT
open PySem PySem.W PySem.Spec PySem.Calls PyProof.Rows L2 FL
theorem in_line {n : Nat} (h : n ≤ 1000000) : n ≤ sizeLine := by
  rw [sizeLine_eq]
  omega
theorem srt_nil : srt [] = [] := List.eq_nil_of_length_eq_zero (srt_len [])
end FT

/-! C9: the lists of a bar in their order; what an asker's function keeps -/
namespace CM
open PySem PySem.Spec L2 FL FT MG
def lfLt (q r : Q) : Prop := q.a < r.a ∨ (q.a = r.a ∧ q.b < r.b)
theorem lfN_sorted (i a : Int) (n : Nat) : (lfN i a n).Pairwise lfLt := by
  unfold lfN
  rw [List.pairwise_map]
  refine List.Pairwise.filter _ ?_
  rw [List.pairwise_map]
  exact List.pairwise_lt_range.imp fun {x y} h => .inr ⟨rfl, by show -a + (x : Int) < -a + (y : Int); omega⟩
theorem LF_sorted (i : Int) : (LF i).Pairwise lfLt := by
  unfold LF lfs
  rw [List.pairwise_flatMap]
  refine ⟨fun t _ => lfN_sorted _ _ _, List.pairwise_lt_range.imp fun {x y} h q hq r hr => .inl ?_⟩
  have h1 := ((mem_lfA (by omega)).mp hq).1
  have h2 := ((mem_lfA (by omega)).mp hr).1
  omega
theorem qOf_qD (q : Q) : qOf (qD q) = q := rfl
theorem cls_small {i : Int} (h : BarL i) {q : Q} (hq : q ∈ clsL i) : FormS q.a q.b q.c := lf_small h (List.mem_filter.mp hq).1
end CM

/-! MD: how many ways a number is worth -/
namespace MD
open MG MJ MP
/-- at how many places a form is worth n -/
def rr (f : Q) (n : Int) : Nat := (MS.PL f.a f.b f.c n).length
theorem Ok.neg {D : Int} {f : Q} (hD : D < 0) (o : Ok D f) : f.b * f.b - 4 * f.a * f.c < 0 := by rw [o.bar]; exact hD
theorem mem {D : Int} {f : Q} {n : Int} (hD : D < 0) (o : Ok D f) (hn : 0 ≤ n) (t : List Int) : t ∈ MS.PL f.a f.b f.c n ↔ ∃ x y, t = [x, y] ∧ W f.a f.b f.c x y = n := MS.mem_PL o.pos (Ok.neg hD o) hn t
theorem nod {D : Int} {f : Q} {n : Int} (o : Ok D f) : (MS.PL f.a f.b f.c n).Nodup := MS.PL_nodup o.pos
/-- one list from another -/
theorem len_map {l m : List (List Int)} (g : List Int → List Int) (hl : l.Nodup) (hm : m.Nodup) (inj : ∀ x ∈ l, ∀ y ∈ l, g x = g y → x = y) (h : ∀ t, t ∈ m ↔ ∃ u ∈ l, g u = t) : m.length = l.length := by
  have n2 : (l.map g).Nodup := by
    unfold List.Nodup at hl ⊢
    rw [List.pairwise_map]
    exact hl.imp_of_mem fun {a b} ha hb ne e => ne (inj a ha b hb e)
  have p : m.Perm (l.map g) := (List.perm_ext_iff_of_nodup hm n2).mpr fun t => by rw [h, List.mem_map]
  rw [p.length_eq, List.length_map]
theorem rr_eqv {D : Int} {f g : Q} {n : Int} (hD : D < 0) (o : Ok D f) (e : Eqv f g) (hn : 0 ≤ n) : rr f n = rr g n := by
  have o' := o.eqv hD e
  obtain ⟨p, q, r, s, l⟩ := e
  refine len_map (MS.sn p q r s) (nod o') (nod o) (fun x hx y hy z => ?_) fun t => ?_
  · obtain ⟨x1, x2, rfl, _⟩ := (mem hD o' hn x).mp hx
    obtain ⟨y1, y2, rfl, _⟩ := (mem hD o' hn y).mp hy
    obtain ⟨e1, e2⟩ := MS.sn_inj l.det z
    rw [e1, e2]
  · rw [mem hD o hn]
    constructor
    · rintro ⟨x, y, rfl, e⟩
      have d := l.det
      refine ⟨[s * x - q * y, p * y - r * x], (mem hD o' hn _).mpr ⟨_, _, rfl, ?_⟩, ?_⟩
      · rw [l.at]
        have e1 : p * (s * x - q * y) + q * (p * y - r * x) = (p * s - q * r) * x := by grind
        have e2 : r * (s * x - q * y) + s * (p * y - r * x) = (p * s - q * r) * y := by grind
        rw [e1, e2, d, Int.one_mul, Int.one_mul]
        exact e
      · unfold MS.sn
        have e1 : p * (s * x - q * y) + q * (p * y - r * x) = (p * s - q * r) * x := by grind
        have e2 : r * (s * x - q * y) + s * (p * y - r * x) = (p * s - q * r) * y := by grind
        dsimp only
        rw [e1, e2, d, Int.one_mul, Int.one_mul]
    · rintro ⟨u, hu, rfl⟩
      obtain ⟨x, y, rfl, e⟩ := (mem hD o' hn u).mp hu
      exact ⟨_, _, rfl, by rw [← l.at]; exact e⟩
def X0 (t : List Int) : Int := t.getD 0 0
def Y0 (t : List Int) : Int := t.getD 1 0
/-- the places of p n on the line x = 0 by p -/
theorem line {D a b k n : Int} {p : Int} (hp : 0 < p) (hD : D < 0) (o : Ok D ⟨a, b, p * k⟩) (hn : 0 ≤ n) :
    ((MS.PL a b (p * k) (p * n)).filter fun t => decide (p ∣ X0 t)).length = rr ⟨p * a, b, k⟩ n := by
  have ba := o.bar
  have pa := o.pos
  dsimp only at ba pa
  have o' : Ok D ⟨p * a, b, k⟩ := ⟨Int.mul_pos hp pa, by dsimp only; rw [← ba]; grind⟩
  have pn : 0 ≤ p * n := Int.mul_nonneg (Int.le_of_lt hp) hn
  refine len_map (MS.sn p 0 0 1) (nod o') ((nod (n := p * n) o).filter _) (fun x hx y hy z => ?_) fun t => ?_
  · obtain ⟨x1, x2, rfl, _⟩ := (mem hD o' hn x).mp hx
    obtain ⟨y1, y2, rfl, _⟩ := (mem hD o' hn y).mp hy
    unfold MS.sn at z
    injection z with z1 z
    injection z with z2 _
    have e1 : x1 = y1 := Int.eq_of_mul_eq_mul_left (show p ≠ 0 by omega) (by omega)
    have e2 : x2 = y2 := by omega
    rw [e1, e2]
  · rw [List.mem_filter]
    constructor
    · rintro ⟨h1, h2⟩
      obtain ⟨x, y, rfl, e⟩ := (mem hD o pn t).mp h1
      obtain ⟨z, hz⟩ : p ∣ x := of_decide_eq_true h2
      dsimp only at e
      refine ⟨[z, y], (mem hD o' hn _).mpr ⟨z, y, rfl, ?_⟩, ?_⟩
      · dsimp only
        refine Int.eq_of_mul_eq_mul_left (show p ≠ 0 by omega) ?_
        rw [← e, hz]
        unfold W
        grind
      · unfold MS.sn
        dsimp only
        rw [hz]
        simp
    · rintro ⟨u, hu, rfl⟩
      obtain ⟨x, y, rfl, e⟩ := (mem hD o' hn u).mp hu
      dsimp only at e
      refine ⟨(mem hD o pn _).mpr ⟨_, _, rfl, ?_⟩, ?_⟩
      · dsimp only
        rw [← e]
        unfold W
        grind
      · refine decide_eq_true ?_
        show p ∣ p * x + 0 * y
        exact ⟨x, by omega⟩
/-- the places of p n that are p times a place -/
theorem both {D n : Int} {f : Q} {p : Int} (hp : 0 < p) (hD : D < 0) (o : Ok D f) (hn : 0 ≤ n) :
    ((MS.PL f.a f.b f.c (p * n)).filter fun t => decide (p ∣ X0 t) && decide (p ∣ Y0 t)).length = if p ∣ n then rr f (n / p) else 0 := by
  have pn : 0 ≤ p * n := Int.mul_nonneg (Int.le_of_lt hp) hn
  have key : ∀ x y : Int, W f.a f.b f.c (p * x) (p * y) = p * (p * W f.a f.b f.c x y) := fun x y => by unfold W; grind
  by_cases h : p ∣ n
  · rw [if_pos h]
    obtain ⟨m, hm⟩ := h
    have em : n / p = m := by rw [hm]; exact Int.mul_ediv_cancel_left _ (by omega)
    have m0 : 0 ≤ m := by
      rw [← em]
      exact Int.ediv_nonneg hn (Int.le_of_lt hp)
    rw [em]
    refine len_map (MS.sn p 0 0 p) (nod o) ((nod (n := p * n) o).filter _) (fun x hx y hy z => ?_) fun t => ?_
    · obtain ⟨x1, x2, rfl, _⟩ := (mem hD o m0 x).mp hx
      obtain ⟨y1, y2, rfl, _⟩ := (mem hD o m0 y).mp hy
      unfold MS.sn at z
      injection z with z1 z
      injection z with z2 _
      have e1 : x1 = y1 := Int.eq_of_mul_eq_mul_left (show p ≠ 0 by omega) (by omega)
      have e2 : x2 = y2 := Int.eq_of_mul_eq_mul_left (show p ≠ 0 by omega) (by omega)
      rw [e1, e2]
    · rw [List.mem_filter]
      constructor
      · rintro ⟨h1, h2⟩
        obtain ⟨x, y, rfl, e⟩ := (mem hD o pn t).mp h1
        simp only [Bool.and_eq_true, decide_eq_true_eq] at h2
        obtain ⟨⟨z, hz⟩, ⟨w, hw⟩⟩ := h2
        have hz' : x = p * z := hz
        have hw' : y = p * w := hw
        refine ⟨[z, w], (mem hD o m0 _).mpr ⟨z, w, rfl, ?_⟩, ?_⟩
        · rw [hz', hw', key] at e
          have e1 := Int.eq_of_mul_eq_mul_left (show p ≠ 0 by omega) e
          rw [hm] at e1
          exact Int.eq_of_mul_eq_mul_left (show p ≠ 0 by omega) e1
        · unfold MS.sn
          dsimp only
          rw [hz', hw']
          simp
      · rintro ⟨u, hu, rfl⟩
        obtain ⟨x, y, rfl, e⟩ := (mem hD o m0 u).mp hu
        have e0 : MS.sn p 0 0 p [x, y] = [p * x, p * y] := by unfold MS.sn; simp
        rw [e0]
        refine ⟨(mem hD o pn _).mpr ⟨_, _, rfl, by rw [key, e, hm]⟩, ?_⟩
        simp only [Bool.and_eq_true, decide_eq_true_eq]
        exact ⟨⟨x, rfl⟩, ⟨y, rfl⟩⟩
  · rw [if_neg h]
    refine List.length_eq_zero_iff.mpr (List.eq_nil_iff_forall_not_mem.mpr fun t ht => h ?_)
    obtain ⟨h1, h2⟩ := List.mem_filter.mp ht
    obtain ⟨x, y, rfl, e⟩ := (mem hD o pn t).mp h1
    simp only [Bool.and_eq_true, decide_eq_true_eq] at h2
    obtain ⟨⟨z, hz⟩, ⟨w, hw⟩⟩ := h2
    have hz' : x = p * z := hz
    have hw' : y = p * w := hw
    rw [hz', hw', key] at e
    exact ⟨_, (Int.eq_of_mul_eq_mul_left (show p ≠ 0 by omega) e).symm⟩
theorem two_filters {α : Type} (P R : α → Bool) : ∀ (l : List α), (∀ x ∈ l, P x = true ∨ R x = true) → l.length + (l.filter fun x => P x && R x).length = (l.filter P).length + (l.filter R).length
  | [], _ => rfl
  | x :: l, h => by
    have ih := two_filters P R l fun y hy => h y (List.mem_cons_of_mem _ hy)
    have hx := h x (List.mem_cons_self ..)
    rw [List.filter_cons, List.filter_cons, List.filter_cons]
    cases p : P x <;> cases r : R x <;> simp_all <;> omega
/-- the first line and the second -/
theorem split {D a b k n : Int} {p : Nat} (hp : Pr p) (hD : D < 0) (o : Ok D ⟨a, b, (p : Int) * k⟩) (hb : ¬ (p : Int) ∣ b) (hn : 0 ≤ n) :
    rr ⟨a, b, (p : Int) * k⟩ ((p : Int) * n) + (if (p : Int) ∣ n then rr ⟨a, b, (p : Int) * k⟩ (n / p) else 0) = rr ⟨(p : Int) * a, b, k⟩ n + ((MS.PL a b ((p : Int) * k) ((p : Int) * n)).filter fun t => decide ((p : Int) ∣ a * X0 t + b * Y0 t)).length := by
  have p0 : (0 : Int) < p := by have := hp.1; omega
  have pn : 0 ≤ (p : Int) * n := Int.mul_nonneg (Int.le_of_lt p0) hn
  rw [← line p0 hD o hn, ← both p0 hD o hn]
  have e : ((MS.PL a b ((p : Int) * k) ((p : Int) * n)).filter fun t => decide ((p : Int) ∣ X0 t) && decide ((p : Int) ∣ Y0 t)) = (MS.PL a b ((p : Int) * k) ((p : Int) * n)).filter fun t => decide ((p : Int) ∣ X0 t) && decide ((p : Int) ∣ a * X0 t + b * Y0 t) := by
    refine List.filter_congr fun t _ => ?_
    by_cases h : (p : Int) ∣ X0 t
    · rw [decide_eq_true h, Bool.true_and, Bool.true_and]
      refine decide_eq_decide.mpr ⟨fun z => Int.dvd_add (Int.dvd_mul_of_dvd_right h) (Int.dvd_mul_of_dvd_right z), fun z => ?_⟩
      have : (p : Int) ∣ b * Y0 t := by
        have := Int.dvd_sub z (show (p : Int) ∣ a * X0 t from Int.dvd_mul_of_dvd_right h)
        rwa [show a * X0 t + b * Y0 t - a * X0 t = b * Y0 t by omega] at this
      rcases hp.imul this with q | q
      · exact absurd q hb
      · exact q
    · rw [decide_eq_false h, Bool.false_and, Bool.false_and]
  rw [e]
  refine two_filters _ _ _ fun t ht => ?_
  obtain ⟨x, y, rfl, e⟩ := (mem hD o pn t).mp ht
  dsimp only at e
  have : (p : Int) ∣ x * (a * x + b * y) := ⟨n - k * y * y, by
    have : x * (a * x + b * y) = W a b ((p : Int) * k) x y - (p : Int) * k * y * y := by unfold W; grind
    rw [this, e]
    grind⟩
  rcases hp.imul this with q | q
  · exact .inl (decide_eq_true q)
  · exact .inr (decide_eq_true q)
/-- the second line is another form's first -/
theorem second {D a b k a' b' k' n : Int} {p : Nat} (hp : Pr p) (hD : D < 0) (hpD : ¬ (p : Int) ∣ D) (o : Ok D ⟨a, b, (p : Int) * k⟩) (e : Eqv ⟨a, b, (p : Int) * k⟩ ⟨a', b', (p : Int) * k'⟩) (hb : ∃ t, b' = -b + 2 * (p : Int) * t) (hn : 0 ≤ n) :
    ((MS.PL a b ((p : Int) * k) ((p : Int) * n)).filter fun t => decide ((p : Int) ∣ a * X0 t + b * Y0 t)).length = rr ⟨(p : Int) * a', b', k'⟩ n := by
  have p0 : (0 : Int) < p := by have := hp.1; omega
  have pn : 0 ≤ (p : Int) * n := Int.mul_nonneg (Int.le_of_lt p0) hn
  have o' := o.eqv hD e
  have ba := o.bar
  dsimp only at ba
  obtain ⟨x, q, y, s, l⟩ := e
  obtain ⟨t, ht⟩ := hb
  have d := l.det
  have e2 := l.e2
  have e3 := l.e3
  dsimp only at e2 e3
  have nab : ∀ u v : Int, (p : Int) ∣ a → (p : Int) ∣ b → False := fun u v h1 h2 => hpD (by
    rw [← ba]
    exact Int.dvd_sub (Int.dvd_mul_of_dvd_left h2) (by
      rw [show 4 * a * ((p : Int) * k) = a * (4 * ((p : Int) * k)) by grind]
      exact Int.dvd_mul_of_dvd_left h1))
  have d1 : (p : Int) ∣ q * (a * q + b * s) := ⟨k' - k * s * s, by
    have : q * (a * q + b * s) = W a b ((p : Int) * k) q s - (p : Int) * k * s * s := by unfold W; grind
    rw [this, ← e3]
    grind⟩
  have d2 : (p : Int) ∣ x * (a * q + b * s) := ⟨t - k * y * s, by
    have h2 : 2 * (x * (a * q + b * s)) = 2 * ((p : Int) * (t - k * y * s)) := by
      have : b' + b = 2 * a * x * q + b * (2 * (x * s)) + 2 * ((p : Int) * k) * y * s := by
        rw [e2]
        have h3 : x * s + q * y + 1 = 2 * (x * s) := by omega
        have h4 : b * (x * s + q * y) + b = b * (2 * (x * s)) := by rw [← h3]; grind
        omega
      grind
    omega⟩
  have d3 : (p : Int) ∣ a * q + b * s := by
    rcases hp.imul d1 with h | h
    · rcases hp.imul d2 with h' | h'
      · exact (hp.one (by rw [← d]; exact Int.dvd_sub (Int.dvd_mul_of_dvd_left h') (Int.dvd_mul_of_dvd_left h))).elim
      · exact h'
    · exact h
  have d4 : ¬ (p : Int) ∣ a * x + b * y := fun h => by
    refine nab 0 0 ?_ ?_
    · have : a = s * (a * x + b * y) - y * (a * q + b * s) := by
        have : s * (a * x + b * y) - y * (a * q + b * s) = a * (x * s - q * y) := by grind
        rw [this, d, Int.mul_one]
      rw [this]
      exact Int.dvd_sub (Int.dvd_mul_of_dvd_right h) (Int.dvd_mul_of_dvd_right d3)
    · have : b = x * (a * q + b * s) - q * (a * x + b * y) := by
        have : x * (a * q + b * s) - q * (a * x + b * y) = b * (x * s - q * y) := by grind
        rw [this, d, Int.mul_one]
      rw [this]
      exact Int.dvd_sub (Int.dvd_mul_of_dvd_right d3) (Int.dvd_mul_of_dvd_right h)
  rw [← line p0 hD o' hn]
  refine len_map (MS.sn x q y s) ((nod (n := (p : Int) * n) o').filter _) ((nod (n := (p : Int) * n) o).filter _) (fun u hu v hv z => ?_) fun w => ?_
  · obtain ⟨x1, x2, rfl, _⟩ := (mem hD o' pn u).mp (List.mem_filter.mp hu).1
    obtain ⟨y1, y2, rfl, _⟩ := (mem hD o' pn v).mp (List.mem_filter.mp hv).1
    obtain ⟨z1, z2⟩ := MS.sn_inj d z
    rw [z1, z2]
  · have key : ∀ X Y : Int, (p : Int) ∣ a * (x * X + q * Y) + b * (y * X + s * Y) ↔ (p : Int) ∣ X := fun X Y => by
      have : a * (x * X + q * Y) + b * (y * X + s * Y) = (a * x + b * y) * X + (a * q + b * s) * Y := by grind
      rw [this]
      constructor
      · intro h
        have h2 := Int.dvd_sub h (show (p : Int) ∣ (a * q + b * s) * Y from Int.dvd_mul_of_dvd_left d3)
        rw [Int.add_sub_cancel] at h2
        rcases hp.imul h2 with z | z
        · exact absurd z d4
        · exact z
      · intro h
        exact Int.dvd_add (Int.dvd_mul_of_dvd_right h) (Int.dvd_mul_of_dvd_left d3)
    rw [List.mem_filter]
    constructor
    · rintro ⟨h1, h2⟩
      obtain ⟨X, Y, rfl, e⟩ := (mem hD o pn w).mp h1
      dsimp only at e
      have e1 : x * (s * X - q * Y) + q * (x * Y - y * X) = (x * s - q * y) * X := by grind
      have e2 : y * (s * X - q * Y) + s * (x * Y - y * X) = (x * s - q * y) * Y := by grind
      rw [d, Int.one_mul] at e1 e2
      refine ⟨[s * X - q * Y, x * Y - y * X], List.mem_filter.mpr ⟨(mem hD o' pn _).mpr ⟨_, _, rfl, ?_⟩, ?_⟩, ?_⟩
      · rw [l.at, e1, e2]
        exact e
      · refine decide_eq_true ((key (s * X - q * Y) (x * Y - y * X)).mp ?_)
        rw [e1, e2]
        exact of_decide_eq_true h2
      · unfold MS.sn
        dsimp only
        rw [e1, e2]
    · rintro ⟨u, hu, rfl⟩
      obtain ⟨h1, h2⟩ := List.mem_filter.mp hu
      obtain ⟨X, Y, rfl, e⟩ := (mem hD o' pn u).mp h1
      refine ⟨(mem hD o pn _).mpr ⟨_, _, rfl, by rw [← l.at]; exact e⟩, decide_eq_true ?_⟩
      exact (key X Y).mpr (of_decide_eq_true h2)
end MD
namespace MD
open MG MJ MP
theorem rep_at {D : Int} {f : Q} {b0 : Int} {p : Nat} (hp : Pr p) (o : Ok D f) (hb : Bare f) (h4 : 4 * (p : Int) ∣ b0 * b0 - D) : ∃ a b k u : Int, Eqv f ⟨a, b, (p : Int) * k⟩ ∧ b = b0 + 2 * (p : Int) * u := by
  have p0 : (0 : Int) < p := by have := hp.1; omega
  obtain ⟨g, e, hg⟩ := cop_rep (N := p) (by omega) hb
  obtain ⟨z, hz⟩ := h4
  have gb : g.b * g.b - 4 * g.a * g.c = D := by rw [e.bar]; exact o.bar
  have par : ∃ w, g.b - b0 = 2 * w := by
    have : (g.b - b0) * (g.b + b0) = 4 * (g.a * g.c - (p : Int) * z) := by grind
    have hh : (2 : Int) ∣ (g.b - b0) * (g.b + b0) := ⟨2 * (g.a * g.c - (p : Int) * z), by omega⟩
    rcases Int.emod_two_eq (g.b - b0) with r | r
    · exact ⟨(g.b - b0) / 2, by omega⟩
    · exfalso
      have r2 : (g.b + b0) % 2 = 1 := by omega
      obtain ⟨m, hm⟩ := hh
      have := Int.mul_emod (g.b - b0) (g.b + b0) 2
      rw [r, r2, hm] at this
      omega
  obtain ⟨w, hw⟩ := par
  obtain ⟨t, u, htu⟩ := crt (a := g.a) (d := p) (x := w) (y := 0) hg
  have e2 := e.trans (shift_eqv g t)
  have eb : g.b + 2 * g.a * t = b0 + 2 * (p : Int) * u := by
    have : 2 * (g.a * t) = 2 * g.a * t := by grind
    have : 2 * ((p : Int) * u) = 2 * (p : Int) * u := by grind
    omega
  have bar := e2.bar
  rw [o.bar] at bar
  dsimp only at bar
  generalize g.c + t * (g.b + g.a * t) = c' at *
  rw [eb] at e2 bar
  have dv : (p : Int) ∣ g.a * c' := ⟨z + b0 * u + (p : Int) * u * u, by
    have h1 : 4 * (g.a * c') = 4 * ((p : Int) * (z + b0 * u + (p : Int) * u * u)) := by grind
    omega⟩
  have nd : ¬ (p : Int) ∣ g.a := fun h => by
    have h1 : (p : Int) ∣ ((Int.gcd g.a p : Nat) : Int) := Int.dvd_coe_gcd h (Int.dvd_refl _)
    rw [hg] at h1
    exact hp.one h1
  rcases hp.imul dv with h | ⟨k, hk⟩
  · exact absurd h nd
  · refine ⟨g.a, _, k, u, ?_, rfl⟩
    rw [hk] at e2
    exact e2
theorem ndvd_b {D b0 z : Int} {p : Nat} (hp : Pr p) (hpD : ¬ (p : Int) ∣ D) (hz : b0 * b0 - D = 4 * (p : Int) * z) : ¬ (p : Int) ∣ b0 := fun h => hpD (by
  have : D = b0 * b0 - (p : Int) * (4 * z) := by grind
  rw [this]
  exact Int.dvd_sub (Int.dvd_mul_of_dvd_left h) ⟨_, rfl⟩)
theorem pform {D b0 z : Int} {p : Nat} (hp : Pr p) (hpD : ¬ (p : Int) ∣ D) (hz : b0 * b0 - D = 4 * (p : Int) * z) : Ok D ⟨p, b0, z⟩ ∧ Bare ⟨p, b0, z⟩ := by
  have p0 : (0 : Int) < p := by have := hp.1; omega
  refine ⟨⟨p0, by dsimp only; omega⟩, ?_⟩
  obtain ⟨w, hw⟩ := hp.inv (ndvd_b hp hpD hz)
  obtain ⟨v, hv⟩ := hw
  exact ⟨-v, w, 0, by dsimp only; grind⟩
theorem to_prod {D b0 z a b k u : Int} {p : Nat} (hB : BarD D) (hp : Pr p) (hpD : ¬ (p : Int) ∣ D) (hz : b0 * b0 - D = 4 * (p : Int) * z) {x P : C D} (eP : Eqv ⟨p, b0, z⟩ P.1) (e : Eqv x.1 ⟨a, b, (p : Int) * k⟩) (eb : b = b0 + 2 * (p : Int) * u) {n : Int} (hn : 0 ≤ n) :
    rr ⟨(p : Int) * a, b, k⟩ n = rr ((grp hB).mul x P).1 n := by
  have hD := hB.neg
  have p0 : (0 : Int) < p := by have := hp.1; omega
  obtain ⟨oP, bP⟩ := pform hp hpD hz
  have o1 := x.2.ok.eqv hD e
  have b1 := x.2.bare.eqv e
  have ob := o1.bar
  dsimp only at ob
  have e2 : Eqv ⟨p, b0, z⟩ ⟨p, b, a * k⟩ := shift_to (t := u) p0 oP.bar (by rw [eb]) (by rw [← ob]; grind)
  have c := cp_agree a b p k
  have o3 : Ok D ⟨a * p, b, k⟩ := ⟨Int.mul_pos o1.pos p0, by dsimp only; rw [← ob]; grind⟩
  have o2 := oP.eqv hD e2
  have c1 := c.pull hD o1 o2 o3 e.symm
  have c2 := c1.pull2 hD x.2.ok o2 o3 (e2.symm.trans eP)
  have q := c2.one hD (grp_mul hB x P) x.2.ok P.2.ok o3 ((grp hB).mul x P).2.ok x.2.bare
  have r := rr_eqv hD o3 q hn
  rw [Int.mul_comm a] at r
  exact r
theorem step_split {D b0 : Int} {p : Nat} (hB : BarD D) (hp : Pr p) (hpD : ¬ (p : Int) ∣ D) (h4 : 4 * (p : Int) ∣ b0 * b0 - D) : ∃ P P' : C D, ∀ (x : C D) (n : Int), 0 ≤ n →
    rr x.1 ((p : Int) * n) + (if (p : Int) ∣ n then rr x.1 (n / p) else 0) = rr ((grp hB).mul x P).1 n + rr ((grp hB).mul x P').1 n := by
  have hD := hB.neg
  have p0 : (0 : Int) < p := by have := hp.1; omega
  have h4' : 4 * (p : Int) ∣ -b0 * -b0 - D := by
    rw [show -b0 * -b0 = b0 * b0 by grind]
    exact h4
  obtain ⟨z, hz⟩ := h4
  have hz' : -b0 * -b0 - D = 4 * (p : Int) * z := by
    rw [show -b0 * -b0 = b0 * b0 by grind]
    exact hz
  obtain ⟨oP, bP⟩ := pform hp hpD hz
  obtain ⟨oP', bP'⟩ := pform hp hpD hz'
  obtain ⟨g, eg, cg⟩ := cls_ex hD oP bP
  obtain ⟨g', eg', cg'⟩ := cls_ex hD oP' bP'
  refine ⟨⟨g, cg⟩, ⟨g', cg'⟩, fun x n hn => ?_⟩
  obtain ⟨a, b, k, u, e, eb⟩ := rep_at hp x.2.ok x.2.bare ⟨z, hz⟩
  obtain ⟨a', b', k', u', e', eb'⟩ := rep_at hp x.2.ok x.2.bare h4'
  have o1 := x.2.ok.eqv hD e
  have pn : 0 ≤ (p : Int) * n := Int.mul_nonneg (Int.le_of_lt p0) hn
  have nb : ¬ (p : Int) ∣ b := fun h => ndvd_b hp hpD hz (by
    rw [show b0 = b - (p : Int) * (2 * u) by rw [eb]; grind]
    exact Int.dvd_sub h ⟨_, rfl⟩)
  have s1 := split hp hD o1 nb hn
  have s2 := second hp hD hpD o1 (e.symm.trans e') ⟨u + u', by rw [eb, eb']; grind⟩ hn
  have t1 := to_prod hB hp hpD hz (P := ⟨g, cg⟩) eg e eb hn
  have t2 := to_prod hB hp hpD hz' (P := ⟨g', cg'⟩) eg' e' eb' hn
  rw [s2, ← rr_eqv hD x.2.ok e pn, t1, t2] at s1
  rw [← s1]
  by_cases h : (p : Int) ∣ n
  · rw [if_pos h, if_pos h, rr_eqv hD x.2.ok e (Int.ediv_nonneg hn (Int.le_of_lt p0))]
  · rw [if_neg h, if_neg h]
/-- a place by p gives a root by p -/
theorem root_at {D : Int} {f : Q} {x y : Int} {p : Nat} (hp : Pr p) (o : Ok D f) (h : (p : Int) ∣ W f.a f.b f.c x y) (hxy : ¬ ((p : Int) ∣ x ∧ (p : Int) ∣ y)) : ∃ b0 : Int, 4 * (p : Int) ∣ b0 * b0 - D := by
  have ob := o.bar
  obtain ⟨m, hm⟩ := h
  by_cases hy : (p : Int) ∣ y
  · have hx : ¬ (p : Int) ∣ x := fun z => hxy ⟨z, hy⟩
    obtain ⟨v, w, hw⟩ := hp.inv hx
    refine ⟨2 * f.c * (y * v) + f.b, f.c * (m * (v * v) - w * (f.a * (x * v) + f.a + f.b * (y * v))), ?_⟩
    unfold W at hm
    have h1 : x * v = (p : Int) * w + 1 := by omega
    grind
  · obtain ⟨v, w, hw⟩ := hp.inv hy
    refine ⟨2 * f.a * (x * v) + f.b, f.a * (m * (v * v) - w * (f.c * (y * v) + f.c + f.b * (x * v))), ?_⟩
    unfold W at hm
    have h1 : y * v = (p : Int) * w + 1 := by omega
    grind
theorem step_inert {D n : Int} {f : Q} {p : Nat} (hp : Pr p) (hD : D < 0) (o : Ok D f) (hno : ¬ ∃ b0 : Int, 4 * (p : Int) ∣ b0 * b0 - D) (hn : 0 ≤ n) : rr f ((p : Int) * n) = if (p : Int) ∣ n then rr f (n / p) else 0 := by
  have p0 : (0 : Int) < p := by have := hp.1; omega
  have pn : 0 ≤ (p : Int) * n := Int.mul_nonneg (Int.le_of_lt p0) hn
  rw [← both p0 hD o hn]
  unfold rr
  congr 1
  refine (List.filter_eq_self.mpr fun t ht => ?_).symm
  obtain ⟨x, y, rfl, e⟩ := (mem hD o pn t).mp ht
  simp only [Bool.and_eq_true, decide_eq_true_eq]
  refine Decidable.byContradiction fun z => hno (root_at hp o (x := x) (y := y) ⟨n, e⟩ z)
end MD
namespace MD
open MG MJ MP CM
theorem mem_cls {i : Int} (hi : BarL i) {q : Q} : q ∈ clsL i ↔ Cls i q := by
  unfold clsL
  rw [List.mem_filter, mem_LF hi.low]
  unfold bareB
  constructor
  · rintro ⟨⟨o, L⟩, h⟩
    have := of_decide_eq_true h
    exact ⟨o, gcd_bare (by omega), L⟩
  · rintro ⟨o, b, L⟩
    refine ⟨⟨o, L⟩, decide_eq_true ?_⟩
    have := bare_gcd b
    omega
theorem cls_nodup (i : Int) : (clsL i).Nodup := by
  unfold clsL
  refine List.Pairwise.filter _ ((LF_sorted i).imp fun {x y} h e => ?_)
  subst e
  rcases h with h | ⟨_, h⟩ <;> omega
/-- in all ways -/
def R (i n : Int) : Nat := ((clsL i).map fun f => rr f n).sum
theorem sum_add {α : Type} (f g : α → Nat) : ∀ l : List α, (l.map fun x => f x + g x).sum = (l.map f).sum + (l.map g).sum
  | [] => rfl
  | x :: l => by
    simp only [List.map_cons, List.sum_cons]
    rw [sum_add f g l]
    omega
theorem sum_perm {l m : List Nat} (h : l.Perm m) : l.sum = m.sum := by
  induction h with
  | nil => rfl
  | cons x _ ih => simp only [List.sum_cons, ih]
  | swap x y l => simp only [List.sum_cons]; omega
  | trans _ _ a b => exact a.trans b
theorem sum_zero {α : Type} {f : α → Nat} : ∀ {l : List α}, (∀ x ∈ l, f x = 0) → (l.map f).sum = 0
  | [], _ => rfl
  | x :: l, h => by
    simp only [List.map_cons, List.sum_cons]
    rw [h x (List.mem_cons_self ..), sum_zero fun y hy => h y (List.mem_cons_of_mem _ hy)]
open Classical in
noncomputable def tr {i : Int} (hB : BarD i) (P : C i) (q : Q) : Q := if h : Cls i q then ((grp hB).mul ⟨q, h⟩ P).1 else q
theorem tr_at {i : Int} (hB : BarD i) (P : C i) {q : Q} (h : Cls i q) : tr hB P q = ((grp hB).mul ⟨q, h⟩ P).1 := dif_pos h
theorem tr_perm {i : Int} (hi : BarL i) (P : C i) : ((clsL i).map (tr hi.d P)).Perm (clsL i) := by
  have nd : ((clsL i).map (tr hi.d P)).Nodup := by
    have h1 := cls_nodup i
    unfold List.Nodup at h1 ⊢
    rw [List.pairwise_map]
    refine h1.imp_of_mem fun {x y} hx hy ne e => ne ?_
    have cx := (mem_cls hi).mp hx
    have cy := (mem_cls hi).mp hy
    rw [tr_at hi.d P cx, tr_at hi.d P cy] at e
    have := @mul_cancelR _ (grp hi.d) _ _ _ (Subtype.ext e)
    exact congrArg Subtype.val this
  refine (List.perm_ext_iff_of_nodup nd (cls_nodup i)).mpr fun q => ?_
  rw [List.mem_map]
  constructor
  · rintro ⟨x, hx, rfl⟩
    rw [tr_at hi.d P ((mem_cls hi).mp hx)]
    exact (mem_cls hi).mpr (Subtype.property _)
  · intro hq
    have cq := (mem_cls hi).mp hq
    obtain ⟨x, ex⟩ : ∃ x : C i, x.1 = q := ⟨⟨q, cq⟩, rfl⟩
    obtain ⟨y, ey⟩ : ∃ y : C i, y = (grp hi.d).mul x ((grp hi.d).inv P) := ⟨_, rfl⟩
    refine ⟨y.1, (mem_cls hi).mpr y.2, ?_⟩
    have this : (grp hi.d).mul y P = x := by
      rw [ey, (grp hi.d).assoc, @inv_mul _ (grp hi.d), (grp hi.d).mul_one]
    rw [← ex, ← this]
    exact tr_at hi.d P y.2
theorem sum_tr {i : Int} (hi : BarL i) (P : C i) (n : Int) : ((clsL i).map fun q => rr (tr hi.d P q) n).sum = R i n := by
  have := sum_perm ((tr_perm hi P).map fun f => rr f n)
  rw [List.map_map] at this
  exact this
theorem R_split {i b0 n : Int} {p : Nat} (hi : BarL i) (hp : Pr p) (hpD : ¬ (p : Int) ∣ i) (h4 : 4 * (p : Int) ∣ b0 * b0 - i) (hn : 0 ≤ n) : R i ((p : Int) * n) + (if (p : Int) ∣ n then R i (n / p) else 0) = 2 * R i n := by
  obtain ⟨P, P', h⟩ := step_split hi.d hp hpD h4
  have e1 : R i ((p : Int) * n) + (if (p : Int) ∣ n then R i (n / p) else 0) = ((clsL i).map fun f => rr f ((p : Int) * n) + (if (p : Int) ∣ n then rr f (n / p) else 0)).sum := by
    rw [sum_add]
    by_cases z : (p : Int) ∣ n
    · simp only [if_pos z]
      rfl
    · simp only [if_neg z]
      rw [sum_zero (f := fun _ => 0) fun _ _ => rfl]
      rfl
  have e2 : ((clsL i).map fun f => rr f ((p : Int) * n) + (if (p : Int) ∣ n then rr f (n / p) else 0)) = (clsL i).map fun f => rr (tr hi.d P f) n + rr (tr hi.d P' f) n := by
    refine List.map_congr_left fun f hf => ?_
    have c := (mem_cls hi).mp hf
    rw [tr_at hi.d P c, tr_at hi.d P' c]
    exact h ⟨f, c⟩ n hn
  rw [e1, e2, sum_add, sum_tr hi, sum_tr hi]
  omega
theorem R_inert {i n : Int} {p : Nat} (hi : BarL i) (hp : Pr p) (hno : ¬ ∃ b0 : Int, 4 * (p : Int) ∣ b0 * b0 - i) (hn : 0 ≤ n) : R i ((p : Int) * n) = if (p : Int) ∣ n then R i (n / p) else 0 := by
  have e : R i ((p : Int) * n) = ((clsL i).map fun f => if (p : Int) ∣ n then rr f (n / p) else 0).sum := by
    unfold R
    congr 1
    refine List.map_congr_left fun f hf => ?_
    exact step_inert hp hi.d.neg ((mem_cls hi).mp hf).ok hno hn
  rw [e]
  by_cases z : (p : Int) ∣ n
  · simp only [if_pos z]
    rfl
  · simp only [if_neg z]
    exact sum_zero fun _ _ => rfl
def wn (i : Int) : Nat := if i = -3 then 6 else if i = -4 then 4 else 2
theorem rr_nt {i : Int} (hB : BarD i) : rr (nt i) 1 = wn i := by
  have c := nt_cls hB.neg hB.four
  have neg := hB.neg
  unfold wn
  by_cases h3 : i = -3
  · rw [if_pos h3, h3]
    decide +kernel
  rw [if_neg h3]
  by_cases h4 : i = -4
  · rw [if_pos h4, h4]
    decide +kernel
  rw [if_neg h4]
  have i5 : i < -4 := by
    have := hB.four
    omega
  have M := mem hB.neg c.ok (n := 1) (by decide)
  have p : (MS.PL (nt i).a (nt i).b (nt i).c 1).Perm [[1, 0], [-1, 0]] := by
    refine (List.perm_ext_iff_of_nodup (nod c.ok) (by decide)).mpr fun t => ?_
    rw [M]
    have bar := c.ok.bar
    constructor
    · rintro ⟨x, y, rfl, e⟩
      have ea : (nt i).a = 1 := rfl
      rw [ea] at e bar
      generalize (nt i).b = b at *
      generalize (nt i).c = k at *
      have h4 : (2 * x + b * y) * (2 * x + b * y) + (-i) * (y * y) = 4 := by
        unfold W at e
        rw [← bar]
        grind
      have y0 : y = 0 := by
        refine Decidable.byContradiction fun z => ?_
        have s1 := MS.sq_nn (2 * x + b * y)
        have s2 := MT.sq_pos z
        have := Int.mul_le_mul_of_nonneg_left (show 1 ≤ y * y by omega) (show 0 ≤ -i by omega)
        omega
      subst y0
      have e2 : x * x = 1 := by
        unfold W at e
        simp at e
        omega
      have : x = 1 ∨ x = -1 := by
        have : (x - 1) * (x + 1) = 0 := by grind
        rcases Int.mul_eq_zero.mp this with z | z <;> omega
      rcases this with rfl | rfl <;> simp
    · intro h
      simp at h
      rcases h with rfl | rfl
      · exact ⟨1, 0, rfl, by unfold W nt; simp⟩
      · exact ⟨-1, 0, rfl, by unfold W nt; simp⟩
  unfold rr
  rw [p.length_eq]
  rfl
theorem sum_one {α : Type} {f : α → Nat} {a : α} : ∀ {l : List α}, l.Nodup → a ∈ l → (∀ x ∈ l, x ≠ a → f x = 0) → (l.map f).sum = f a
  | x :: l, nd, h, z => by
    simp only [List.map_cons, List.sum_cons]
    obtain ⟨n1, n2⟩ := List.nodup_cons.mp nd
    rcases List.mem_cons.mp h with rfl | h
    · rw [sum_zero fun y hy => z y (List.mem_cons_of_mem _ hy) fun e => n1 (e ▸ hy)]
      rfl
    · rw [z x (List.mem_cons_self ..) (fun e => n1 (e ▸ h)), sum_one n2 h fun y hy => z y (List.mem_cons_of_mem _ hy)]
      omega
theorem R_one {i : Int} (hi : BarL i) : R i 1 = wn i := by
  rw [← rr_nt hi.d]
  have cn := nt_cls hi.d.neg hi.d.four
  refine sum_one (f := fun f => rr f 1) (cls_nodup i) ((mem_cls hi).mpr cn) fun f hf ne => ?_
  have cf := (mem_cls hi).mp hf
  refine List.length_eq_zero_iff.mpr (List.eq_nil_iff_forall_not_mem.mpr fun t ht => ne ?_)
  obtain ⟨x, y, rfl, e⟩ := (mem hi.d.neg cf.ok (by decide) t).mp ht
  have xy : x ≠ 0 ∨ y ≠ 0 := by
    refine Decidable.byContradiction fun z => ?_
    have h1 : x = 0 := Decidable.byContradiction fun w => z (.inl w)
    have h2 : y = 0 := Decidable.byContradiction fun w => z (.inr w)
    subst h1 h2
    unfold W at e
    simp at e
  have g : f.a ≤ W f.a f.b f.c x y := MT.worth_ge_a cf.ok.pos cf.least xy
  have pa := cf.ok.pos
  have a1 : f.a = 1 := by omega
  have b1 := cf.ok.bar
  have b2 := cn.ok.bar
  have l1 := cf.least.lo
  have l2 := cf.least.hi
  obtain ⟨t, ht⟩ := bar_parity cf.ok
  have eb : f.b = i % 2 := by omega
  have : f.c = (nt i).c := by
    have e1 : (nt i).a = 1 := rfl
    have e2 : (nt i).b = i % 2 := rfl
    rw [a1, eb] at b1
    rw [e1, e2] at b2
    omega
  cases f
  unfold nt at this ⊢
  simp_all
end MD
namespace MD
open MG MJ MP CM
/-- the least divisor above 1 -/
def mf (n : Nat) : Nat := ((List.range (n + 1)).find? fun d => decide (2 ≤ d) && decide (d ∣ n)).getD n
theorem mf_spec {n : Nat} (h : 2 ≤ n) : 2 ≤ mf n ∧ mf n ∣ n ∧ ∀ d, 2 ≤ d → d ∣ n → mf n ≤ d := by
  unfold mf
  cases e : (List.range (n + 1)).find? fun d => decide (2 ≤ d) && decide (d ∣ n) with
  | none =>
    have := List.find?_eq_none.mp e n (List.mem_range.mpr (by omega))
    simp [h] at this
  | some m =>
    obtain ⟨h1, as, bs, h2, h3⟩ := List.find?_eq_some_iff_append.mp e
    simp only [Bool.and_eq_true, decide_eq_true_eq] at h1
    refine ⟨h1.1, h1.2, fun d d2 dn => Nat.not_lt.mp fun z => ?_⟩
    rw [Option.getD_some] at z
    have dl : d ≤ n := Nat.le_of_dvd (by omega) dn
    have md : d ∈ as := by
      have hm : d ∈ List.range (n + 1) := List.mem_range.mpr (by omega)
      have hs : (List.range (n + 1)).Pairwise (· < ·) := List.pairwise_lt_range
      rw [h2] at hm hs
      rcases List.mem_append.mp hm with q | q
      · exact q
      · have := List.pairwise_append.mp hs
        rcases List.mem_cons.mp q with q | q
        · omega
        · have := (List.pairwise_cons.mp this.2.1).1 d q
          omega
    have := h3 d md
    simp [d2, dn] at this
theorem mf_eq {n p : Nat} (h2 : 2 ≤ p) (hp : p ∣ n) (hn : 0 < n) (h : ∀ d, 2 ≤ d → d ∣ n → p ≤ d) : mf n = p := by
  have n2 : 2 ≤ n := Nat.le_trans h2 (Nat.le_of_dvd hn hp)
  obtain ⟨a, b, c⟩ := mf_spec n2
  exact Nat.le_antisymm (c p h2 hp) (h _ a b)
theorem mf_pr {n : Nat} (h : 2 ≤ n) : Pr (mf n) := by
  obtain ⟨a, b, c⟩ := mf_spec h
  refine ⟨a, fun d hd => ?_⟩
  by_cases z : d = 1
  · exact .inl z
  · right
    have d0 : 0 < d := Nat.pos_of_dvd_of_pos hd (by omega)
    exact Nat.le_antisymm (Nat.le_of_dvd (by omega) hd) (c d (by omega) (Nat.dvd_trans hd b))
theorem mf_lt {n : Nat} (h : ¬ n < 2) : n / mf n < n := Nat.div_lt_self (by omega) (mf_spec (by omega)).1
/-- the prime factors, the least first -/
def PF (n : Nat) : List Nat := if h : n < 2 then [] else mf n :: PF (n / mf n)
termination_by n
decreasing_by exact mf_lt h
theorem PF_small {n : Nat} (h : n < 2) : PF n = [] := by
  rw [PF, dif_pos h]
theorem PF_cons {p m : Nat} (h2 : 2 ≤ p) (hm : 0 < m) (h : ∀ d, 2 ≤ d → d ∣ p * m → p ≤ d) : PF (p * m) = p :: PF m := by
  have pm : 2 ≤ p * m := Nat.le_trans h2 (Nat.le_mul_of_pos_right p hm)
  have e := mf_eq h2 (Nat.dvd_mul_right p m) (by omega) h
  rw [PF, dif_neg (by omega), e, Nat.mul_div_cancel_left m (by omega)]
/-- how the bar stands to a prime -/
def sd (i : Int) (p : Nat) : Int := if p = 2 then (if i % 8 = 1 then 1 else -1) else (if i ^ (p / 2) % (p : Int) = 1 then 1 else -1)
def chi (i : Int) (n : Nat) : Int := prodZ ((PF n).map (sd i))
theorem chi_one (i : Int) : chi i 1 = 1 := by
  unfold chi
  rw [PF_small (by decide)]
  rfl
theorem chi_cons (i : Int) {p m : Nat} (h2 : 2 ≤ p) (hm : 0 < m) (h : ∀ d, 2 ≤ d → d ∣ p * m → p ≤ d) : chi i (p * m) = sd i p * chi i m := by
  unfold chi
  rw [PF_cons h2 hm h]
  rfl
theorem low_mul {p d m : Nat} (hp : Pr p) (hd : d ∣ m) (h : ∀ e, 2 ≤ e → e ∣ m → p ≤ e) : ∀ e, 2 ≤ e → e ∣ p * d → p ≤ e := fun e e2 he => by
  obtain ⟨q, hq, qe⟩ := pr_ex e e2
  have q1 : p ≤ q := by
    rcases hq.mul (Nat.dvd_trans qe he) with z | z
    · rcases hp.2 q z with w | w
      · have := hq.1; omega
      · omega
    · exact h q hq.1 (Nat.dvd_trans z hd)
  have e0 : 0 < e := by omega
  exact Nat.le_trans q1 (Nat.le_of_dvd e0 qe)
/-- sums from 1 on -/
def sm (N : Nat) (g : Nat → Int) : Int := match N with
  | 0 => 0
  | N + 1 => sm N g + g (N + 1)
theorem sm_congr {g h : Nat → Int} : ∀ (N : Nat), (∀ k, 1 ≤ k → k ≤ N → g k = h k) → sm N g = sm N h
  | 0, _ => rfl
  | N + 1, e => by
    unfold sm
    rw [sm_congr N fun k a b => e k a (by omega), e (N + 1) (by omega) (by omega)]
theorem sm_add (g h : Nat → Int) : ∀ N, sm N (fun k => g k + h k) = sm N g + sm N h
  | 0 => rfl
  | N + 1 => by
    unfold sm
    rw [sm_add g h N]
    omega
theorem sm_mul (c : Int) (g : Nat → Int) : ∀ N, sm N (fun k => c * g k) = c * sm N g
  | 0 => by unfold sm; omega
  | N + 1 => by
    unfold sm
    rw [sm_mul c g N, Int.mul_add]
theorem sm_zero {g : Nat → Int} : ∀ (N : Nat), (∀ k, 1 ≤ k → k ≤ N → g k = 0) → sm N g = 0
  | 0, _ => rfl
  | N + 1, e => by
    unfold sm
    rw [sm_zero N fun k a b => e k a (by omega), e (N + 1) (by omega) (by omega)]
    rfl
theorem sm_block (g : Nat → Int) (A : Nat) : ∀ B, sm (A + B) g = sm A g + sm B (fun j => g (A + j))
  | 0 => by unfold sm; simp
  | B + 1 => by
    show sm (A + B) g + g (A + B + 1) = sm A g + (sm B (fun j => g (A + j)) + g (A + (B + 1)))
    rw [sm_block g A B, Nat.add_assoc A B 1]
    omega
theorem sm_ext {g : Nat → Int} {N M : Nat} (h : N ≤ M) (z : ∀ k, N < k → k ≤ M → g k = 0) : sm M g = sm N g := by
  obtain ⟨B, rfl⟩ : ∃ B, M = N + B := ⟨M - N, by omega⟩
  rw [sm_block, sm_zero B fun k a b => z _ (by omega) (by omega)]
  omega
/-- over the multiples of p alone -/
theorem sm_mult {p : Nat} (hp : 0 < p) (h : Nat → Int) : ∀ N, sm (p * N) (fun k => if p ∣ k then h (k / p) else 0) = sm N h
  | 0 => rfl
  | N + 1 => by
    rw [Nat.mul_succ, sm_block, sm_mult hp h N]
    show _ = sm N h + h (N + 1)
    congr 1
    obtain ⟨q, rfl⟩ : ∃ q, p = q + 1 := ⟨p - 1, by omega⟩
    show sm q _ + _ = _
    rw [sm_zero q fun k a b => if_neg fun z => ?_]
    · have e : (q + 1) * N + (q + 1) = (q + 1) * (N + 1) := by rw [Nat.mul_succ]
      dsimp only
      rw [e, if_pos (Nat.dvd_mul_right _ _), Nat.mul_div_cancel_left _ (by omega)]
      omega
    · have := (Nat.dvd_add_right (Nat.dvd_mul_right (q + 1) N)).mp z
      have := Nat.le_of_dvd (by omega) this
      omega
def S (i : Int) (n : Nat) : Int := sm n fun d => if d ∣ n then chi i d else 0
theorem S_rec (i : Int) {p m : Nat} (hp : Pr p) (hm : 0 < m) (h : ∀ e, 2 ≤ e → e ∣ m → p ≤ e) : S i (p * m) = S i m + sd i p * S i m - sd i p * (if p ∣ m then S i (m / p) else 0) := by
  have p2 := hp.1
  have ml : m ≤ p * m := Nat.le_mul_of_pos_left m (by omega)
  have mult : ∀ d, 0 < d → d ∣ m → chi i (p * d) = sd i p * chi i d := fun d d0 hd => chi_cons i p2 d0 (low_mul hp hd h)
  have pt : ∀ k, 1 ≤ k → k ≤ p * m → (if k ∣ p * m then chi i k else 0) = (if k ∣ m then chi i k else 0) + ((if p ∣ k then (if k / p ∣ m then chi i (p * (k / p)) else 0) else 0) + (-1) * (if p ∣ k then (if p * (k / p) ∣ m then chi i (p * (k / p)) else 0) else 0)) := fun k k1 k2 => by
    by_cases pk : p ∣ k
    · obtain ⟨j, rfl⟩ := pk
      have e : p * j / p = j := Nat.mul_div_cancel_left j (by omega)
      simp only [if_pos (Nat.dvd_mul_right p j), e]
      have iff1 : p * j ∣ p * m ↔ j ∣ m := ⟨fun z => Nat.dvd_of_mul_dvd_mul_left (by omega) z, fun z => Nat.mul_dvd_mul_left p z⟩
      by_cases a : j ∣ m
      · rw [if_pos (iff1.mpr a), if_pos a]
        omega
      · rw [if_neg (fun z => a (iff1.mp z)), if_neg a]
        omega
    · simp only [if_neg pk]
      have iff1 : k ∣ p * m ↔ k ∣ m := by
        constructor
        · intro z
          have c : Nat.Coprime k p := by
            have := hp.cop pk
            rw [Nat.gcd_comm] at this
            exact this
          exact c.dvd_of_dvd_mul_left z
        · exact fun z => Nat.dvd_mul_left_of_dvd z p
      by_cases a : k ∣ m
      · rw [if_pos (iff1.mpr a), if_pos a]
        omega
      · rw [if_neg (fun z => a (iff1.mp z)), if_neg a]
        omega
  unfold S
  rw [sm_congr _ pt, sm_add, sm_add, sm_mul]
  have s1 : sm (p * m) (fun k => if k ∣ m then chi i k else 0) = sm m (fun k => if k ∣ m then chi i k else 0) := sm_ext ml fun k a b => if_neg fun z => by
    have := Nat.le_of_dvd hm z
    omega
  have s2 : sm (p * m) (fun k => if p ∣ k then (if k / p ∣ m then chi i (p * (k / p)) else 0) else 0) = sd i p * sm m (fun k => if k ∣ m then chi i k else 0) := by
    rw [sm_mult (by omega) (fun j => if j ∣ m then chi i (p * j) else 0) m, ← sm_mul]
    refine sm_congr m fun k a b => ?_
    by_cases z : k ∣ m
    · rw [if_pos z, if_pos z, mult k (by omega) z]
    · rw [if_neg z, if_neg z, Int.mul_zero]
  have s3 : sm (p * m) (fun k => if p ∣ k then (if p * (k / p) ∣ m then chi i (p * (k / p)) else 0) else 0) = sd i p * (if p ∣ m then sm (m / p) (fun k => if k ∣ m / p then chi i k else 0) else 0) := by
    rw [sm_mult (by omega) (fun j => if p * j ∣ m then chi i (p * j) else 0) m]
    by_cases pm : p ∣ m
    · rw [if_pos pm]
      obtain ⟨m', rfl⟩ := pm
      have e : p * m' / p = m' := Nat.mul_div_cancel_left m' (by omega)
      have m0 : 0 < m' := by
        rcases Nat.eq_zero_or_pos m' with z | z
        · rw [z] at hm
          omega
        · exact z
      rw [e, ← sm_mul]
      have iff1 : ∀ k, p * k ∣ p * m' ↔ k ∣ m' := fun k => ⟨fun z => Nat.dvd_of_mul_dvd_mul_left (by omega) z, fun z => Nat.mul_dvd_mul_left p z⟩
      have e2 : sm (p * m') (fun j => if p * j ∣ p * m' then chi i (p * j) else 0) = sm m' (fun j => if p * j ∣ p * m' then chi i (p * j) else 0) := by
        refine sm_ext (Nat.le_mul_of_pos_left m' (by omega)) fun k a b => if_neg fun z => ?_
        have := Nat.le_of_dvd m0 ((iff1 k).mp z)
        omega
      rw [e2]
      refine sm_congr m' fun k a b => ?_
      by_cases z : k ∣ m'
      · rw [if_pos ((iff1 k).mpr z), if_pos z, mult k (by omega) (Nat.dvd_mul_left_of_dvd z p)]
      · rw [if_neg (fun w => z ((iff1 k).mp w)), if_neg z, Int.mul_zero]
    · rw [if_neg pm, Int.mul_zero]
      exact sm_zero m fun k a b => if_neg fun z => pm (Nat.dvd_trans (Nat.dvd_mul_right p k) z)
  rw [s1, s2, s3]
  omega
theorem S_one (i : Int) : S i 1 = 1 := by
  unfold S sm sm
  rw [if_pos (by decide), chi_one]
  rfl
theorem sd_cases (i : Int) (p : Nat) : sd i p = 1 ∨ sd i p = -1 := by
  unfold sd
  split <;> split <;> simp
/-- a prime's side tells whether the bar has a root by it -/
theorem sd_root {i : Int} {p : Nat} (h4 : i % 4 = 0 ∨ i % 4 = 1) (hp : Pr p) (hl : p ≤ 10000) (hpD : ¬ (p : Int) ∣ i) : sd i p = 1 ↔ ∃ b0 : Int, 4 * (p : Int) ∣ b0 * b0 - i := by
  have p2 := hp.1
  by_cases e2 : p = 2
  · subst e2
    unfold sd
    rw [if_pos rfl]
    have odd : i % 2 = 1 := by
      have : ¬ (2 : Int) ∣ i := hpD
      omega
    constructor
    · intro h
      have h8 : i % 8 = 1 := Decidable.byContradiction fun z => by
        rw [if_neg z] at h
        omega
      exact ⟨1, (1 - i) / 8, by
        show 1 * 1 - i = 4 * 2 * _
        omega⟩
    · rintro ⟨b, z, hz⟩
      have hz' : b * b - i = 8 * z := by
        have : 4 * ((2 : Nat) : Int) * z = 8 * z := by
          show 4 * 2 * z = 8 * z
          omega
        omega
      have bo : b % 2 = 1 := by
        rcases Int.emod_two_eq b with q | q
        · have : b * b % 2 = 0 := by
            rw [Int.mul_emod, q]
            rfl
          omega
        · exact q
      have : b * b % 8 = 1 := by
        obtain ⟨k, rfl⟩ : ∃ k, b = 2 * k + 1 := ⟨b / 2, by omega⟩
        have e : (2 * k + 1) * (2 * k + 1) = 4 * (k * (k + 1)) + 1 := by grind
        obtain ⟨m, hm⟩ : ∃ m, k * (k + 1) = 2 * m := by
          rcases Int.emod_two_eq k with q | q
          · exact ⟨k / 2 * (k + 1), by
              have : k = 2 * (k / 2) := by omega
              conv => lhs; rw [this]
              grind⟩
          · exact ⟨k * ((k + 1) / 2), by
              have : k + 1 = 2 * ((k + 1) / 2) := by omega
              conv => lhs; rw [this]
              grind⟩
        rw [e, hm]
        omega
      rw [if_pos (show i % 8 = 1 by omega)]
  · have p3 : 3 ≤ p := by omega
    have PI : PrI (p : Int) := ⟨by omega, hp, by omega⟩
    have ni : i % (p : Int) ≠ 0 := fun z => hpD (Int.dvd_of_emod_eq_zero z)
    have M := mid_iff PI (by omega) h4 ni
    have one : (1 : Int) % (p : Int) = 1 := Int.emod_eq_of_lt (by decide) (by omega)
    have en : ((p : Int) / 2).toNat = p / 2 := by omega
    rw [one, en] at M
    unfold sd
    rw [if_neg e2]
    constructor
    · intro h
      have : i ^ (p / 2) % (p : Int) = 1 := Decidable.byContradiction fun z => by
        rw [if_neg z] at h
        omega
      obtain ⟨m, _, _, _, hm⟩ := M.mpr this
      exact ⟨m, Int.dvd_of_emod_eq_zero hm⟩
    · rintro ⟨b, z, hz⟩
      rw [if_pos (M.mp ⟨b % (2 * (p : Int)), ?_⟩)]
      have q0 := Int.emod_nonneg b (show 2 * (p : Int) ≠ 0 by omega)
      have q1 := Int.emod_lt_of_pos b (show 0 < 2 * (p : Int) by omega)
      have q2 := Int.mul_ediv_add_emod b (2 * (p : Int))
      generalize b % (2 * (p : Int)) = m at *
      generalize b / (2 * (p : Int)) = w at *
      have key : m * m - i = 4 * (p : Int) * (z - w * m - (p : Int) * (w * w)) := by
        have : b = 2 * (p : Int) * w + m := by omega
        rw [this] at hz
        grind
      refine ⟨q0, q1, ?_, ?_⟩
      · have h2 : (m * m - i) % 2 = 0 := by
          have : m * m - i = 2 * (2 * ((p : Int) * (z - w * m - (p : Int) * (w * w)))) := by rw [key]; grind
          omega
        have : m * m % 2 = m % 2 := by
          rw [Int.mul_emod]
          rcases Int.emod_two_eq m with q | q <;> rw [q] <;> rfl
        omega
      · rw [key]
        exact Int.mul_emod_right _ _
/-- HOW MANY: in all ways, as often as the divisors' sides tell -/
theorem count {i : Int} (hi : BarL i) : ∀ n : Nat, 0 < n → n ≤ 10000 → (∀ q, Pr q → q ∣ n → ¬ (q : Int) ∣ i) → ((R i (n : Int) : Nat) : Int) = (wn i : Nat) * S i n := by
  intro n
  induction n using Nat.strongRecOn with
  | ind n ih =>
    intro n0 nl hc
    by_cases n1 : n = 1
    · subst n1
      rw [S_one, Int.mul_one]
      have := R_one hi
      show ((R i 1 : Nat) : Int) = _
      rw [this]
    obtain ⟨a, ⟨m, hm⟩, c⟩ := mf_spec (show 2 ≤ n by omega)
    have hp := mf_pr (show 2 ≤ n by omega)
    generalize mf n = p at *
    have m0 : 0 < m := by
      rcases Nat.eq_zero_or_pos m with z | z
      · rw [z] at hm; omega
      · exact z
    have ml : m < n := by
      rw [hm]
      have := Nat.mul_le_mul_right m a
      omega
    have hlow : ∀ e, 2 ≤ e → e ∣ m → p ≤ e := fun e e2 he => c e e2 (by rw [hm]; exact Nat.dvd_mul_left_of_dvd he p)
    have pl : p ≤ 10000 := Nat.le_trans (Nat.le_of_dvd n0 ⟨m, hm⟩) nl
    have hpD := hc p hp ⟨m, hm⟩
    have I1 := ih m ml m0 (by omega) fun q hq qm => hc q hq (by rw [hm]; exact Nat.dvd_mul_left_of_dvd qm p)
    have I2 : p ∣ m → ((R i ((m : Int) / (p : Int)) : Nat) : Int) = (wn i : Nat) * S i (m / p) := fun z => by
      have e : (m : Int) / (p : Int) = ((m / p : Nat) : Int) := by simp
      rw [e]
      refine ih (m / p) (Nat.lt_of_le_of_lt (Nat.div_le_self m p) ml) (Nat.div_pos (Nat.le_of_dvd m0 z) (by omega)) (Nat.le_trans (Nat.div_le_self m p) (by omega)) fun q hq qm => ?_
      exact hc q hq (by rw [hm]; exact Nat.dvd_mul_left_of_dvd (Nat.dvd_trans qm (Nat.div_dvd_of_dvd z)) p)
    have en : (n : Int) = (p : Int) * (m : Int) := by rw [hm]; simp
    have dv : ((p : Int) ∣ (m : Int)) ↔ p ∣ m := Int.natCast_dvd_natCast
    rw [hm, S_rec i hp m0 hlow, ← hm, en]
    have root := sd_root hi.d.four hp pl hpD
    rcases sd_cases i p with s | s
    · obtain ⟨b0, hb⟩ := root.mp s
      have r := R_split hi hp hpD hb (n := (m : Int)) (by omega)
      rw [s]
      by_cases z : p ∣ m
      · rw [if_pos (dv.mpr z)] at r
        rw [if_pos z]
        have := I2 z
        have e : ((wn i : Nat) : Int) * (S i m + 1 * S i m - 1 * S i (m / p)) = (wn i : Nat) * S i m + (wn i : Nat) * S i m - (wn i : Nat) * S i (m / p) := by grind
        rw [e]
        omega
      · rw [if_neg (fun w => z (dv.mp w))] at r
        rw [if_neg z]
        have e : ((wn i : Nat) : Int) * (S i m + 1 * S i m - 1 * 0) = (wn i : Nat) * S i m + (wn i : Nat) * S i m := by grind
        rw [e]
        omega
    · have hno : ¬ ∃ b0 : Int, 4 * (p : Int) ∣ b0 * b0 - i := fun z => by
        have := root.mpr z
        omega
      have r := R_inert hi hp hno (n := (m : Int)) (by omega)
      rw [s]
      by_cases z : p ∣ m
      · rw [if_pos (dv.mpr z)] at r
        rw [if_pos z]
        have := I2 z
        have e : ((wn i : Nat) : Int) * (S i m + -1 * S i m - -1 * S i (m / p)) = (wn i : Nat) * S i (m / p) := by grind
        rw [e]
        omega
      · rw [if_neg (fun w => z (dv.mp w))] at r
        rw [if_neg z]
        have e : ((wn i : Nat) : Int) * (S i m + -1 * S i m - -1 * 0) = 0 := by grind
        rw [e]
        omega
end MD

/-! FB: sum(list), xs.index(x), list + list -/
namespace FL
open PySem PySem.Spec PyProof.Rows L2
theorem IsAll.intsV {K : PySem.W.Frag} {H : Hp} : ∀ {vs : List V} {ns : List Int}, IsAll K H vs (ns.map D.int) → vs = ns.map V.int
  | _, [], .nil => rfl
  | _, n :: ns, .cons h r => by
    cases h.int_inv
    rw [IsAll.intsV r]
    rfl
theorem intsAre_of : ∀ {ns : List Int} {us : List Value}, Vals (ns.map V.int) us → IntsAre us ns
  | [], _, .nil => .nil
  | n :: _, _, .cons r t => by
    obtain ⟨k, rfl⟩ := r
    exact .cons n k (intsAre_of t)
theorem call_sum {X : Cx} (hc : X.calm = true) : CallR X (.builtin "sum") (fun vs H Q => ∃ (a : Addr) (ns : List Int), vs = [.ref a] ∧ SqL X.K H a (ns.map V.int) ∧ Q (.int ns.sum) H) := by
  intro pins s σ H vs us Q I r h
  obtain ⟨l, ns, rfl, hq, q⟩ := h
  obtain ⟨u, rfl, ru⟩ := vals1 r
  cases ru
  obtain ⟨its, rv, p, hz⟩ := I.list hq
  have hi := intsAre_of rv
  obtain ⟨xs, ex⟩ := hi.allInts.items
  have hl := p.isList
  rw [ex] at hl
  have en : xs.toList.map (·.1) = ns := by
    rw [← nums_intItems, ← ex]
    exact hi.numsOf
  refine sum_intListG (I.ok.hd hc) hl fun h' tk t' hk => ?_
  rw [preSum_eq, List.take_of_length_le (by simp), en]
  exact ⟨.int _, H, I.kept hk, ⟨_, rfl⟩, q⟩
section
variable {X : Cx} {e a b c : Expr} {es : List Expr} {ρ : Ro} {d x f : D} {ds gs : List D} {pos : Pos} {i j : Int} {k k' : Bool}
theorem ev_sum {p : Pos} {ns : List Int} (hm : X.mg "sum" = none) (ha : Ev X a ρ (.ls (ns.map D.int))) (hc : X.calm = true := by rfl) (hg : Gl X "sum" := by rfl) (he : starEach [a] X.env = [(false, eval a X.env)] := by rfl) : Ev X (.Call (.Name "sum" p) [a] [] pos) ρ (.int ns.sum) :=
  ev_callB (call_sum hc) hm (by decide +kernel) (ea_cons ha ea_nil he) (fun vs H Q h0 q => by
    obtain ⟨v, rfl, h⟩ := one_inv h0
    obtain ⟨l, xs, rfl, h1, h2⟩ := h.ls_inv
    cases h2.intsV
    exact ⟨l, ns, rfl, h1, q _ H (Same.refl H) (.int _)⟩) hg (by decide) (by decide) he rfl
/-! xs.index(x), x is there -/
def rIndex (X : Cx) : V → List V → Hp → VK → Prop := fun x vs H Q => ∃ (n : Nat) (d e : D) (ds : List D) (y : V) (j : Nat), Is X.K H x e ∧ lsD e = some ds ∧ vs = [y] ∧ Is X.K H y d ∧ (∀ z ∈ ds, Cm n z d) ∧ X.A.units + n + 1 < cLine ∧ ds[j]? = some d ∧ (∀ i, i < j → ds[i]? ≠ some d) ∧ Q (.int (j : Int)) H
theorem vals_get' : ∀ {xs : List V} {us : List Value} {i : Nat} {u : Value}, Vals xs us → us[i]? = some u → ∃ x, xs[i]? = some x ∧ RelV x u
  | _, _, _, _, .nil, e => by simp at e
  | _, _, 0, _, .cons r _, e => by simp at e; subst e; exact ⟨_, rfl, r⟩
  | _, _, i + 1, x, .cons _ t, e => by
    obtain ⟨u, h1, h2⟩ := vals_get' (i := i) (u := x) t (by simpa using e)
    exact ⟨u, by simpa using h1, h2⟩
theorem ansU_get {pins : List (Addr × Obj)} {σ : L2.St} {H : Hp} {s : Shared} (I : L2.Inv X pins σ H s) {n : Nat} {x : D} {ds : List D} {vs : List V} {us : List Value} (hc : ∀ d ∈ ds, Cm n d x) (r : IsAll X.K H vs ds) (w : Vals vs us) {m : Nat} {u : Value} (hu : us[m]? = some u) :
    ∃ d, ds[m]? = some d ∧ ansU X.K H ds x u = eqb d x := by
  obtain ⟨v, hv, rv⟩ := vals_get' w hu
  obtain ⟨d, hd, h⟩ := r.get' hv
  exact ⟨d, hd, ansU_at I hc (List.mem_of_getElem? hd) h rv⟩
theorem mt_index : MtR X "list.index" (rIndex X) := by
  intro pins s σ H x vs v us Q I rx rv h
  obtain ⟨n, d, e, ds, y, j, h1, h2, rfl, h3, hc, hu, hj, hno, q⟩ := h
  obtain ⟨a, xs, rfl, t, r⟩ := h1.lsD_inv h2
  cases rx
  obtain ⟨u, rfl, ru⟩ := vals1 rv
  obtain ⟨its, w1, p1, hz⟩ := I.list t
  obtain ⟨⟨cls, dd, data, sl⟩, n', ho, hcl, hd, hs⟩ := p1
  simp only at hcl hd hs
  subst hcl hd hs
  have l1 := r.length
  have l2 := w1.length
  have jl : j < its.length := by
    have := (List.getElem?_eq_some_iff.mp hj).1
    omega
  have zl : its.length ≤ 16777216 := by
    rw [sizeLine_eq] at hz
    omega
  refine call_meets PySem.F.slot_list_index ⟨_, ho, rfl⟩ PySem.F.entry_list_index (PySem.F.args_list_index_2 _ _)
    (SeqAt.list_indexAt a its.toArray n' none sl u (ansU X.K H ds d) j (by simpa using jl) (by omega) ?_ ?_) ⟨ho, fun z hz => ansU_items I hc (by show X.A.units + 1 + n < cLine; omega) h3 ru (fun _ h => h) r w1 z (by simpa using hz), ⟨.int _, H, I.tok _, ⟨_, rfl⟩, q⟩⟩
  · obtain ⟨d', hd', e'⟩ := ansU_get I hc r w1 (List.getElem?_eq_getElem jl)
    rw [hj] at hd'
    cases hd'
    show ansU X.K H ds d its[j] = true
    rw [e', eqb_iff]
  · intro m hm hlt
    have hm' : m < its.length := by simpa using hm
    obtain ⟨d', hd', e'⟩ := ansU_get I hc r w1 (List.getElem?_eq_getElem hm')
    show ansU X.K H ds d its[m] = false
    rw [e']
    refine Bool.eq_false_iff.mpr fun z => hno m hlt ?_
    rw [hd', eqb_iff.mp z]
theorem ev_index {n m j : Nat} {p1 p2 : Pos} (hr : Room m X.A) (ha : Ev X a ρ f) (hf : lsD f = some ds) (hb : Ev X b ρ d) (hc : ∀ z ∈ ds, Cm n z d) (hj : ds[j]? = some d) (hno : ∀ i, i < j → ds[i]? ≠ some d) (hn : n ≤ 60 := by decide)
    (hbase : attributeBase a "index" X.env (eval a X.env) = eval a X.env := by rfl)
    (hfew : ((backTo p2 (starEach [b] X.env)).all (fun x => !x.1) && (backToKw p2 (keywordEach [] X.env)).all (fun x => x.1.isSome) && decide ([b].length + ([] : List Keyword).length + (if ([] : List Keyword).isEmpty then 0 else 1) < 30)) = true := by rfl)
    (hline : (p1.endLine == p2.line) = true := by rfl) (hs : starEach [b] X.env = (false, eval b X.env) :: starEach [] X.env := by rfl) :
    Ev X (.Call (.Attribute a "index" p1) [b] [] p2) ρ (.int (j : Int)) := by
  refine PE.imp (pe_bm PySem.F.plainAttrs_list PySem.F.slot_list_index PySem.F.type_list_index mt_index ha (ea_cons hb ea_nil hs) hbase hfew hline hs rfl) ?_
  rintro σ H Q ⟨r, q⟩
  refine ⟨r, fun v H1 s1 h1 => ?_⟩
  obtain ⟨l, xs, rfl, h3, h4⟩ := h1.lsD_inv hf
  refine ⟨.inl ⟨rfl, xs, h3⟩, r.mono s1, fun vs H2 s2 h5 => ?_⟩
  obtain ⟨y, rfl, hy⟩ := one_inv h5
  exact ⟨n, d, f, ds, y, j, h1.mono s2, hf, rfl, hy, hc, by have := hr.units; omega, hj, hno, q _ H2 (s1.trans s2) (.int _)⟩
/-- an own list and a new one -/
theorem evn_cat {l : Addr} (ha : Ev X a ρ (.lst l ds)) (hb : EvN X b ρ gs) (hl : ds.length + gs.length ≤ 1000000) : EvN X (.BinOp a .Add b pos) ρ (ds ++ gs) :=
  PE.imp (pe_op op_cat ha hb) fun σ H Q ⟨r, q⟩ => ⟨r, fun v1 H1 s1 h1 => ⟨r.mono s1, fun b' vs H2 hfr s2 hB h3 => by
    obtain ⟨rfl, xs, hT, hA⟩ := (h1.mono s2).lst_inv
    refine ⟨l, b', xs, vs, rfl, rfl, hT, hB, by rw [hA.length, h3.length, sizeLine_eq]; omega, fun p hp => ?_⟩
    exact q p _ _ ((s1.trans s2).free hp) ((s1.trans s2).trans (same_new hp)) upd_same ((hA.append h3).mono (same_new hp))⟩⟩
end
end FL

/-! CW: all ways of a number, and their sum -/
namespace CM
open PySem PySem.Spec L2 FL FT FU MG MD MP
def nD (p : Nat) : D := .int (p : Int)
def p_pf (ds es : List D) : Prop := ∃ n : Nat, ds = [nD n] ∧ 0 < n ∧ n ≤ 4000000 ∧ es = (PF n).map nD
theorem fz_nD (l : List Nat) : ∀ d ∈ l.map nD, Fz d := fun d hd => by obtain ⟨z, _, rfl⟩ := List.mem_map.mp hd; exact .int _
theorem pow_small {k n : Nat} (h : 2 ^ k ≤ n) (hn : n ≤ 4000000) : k < 22 := Nat.not_le.mp fun z => by
  have := Nat.pow_le_pow_right (show 0 < 2 by decide) z
  omega
/-- nothing but itself is left -/
theorem PF_last {k r : Nat} (hr : 1 < r) (h : ∀ d, 2 ≤ d → d ∣ r → k ≤ d) (hk : r < k * k) : PF r = [r] := by
  have e : PF (r * 1) = r :: PF 1 := PF_cons (by omega) Nat.one_pos fun d h2 hd => by
    rw [Nat.mul_one] at hd
    obtain ⟨e, he⟩ := hd
    have e0 : 0 < e := Nat.pos_of_ne_zero fun z => by rw [z, Nat.mul_zero] at he; omega
    have : ¬ 2 ≤ e := fun z => by
      have h1 := h d h2 ⟨e, he⟩
      have h3 := h e z ⟨d, by rw [he, Nat.mul_comm]⟩
      have := Nat.mul_le_mul h1 h3
      omega
    have e1 : e = 1 := by omega
    rw [e1, Nat.mul_one] at he
    omega
  rw [Nat.mul_one, PF_small (show 1 < 2 by decide)] at e
  exact e
theorem PF_pr {n : Nat} : ∀ p ∈ PF n, Pr p ∧ p ∣ n := by
  induction n using Nat.strongRecOn with
  | _ n ih =>
    intro p hp
    by_cases h : n < 2
    · rw [PF_small h] at hp; cases hp
    · have e : PF n = mf n :: PF (n / mf n) := by rw [PF]; exact dif_neg h
      rw [e] at hp
      have s := mf_spec (show 2 ≤ n by omega)
      rcases List.mem_cons.mp hp with rfl | hp
      · exact ⟨mf_pr (by omega), s.2.1⟩
      · obtain ⟨h1, h2⟩ := ih _ (mf_lt h) p hp
        exact ⟨h1, Nat.dvd_trans h2 (Nat.div_dvd_of_dvd s.2.1)⟩
theorem least_pr {k r : Nat} (h2 : 2 ≤ k) (hr : 0 < r) (hk : k ∣ r) (h : ∀ d, 2 ≤ d → d ∣ r → k ≤ d) : Pr k :=
  ⟨h2, fun d hd => by
    have d0 : 0 < d := Nat.pos_of_dvd_of_pos hd (by omega)
    by_cases z : d = 1
    · exact .inl z
    · have h1 := h d (by omega) (Nat.dvd_trans hd hk)
      have h3 := Nat.le_of_dvd (by omega) hd
      exact .inr (by omega)⟩
theorem pr_odd {p : Nat} (h : Pr p) (h2 : p ≠ 2) : p % 2 = 1 := by
  rcases Nat.mod_two_eq_zero_or_one p with z | z
  · rcases h.2 2 (Nat.dvd_of_mod_eq_zero z) with q | q
    · cases q
    · omega
  · exact z
theorem pr_ge3 {p : Nat} (h : Pr p) (h2 : p ≠ 2) : 3 ≤ p := by have := h.1; omega
def p_power (ds : List D) (d : D) : Prop := ∃ (b p : Int) (e : Nat), ds = [.int b, .int (e : Int), .int p] ∧ 2 ≤ p ∧ p ≤ 4000000 ∧ 0 ≤ b ∧ b < p ∧ d = .int (b ^ e % p)
def p_leaves (ds : List D) (d : D) : Prop := ∃ (i : Int) (p : Nat), ds = [.int i, nD p] ∧ 3 ≤ p ∧ p % 2 = 1 ∧ p ≤ 4000000 ∧ d = .bl (decide (i ^ (p / 2) % (p : Int) = 1))
def p_sbp (ds : List D) (d : D) : Prop := ∃ (i : Int) (p : Nat), ds = [.int i, nD p] ∧ Pr p ∧ p ≤ 10000 ∧ d = .int (sd i p)
def p_sb (ds : List D) (d : D) : Prop := ∃ (i : Int) (n : Nat), ds = [.int i, nD n] ∧ 0 < n ∧ n ≤ 10000 ∧ d = .int (chi i n)
def p_woo (ds : List D) (d : D) : Prop := ∃ i : Int, ds = [.int i] ∧ d = .int ((wn i : Nat) : Int)
def p_ws (ds : List D) (d : D) : Prop := ∃ (i : Int) (n : Nat), ds = [.int i, nD n] ∧ BarD i ∧ 0 < n ∧ n ≤ 10000 ∧ Int.gcd i (n : Int) = 1 ∧ d = .int ((wn i : Nat) * S i n)
theorem prodZ_snoc (l : List Int) (x : Int) : prodZ (l ++ [x]) = prodZ l * x := by
  induction l with
  | nil => show x * 1 = 1 * x; omega
  | cons y l ih => show y * prodZ (l ++ [x]) = y * prodZ l * x; rw [ih, Int.mul_assoc]
theorem unit_mul {a b : Int} (ha : a = 1 ∨ a = -1) (hb : b = 1 ∨ b = -1) : a * b = 1 ∨ a * b = -1 := by
  rcases ha with rfl | rfl <;> rcases hb with rfl | rfl <;> simp
theorem prod_unit (i : Int) : ∀ l : List Nat, prodZ (l.map (sd i)) = 1 ∨ prodZ (l.map (sd i)) = -1
  | [] => .inl rfl
  | p :: l => unit_mul (sd_cases i p) (prod_unit i l)
theorem chi_unit (i : Int) (n : Nat) : chi i n = 1 ∨ chi i n = -1 := prod_unit i _
theorem unit_bd {a : Int} (h : a = 1 ∨ a = -1) : Bd a 1 := by rcases h with rfl | rfl <;> exact .lit
theorem sm_le {g : Nat → Int} (h : ∀ k, -1 ≤ g k ∧ g k ≤ 1) : ∀ n : Nat, -(n : Int) ≤ sm n g ∧ sm n g ≤ (n : Int)
  | 0 => ⟨by show -(0 : Int) ≤ 0; decide, by show (0 : Int) ≤ 0; decide⟩
  | n + 1 => by
    have h1 := sm_le h n
    have h2 := h (n + 1)
    show -((n + 1 : Nat) : Int) ≤ sm n g + g (n + 1) ∧ sm n g + g (n + 1) ≤ ((n + 1 : Nat) : Int)
    omega
def sgd (i : Int) (n : Nat) (d : Nat) : Int := if d ∣ n then chi i d else 0
theorem sgd_le (i : Int) (n k : Nat) : -1 ≤ sgd i n k ∧ sgd i n k ≤ 1 := by
  unfold sgd
  split
  · rcases chi_unit i k with h | h <;> rw [h] <;> decide
  · decide
theorem sm_bd (i : Int) (n k : Nat) (hk : k ≤ 10000) : Bd (sm k (sgd i n)) 14 := by
  have := sm_le (sgd_le i n) k
  exact .of_lt (by omega)
theorem wn_bd (i : Int) : Bd ((wn i : Nat) : Int) 3 := by
  unfold wn
  split
  · exact .lit
  · split <;> exact .lit
/-- the divisors from 1 on -/
def dvs (n k : Nat) : List Nat := ((List.range k).map (1 + ·)).filter fun d => decide (n % d = 0)
theorem dvs_sum (i : Int) (n : Nat) : ∀ k, ((dvs n k).map (chi i)).sum = sm k (sgd i n)
  | 0 => rfl
  | k + 1 => by
    have ih := dvs_sum i n k
    unfold dvs at ih ⊢
    rw [List.range_succ, List.map_append, List.filter_append, List.map_append, List.sum_append, ih]
    show _ = sm k (sgd i n) + sgd i n (k + 1)
    congr 1
    rw [List.map_cons, List.map_nil]
    unfold sgd
    have e : 1 + k = k + 1 := Nat.add_comm 1 k
    rw [e]
    by_cases h : k + 1 ∣ n
    · rw [if_pos h, List.filter_cons_of_pos (by simpa using Nat.mod_eq_zero_of_dvd h)]
      simp
    · rw [if_neg h, List.filter_cons_of_neg (by simpa using fun z => h (Nat.dvd_of_mod_eq_zero z))]
      rfl
theorem dvs_mem {n k d : Nat} (h : d ∈ dvs n k) : 0 < d ∧ d ≤ k := by
  obtain ⟨h1, _⟩ := List.mem_filter.mp h
  obtain ⟨t, ht, rfl⟩ := List.mem_map.mp h1
  have := List.mem_range.mp ht
  omega
theorem dvs_len (n k : Nat) : (dvs n k).length ≤ k := by
  have := List.length_filter_le (fun d => decide (n % d = 0)) ((List.range k).map (1 + ·))
  unfold dvs
  simpa using this
/-! ### the ways -/
abbrev Wy := Q × List Int
def wD (p : Wy) : D := .tup [qD p.1, tupI p.2]
def WC (n : Int) (f : Q) : List Wy := (srt (MS.PL f.a f.b f.c n)).map fun t => (f, t)
def WN (n : Int) (l : List Q) : List Wy := l.flatMap (WC n)
def WL (i n : Int) : List Wy := WN n (clsL i)
def p_ways (ds es : List D) : Prop := ∃ i n : Int, ds = [.int i, .int n] ∧ BarL i ∧ 0 ≤ n ∧ n ≤ 10000 ∧ es = (WL i n).map wD
theorem fz_w (p : Wy) : Fz (wD p) := fz_pair (fzQ _) (fz_ints _)
theorem fz_ws (l : List Wy) : ∀ d ∈ l.map wD, Fz d := fun d hd => by obtain ⟨z, _, rfl⟩ := List.mem_map.mp hd; exact fz_w z
theorem lfs_len2 {i : Int} : ∀ n : Nat, (lfs i n).length ≤ n * n + 2 * n
  | 0 => by simp [lfs]
  | n + 1 => by
    have h1 := lfs_len2 (i := i) n
    have h2 : (lfA i ((n : Int) + 1)).length ≤ (2 * ((n : Int) + 1) + 1).toNat := lf_len _
    have e : (n + 1) * (n + 1) = n * n + 2 * n + 1 := by grind
    rw [lfs_succ, List.length_append]
    omega
theorem cls_len2 {i : Int} (h : BarL i) : (clsL i).length ≤ 1368 := by
  have h1 := lfs_len2 (i := i) 36
  have h2 := h.low
  have e : lfs i 36 = LF i := lfs_end (by decide) (by omega)
  rw [e] at h1
  exact Nat.le_trans (List.length_filter_le _ _) h1
theorem pl_len {i n : Int} {f : Q} (h : BarL i) (hf : f ∈ clsL i) (n0 : 0 ≤ n) (n1 : n ≤ 10000) : (MS.PL f.a f.b f.c n).length ≤ 462 := by
  have fS := cls_small h hf
  have L := ((mem_cls h).mp hf).least
  have t := MS.top_le fS.pos L fS.bar n0 n1
  have k := MS.PN_len f.a f.b (f.b * f.b - 4 * f.a * f.c) n (MS.top f.a (f.b * f.b - 4 * f.a * f.c) n) (2 * MS.top f.a (f.b * f.b - 4 * f.a * f.c) n + 1).toNat
  unfold MS.PL
  omega
theorem wc_len (n : Int) (f : Q) : (WC n f).length = rr f n := by
  unfold WC rr
  rw [List.length_map, srt_len]
theorem wn_len {i n : Int} (h : BarL i) (n0 : 0 ≤ n) (n1 : n ≤ 10000) : ∀ l : List Q, (∀ f ∈ l, f ∈ clsL i) → (WN n l).length ≤ 462 * l.length
  | [], _ => by simp [WN]
  | f :: l, hl => by
    have h1 := wn_len h n0 n1 l fun g hg => hl g (List.mem_cons_of_mem _ hg)
    have h2 := pl_len h (hl f List.mem_cons_self) n0 n1
    have h3 := wc_len n f
    unfold rr at h3
    have e : WN n (f :: l) = WC n f ++ WN n l := rfl
    rw [e, List.length_append, List.length_cons]
    omega
theorem wl_len (i n : Int) : (WL i n).length = R i n := by
  unfold WL R WN
  rw [List.length_flatMap]
  congr 1
  exact List.map_congr_left fun f _ => wc_len n f
theorem wn_snoc (n : Int) (l : List Q) (f : Q) : WN n (l ++ [f]) = WN n l ++ WC n f := by
  unfold WN
  rw [List.flatMap_append]
  simp
theorem mem_wl {i n : Int} {p : Wy} (h : p ∈ WL i n) : p.1 ∈ clsL i ∧ p.2 ∈ MS.PL p.1.a p.1.b p.1.c n := by
  unfold WL WN at h
  obtain ⟨f, hf, hp⟩ := List.mem_flatMap.mp h
  obtain ⟨t, ht, rfl⟩ := List.mem_map.mp hp
  exact ⟨hf, (srt_perm _).mem_iff.mp ht⟩
theorem wl_nodup {i n : Int} (h : BarL i) : (WL i n).Nodup := by
  unfold WL WN
  rw [List.nodup_iff_pairwise_ne, List.pairwise_flatMap]
  refine ⟨fun f hf => ?_, ?_⟩
  · unfold WC
    rw [List.pairwise_map]
    have c := (mem_cls h).mp hf
    have nd : (srt (MS.PL f.a f.b f.c n)).Nodup := (srt_perm _).nodup_iff.mpr (MS.PL_nodup c.ok.pos)
    rw [List.nodup_iff_pairwise_ne] at nd
    exact nd.imp fun ne e => ne (congrArg Prod.snd e)
  · have nd := MD.cls_nodup i
    rw [List.nodup_iff_pairwise_ne] at nd
    refine nd.imp fun {f g} ne x hx y hy e => ne ?_
    obtain ⟨_, _, rfl⟩ := List.mem_map.mp hx
    obtain ⟨_, _, rfl⟩ := List.mem_map.mp hy
    exact congrArg Prod.fst e
theorem idx_lt {l : List Q} (nd : l.Nodup) : l.Pairwise (fun f g => l.idxOf f ≤ l.idxOf g) := by
  rw [List.pairwise_iff_getElem]
  intro a b ha hb hab
  rw [nd.idxOf_getElem a ha, nd.idxOf_getElem b hb]
  omega
theorem wl_order (i n : Int) : (WL i n).Pairwise (fun p q => (clsL i).idxOf p.1 ≤ (clsL i).idxOf q.1) := by
  unfold WL WN
  rw [List.pairwise_flatMap]
  refine ⟨fun f hf => ?_, ?_⟩
  · unfold WC
    rw [List.pairwise_map]
    exact List.pairwise_iff_getElem.mpr fun _ _ _ _ _ => Nat.le_refl _
  · refine (idx_lt (MD.cls_nodup i)).imp fun {f g} le x hx y hy => ?_
    obtain ⟨_, _, rfl⟩ := List.mem_map.mp hx
    obtain ⟨_, _, rfl⟩ := List.mem_map.mp hy
    exact le
/-- the places of a class, as they are told -/
theorem places_at {i n : Int} {f : Q} (h : BarL i) (hf : f ∈ clsL i) (n0 : 0 ≤ n) (n1 : n ≤ 10000) : p_places [qD f, .int n] ((srt (MS.PL f.a f.b f.c n)).map tupI) := by
  have c := (mem_cls h).mp hf
  have S := cls_small h hf
  exact ⟨f.a, f.b, f.c, n, _, rfl, S, n0, n1, MS.PL_nodup c.ok.pos, fun t => MS.mem_PL S.pos S.bar n0 t, rfl⟩
theorem wc_data (n : Int) (f : Q) : (WC n f).map wD = ((((srt (MS.PL f.a f.b f.c n)).map tupI).filter fun _ => true).map fun d => .tup [qD f, d]) := by
  rw [List.filter_eq_self.mpr (fun _ _ => rfl)]
  unfold WC
  rw [List.map_map, List.map_map]
  rfl
theorem cm_w (p q : Wy) : Cm 2 (wD p) (wD q) := .tup (.cons (Cm.ints [p.1.a, p.1.b, p.1.c] [q.1.a, q.1.b, q.1.c]) (.cons (Cm.ints p.2 q.2) .nil))
theorem cms_w : ∀ (xs ys : List Wy), Cms 2 (xs.map wD) (ys.map wD)
  | [], [] => .nil
  | [], _ :: _ => .short _ _
  | _ :: _, [] => .long _ _
  | x :: xs, y :: ys => .cons (cm_w x y) (cms_w xs ys)
theorem wD_inj {p q : Wy} (h : wD p = wD q) : p = q := by
  obtain ⟨⟨a, b, c⟩, t⟩ := p
  obtain ⟨⟨a', b', c'⟩, t'⟩ := q
  have h1 : D.tup [formD a b c, tupI t] = D.tup [formD a' b' c', tupI t'] := h
  injection h1 with h2
  injection h2 with h3 h4
  injection h4 with h5 _
  have e2 : t = t' := by rw [← tOf_tup t, h5, tOf_tup]
  injection h3 with h6
  injection h6 with h7 h8
  injection h8 with h9 h10
  injection h10 with h11 _
  injection h7 with h7
  injection h9 with h9
  injection h11 with h11
  subst e2 h7 h9 h11
  rfl
def p_law_side3 (ds : List D) (d : D) : Prop := ∃ (i : Int) (p : Nat), ds = [.int i, nD p] ∧ Pr p ∧ p ≤ 10000 ∧ Bd i 40 ∧ d = .int (sd i p)
def p_law_sides (ds : List D) (d : D) : Prop := ∃ (i : Int) (n : Nat), ds = [.int i, nD n] ∧ 0 < n ∧ n ≤ 10000 ∧ Bd i 40 ∧ d = .int (chi i n)
def p_law_many (ds : List D) (d : D) : Prop := ∃ (i : Int) (n : Nat), ds = [.int i, nD n] ∧ 0 < n ∧ n ≤ 10000 ∧ Bd i 40 ∧ d = .int ((wn i : Nat) * S i n)
def p_law_told (ds : List D) (d : D) : Prop := d = .bl true ∧ ∃ i n : Int, ds = [.ls ((WL i n).map wD), .ls ((clsL i).map qD), .int n] ∧ BarL i ∧ 0 ≤ n ∧ n ≤ 10000
/-- a number without a common divisor is not far -/
theorem cop_near {i n : Int} (hi : i < 0) (n0 : 0 < n) : ∃ k : Int, n ≤ k ∧ k ≤ n - i ∧ Int.gcd i k = 1 := by
  refine ⟨n + (1 - n) % (-i), ?_, ?_, ?_⟩
  · have := Int.emod_nonneg (1 - n) (show -i ≠ 0 by omega)
    omega
  · have := Int.emod_lt_of_pos (1 - n) (show 0 < -i by omega)
    omega
  · have e := Int.mul_ediv_add_emod (1 - n) (-i)
    have e2 : n + (1 - n) % (-i) = 1 + i * ((1 - n) / (-i)) := by
      have : -i * ((1 - n) / (-i)) = -(i * ((1 - n) / (-i))) := Int.neg_mul _ _
      omega
    rw [e2, Int.gcd_add_mul_left_right]
    exact Int.gcd_one_right i
theorem pr307 : Pr 307 := pr_check (by decide) (by decide) (by decide) (by decide)
theorem pr311 : Pr 311 := pr_check (by decide) (by decide) (by decide) (by decide)
theorem pr313 : Pr 313 := pr_check (by decide) (by decide) (by decide) (by decide)
theorem pr317 : Pr 317 := pr_check (by decide) (by decide) (by decide) (by decide)
theorem cop_pr {i : Int} {p : Nat} (hp : Pr p) (h : ¬ (p : Int) ∣ i) : Int.gcd i (p : Int) = 1 := by
  have := hp.cop (a := i.natAbs) (fun z => h (icd.mpr z))
  rw [Int.gcd_comm]
  exact this
/-- of a great bar too -/
theorem cop_far {i : Int} (hi : i < 0) (hl : -4000000004 ≤ i) : ∃ k : Int, 300 < k ∧ k ≤ 317 ∧ Int.gcd i k = 1 := by
  by_cases h1 : (307 : Int) ∣ i
  · by_cases h2 : (311 : Int) ∣ i
    · by_cases h3 : (313 : Int) ∣ i
      · by_cases h4 : (317 : Int) ∣ i
        · exfalso
          have d1 := MG.cop_dvd (show Int.gcd 307 311 = 1 by decide) h1 h2
          have d2 := MG.cop_dvd (show Int.gcd (307 * 311) 313 = 1 by decide) d1 h3
          have d3 := MG.cop_dvd (show Int.gcd (307 * 311 * 313) 317 = 1 by decide) d2 h4
          obtain ⟨k, rfl⟩ := d3
          omega
        · exact ⟨317, by decide, by decide, cop_pr pr317 h4⟩
      · exact ⟨313, by decide, by decide, cop_pr pr313 h3⟩
    · exact ⟨311, by decide, by decide, cop_pr pr311 h2⟩
  · exact ⟨307, by decide, by decide, cop_pr pr307 h1⟩
theorem no_common {i : Int} {n : Nat} (h : Int.gcd i (n : Int) = 1) : ∀ q, Pr q → q ∣ n → ¬ (q : Int) ∣ i := fun q hq h1 h2 => by
  have : q ∣ Int.gcd i (n : Int) := Nat.dvd_gcd (icd.mp h2) (by simpa using h1)
  rw [h] at this
  have := Nat.le_of_dvd Nat.one_pos this
  have := hq.1
  omega
end CM

namespace K19
open PySem PySem.Spec L2 FL FT FU CM
def top (i : Nat) : Stmt := PySem.Challenge.pw_formturn_k19_whole_ways.main.body.getD i (.Pass ⟨0, 0, 0, 0⟩)

abbrev s_is_whole : Stmt := top 7
abbrev s_is_whole_tuple : Stmt := top 8
abbrev s_is_bar : Stmt := top 9
abbrev s_require_bar : Stmt := top 10
abbrev s_require_bar_from : Stmt := top 11
abbrev s_require_whole : Stmt := top 12
abbrev s_require_number : Stmt := top 13
abbrev s_common_divisor : Stmt := top 14
abbrev s_root_of : Stmt := top 15
abbrev s_prime_factors : Stmt := top 16
abbrev s_power_by : Stmt := top 17
abbrev s_leaves_square : Stmt := top 18
abbrev s_bar_of_numbers : Stmt := top 20
abbrev s_is_form : Stmt := top 21
abbrev s_require_form : Stmt := top 22
abbrev s_bar_of : Stmt := top 23
abbrev s_is_bare : Stmt := top 24
abbrev s_sent : Stmt := top 26
abbrev s_is_least : Stmt := top 29
abbrev s_stepped : Stmt := top 30
abbrev s_behind_step : Stmt := top 31
abbrev s_swapped : Stmt := top 32
abbrev s_behind_swap : Stmt := top 33
abbrev s_step_to_middle : Stmt := top 34
abbrev s_least_of : Stmt := top 35
abbrev s_least_forms_from : Stmt := top 37
abbrev s_least_forms : Stmt := top 38
abbrev s_classes : Stmt := top 39
abbrev s_greatest_row : Stmt := top 42
abbrev s_places_in_row : Stmt := top 43
abbrev s_places_of_least : Stmt := top 44
abbrev s_places : Stmt := top 45
abbrev s_ways : Stmt := top 48
abbrev s_side_by_prime : Stmt := top 49
abbrev s_side_by : Stmt := top 50
abbrev s_ways_of_one : Stmt := top 51
abbrev s_ways_sum : Stmt := top 52
abbrev s_law_ints : Stmt := top 54
abbrev s_law_cell_at : Stmt := top 55
abbrev s_law_worth : Stmt := top 57
abbrev s_law_divisor : Stmt := top 59
abbrev s_law_side : Stmt := top 60
abbrev s_law_sides : Stmt := top 61
abbrev s_law_many : Stmt := top 62
abbrev s_law_told : Stmt := top 63
abbrev s_law : Stmt := top 64
theorem sc_is_whole : FnScope ["value"] ["value"] (defScope s_is_whole) := ⟨rfl, rfl, rfl, by decide +kernel, rfl, by decide +kernel, by decide +kernel⟩
theorem sc_is_whole_tuple : FnScope ["value", "length"] ["value", "length"] (defScope s_is_whole_tuple) := ⟨rfl, rfl, rfl, by decide +kernel, rfl, by decide +kernel, by decide +kernel⟩
theorem sc_is_bar : FnScope ["value"] ["value"] (defScope s_is_bar) := ⟨rfl, rfl, rfl, by decide +kernel, rfl, by decide +kernel, by decide +kernel⟩
theorem sc_require_bar : FnScope ["value"] ["value"] (defScope s_require_bar) := ⟨rfl, rfl, rfl, by decide +kernel, rfl, by decide +kernel, by decide +kernel⟩
theorem sc_require_bar_from : FnScope ["value", "lowest"] ["value", "lowest"] (defScope s_require_bar_from) := ⟨rfl, rfl, rfl, by decide +kernel, rfl, by decide +kernel, by decide +kernel⟩
theorem sc_require_whole : FnScope ["value"] ["value"] (defScope s_require_whole) := ⟨rfl, rfl, rfl, by decide +kernel, rfl, by decide +kernel, by decide +kernel⟩
theorem sc_require_number : FnScope ["value", "lowest", "highest"] ["value", "lowest", "highest"] (defScope s_require_number) := ⟨rfl, rfl, rfl, by decide +kernel, rfl, by decide +kernel, by decide +kernel⟩
theorem sc_common_divisor : FnScope ["one", "other", "greater", "lesser", "rest"] ["one", "other"] (defScope s_common_divisor) := ⟨rfl, rfl, rfl, by decide +kernel, rfl, by decide +kernel, by decide +kernel⟩
theorem sc_root_of : FnScope ["number", "guess", "better"] ["number"] (defScope s_root_of) := ⟨rfl, rfl, rfl, by decide +kernel, rfl, by decide +kernel, by decide +kernel⟩
theorem sc_prime_factors : FnScope ["number", "rest", "found", "prime"] ["number"] (defScope s_prime_factors) := ⟨rfl, rfl, rfl, by decide +kernel, rfl, by decide +kernel, by decide +kernel⟩
theorem sc_power_by : FnScope ["base", "exponent", "divisor", "found"] ["base", "exponent", "divisor"] (defScope s_power_by) := ⟨rfl, rfl, rfl, by decide +kernel, rfl, by decide +kernel, by decide +kernel⟩
theorem sc_leaves_square : FnScope ["number", "prime"] ["number", "prime"] (defScope s_leaves_square) := ⟨rfl, rfl, rfl, by decide +kernel, rfl, by decide +kernel, by decide +kernel⟩
theorem sc_bar_of_numbers : FnScope ["a", "b", "c"] ["a", "b", "c"] (defScope s_bar_of_numbers) := ⟨rfl, rfl, rfl, by decide +kernel, rfl, by decide +kernel, by decide +kernel⟩
theorem sc_is_form : FnScope ["value"] ["value"] (defScope s_is_form) := ⟨rfl, rfl, rfl, by decide +kernel, rfl, by decide +kernel, by decide +kernel⟩
theorem sc_require_form : FnScope ["value"] ["value"] (defScope s_require_form) := ⟨rfl, rfl, rfl, by decide +kernel, rfl, by decide +kernel, by decide +kernel⟩
theorem sc_bar_of : FnScope ["form"] ["form"] (defScope s_bar_of) := ⟨rfl, rfl, rfl, by decide +kernel, rfl, by decide +kernel, by decide +kernel⟩
theorem sc_is_bare : FnScope ["form"] ["form"] (defScope s_is_bare) := ⟨rfl, rfl, rfl, by decide +kernel, rfl, by decide +kernel, by decide +kernel⟩
theorem sc_sent : FnScope ["turning", "place", "x", "y"] ["turning", "place"] (defScope s_sent) := ⟨rfl, rfl, rfl, by decide +kernel, rfl, by decide +kernel, by decide +kernel⟩
theorem sc_is_least : FnScope ["form", "a", "b", "c"] ["form"] (defScope s_is_least) := ⟨rfl, rfl, rfl, by decide +kernel, rfl, by decide +kernel, by decide +kernel⟩
theorem sc_stepped : FnScope ["form", "step", "a", "b"] ["form", "step"] (defScope s_stepped) := ⟨rfl, rfl, rfl, by decide +kernel, rfl, by decide +kernel, by decide +kernel⟩
theorem sc_behind_step : FnScope ["turning", "step", "p", "r"] ["turning", "step"] (defScope s_behind_step) := ⟨rfl, rfl, rfl, by decide +kernel, rfl, by decide +kernel, by decide +kernel⟩
theorem sc_swapped : FnScope ["form"] ["form"] (defScope s_swapped) := ⟨rfl, rfl, rfl, by decide +kernel, rfl, by decide +kernel, by decide +kernel⟩
theorem sc_behind_swap : FnScope ["turning"] ["turning"] (defScope s_behind_swap) := ⟨rfl, rfl, rfl, by decide +kernel, rfl, by decide +kernel, by decide +kernel⟩
theorem sc_step_to_middle : FnScope ["form"] ["form"] (defScope s_step_to_middle) := ⟨rfl, rfl, rfl, by decide +kernel, rfl, by decide +kernel, by decide +kernel⟩
theorem sc_least_of : FnScope ["form", "step", "found", "turning"] ["form"] (defScope s_least_of) := ⟨rfl, rfl, rfl, by decide +kernel, rfl, by decide +kernel, by decide +kernel⟩
theorem sc_least_forms_from : FnScope ["bar", "a", "found", "b", "form"] ["bar", "a"] (defScope s_least_forms_from) := ⟨rfl, rfl, rfl, by decide +kernel, rfl, by decide +kernel, by decide +kernel⟩
theorem sc_least_forms : FnScope ["bar", "found", "a"] ["bar"] (defScope s_least_forms) := ⟨rfl, rfl, rfl, by decide +kernel, rfl, by decide +kernel, by decide +kernel⟩
theorem sc_classes : FnScope ["bar"] ["bar"] (defScope s_classes) := ⟨rfl, rfl, rfl, by decide +kernel, rfl, by decide +kernel, by decide +kernel⟩
theorem sc_greatest_row : FnScope ["bound", "bar", "y"] ["bound", "bar"] (defScope s_greatest_row) := ⟨rfl, rfl, rfl, by decide +kernel, rfl, by decide +kernel, by decide +kernel⟩
theorem sc_places_in_row : FnScope ["form", "y", "square", "middle", "double", "shift", "sides"] ["form", "y", "square"] (defScope s_places_in_row) := ⟨rfl, rfl, rfl, by decide +kernel, rfl, by decide +kernel, by decide +kernel⟩
theorem sc_places_of_least : FnScope ["form", "number", "bound", "bar", "top", "found", "y"] ["form", "number"] (defScope s_places_of_least) := ⟨rfl, rfl, rfl, by decide +kernel, rfl, by decide +kernel, by decide +kernel⟩
theorem sc_places : FnScope ["form", "number", "least"] ["form", "number"] (defScope s_places) := ⟨rfl, rfl, rfl, by decide +kernel, rfl, by decide +kernel, by decide +kernel⟩
theorem sc_ways : FnScope ["bar", "number", "found", "form"] ["bar", "number"] (defScope s_ways) := ⟨rfl, rfl, rfl, by decide +kernel, rfl, by decide +kernel, by decide +kernel⟩
theorem sc_side_by_prime : FnScope ["bar", "prime"] ["bar", "prime"] (defScope s_side_by_prime) := ⟨rfl, rfl, rfl, by decide +kernel, rfl, by decide +kernel, by decide +kernel⟩
theorem sc_side_by : FnScope ["bar", "divisor", "side", "prime"] ["bar", "divisor"] (defScope s_side_by) := ⟨rfl, rfl, rfl, by decide +kernel, rfl, by decide +kernel, by decide +kernel⟩
theorem sc_ways_of_one : FnScope ["bar"] ["bar"] (defScope s_ways_of_one) := ⟨rfl, rfl, rfl, by decide +kernel, rfl, by decide +kernel, by decide +kernel⟩
theorem sc_ways_sum : FnScope ["bar", "number", "divisors"] ["bar", "number"] (defScope s_ways_sum) := ⟨rfl, rfl, rfl, by decide +kernel, rfl, by decide +kernel, by decide +kernel⟩
theorem sc_law_ints : FnScope ["_law_found", "_law_size", "_law_number"] ["_law_found", "_law_size"] (defScope s_law_ints) := ⟨rfl, rfl, rfl, by decide +kernel, rfl, by decide +kernel, by decide +kernel⟩
theorem sc_law_cell_at : FnScope ["_law_script", "_law_k"] ["_law_script", "_law_k"] (defScope s_law_cell_at) := ⟨rfl, rfl, rfl, by decide +kernel, rfl, by decide +kernel, by decide +kernel⟩
theorem sc_law_worth : FnScope ["_law_form", "_law_place", "_law_x", "_law_y"] ["_law_form", "_law_place"] (defScope s_law_worth) := ⟨rfl, rfl, rfl, by decide +kernel, rfl, by decide +kernel, by decide +kernel⟩
theorem sc_law_divisor : FnScope ["_law_one", "_law_other", "_law_rest"] ["_law_one", "_law_other"] (defScope s_law_divisor) := ⟨rfl, rfl, rfl, by decide +kernel, rfl, by decide +kernel, by decide +kernel⟩
theorem sc_law_side : FnScope ["_law_bar", "_law_prime", "_law_found", "_law_k"] ["_law_bar", "_law_prime"] (defScope s_law_side) := ⟨rfl, rfl, rfl, by decide +kernel, rfl, by decide +kernel, by decide +kernel⟩
theorem sc_law_sides : FnScope ["_law_bar", "_law_number", "_law_found", "_law_prime"] ["_law_bar", "_law_number"] (defScope s_law_sides) := ⟨rfl, rfl, rfl, by decide +kernel, rfl, by decide +kernel, by decide +kernel⟩
theorem sc_law_many : FnScope ["_law_bar", "_law_number", "_law_total", "_law_part"] ["_law_bar", "_law_number"] (defScope s_law_many) := ⟨rfl, rfl, rfl, by decide +kernel, rfl, by decide +kernel, by decide +kernel⟩
theorem sc_law_told : FnScope ["_law_found", "_law_rows", "_law_number", "_law_at", "_law_k", "_law_pair"] ["_law_found", "_law_rows", "_law_number"] (defScope s_law_told) := ⟨rfl, rfl, rfl, by decide +kernel, rfl, by decide +kernel, by decide +kernel⟩
theorem sc_law : FnScope ["_law_script", "_law_a", "_law_b", "_law_c", "_law_bar", "_law_number", "_law_found", "_law_told_here", "_law_far", "_law_other", "_law_due", "_law_form"] ["_law_script"] (defScope s_law) := ⟨rfl, rfl, rfl, by decide +kernel, rfl, by decide +kernel, by decide +kernel⟩
section
variable {P : Program} {w : World} {K : PySem.W.Frag} {mg : Str → Option Value} {base : Heap}
theorem ok_is_whole {f : Addr} {fd : FuncData} (T : Tx mg) (F : Fun K "is_whole" "is_whole" s_is_whole f fd) (hm : mg "is_whole" = some (.ref f)) (hb : Binds K fd ["value"] []) : Fn P w K mg base 1 "is_whole" p_is_whole := by
  refine fn_mk F sc_is_whole hm hb (fun ds d h => ?_) (fun cdv A outer s H E hr ds d h => ?_)
  · obtain ⟨i, rfl, rfl⟩ := h
    exact ⟨rfl, fun a es => by simp⟩
  · obtain ⟨i, rfl, rfl⟩ := h
    exact do_ret (ev_andT (ev_isi T.isi (ev_v 0) T.int bo_int rfl kit_s) (ev_one (ev_notF (ev_isi T.isi (ev_v 0) T.bool bo_bool rfl kit_int_bool)))) rfl
theorem ok_is_whole_tuple {f : Addr} {fd : FuncData} (T : Tx mg) (G1 : Fn P w K mg base 1 "is_whole" p_is_whole) (F : Fun K "is_whole_tuple" "is_whole_tuple" s_is_whole_tuple f fd) (hm : mg "is_whole_tuple" = some (.ref f)) (hb : Binds K fd ["value", "length"] []) :
    Fn P w K mg base 2 "is_whole_tuple" p_is_whole_tuple := by
  refine fn_mk F sc_is_whole_tuple hm hb (fun ds d h => ?_) (fun cdv A outer s H E hr ds d h => ?_)
  · obtain ⟨ns, rfl, _, rfl⟩ := h
    exact ⟨rfl, fun a es => by simp⟩
  · obtain ⟨ns, rfl, hl, rfl⟩ := h
    have e1 : lenD (.tup (ns.map D.int)) = some ns.length := by simp [lenD]
    refine do_ifF (et_w (ew_orF (et_notT (et_val (ev_isi T.isi (ev_v 0) T.tuple bo_tuple rfl kit_s))) (ew_or1 (Et.ff (et_ne (ev_len T.len (ev_v 0) e1) (ev_v 1)) rfl)))) ?_
    · have hall : ((ns.map fun _ => true).map D.bl) = (((ns.map D.int).filter fun _ => true).map fun _ => D.bl true) := by
        rw [List.filter_eq_self.mpr (fun _ _ => rfl)]
        simp
      refine do_ret (ev_all (bs := ns.map fun _ => true) rfl T.all ?_) ?_
      · rw [hall]
        refine (evn_comp (ys := []) (js := []) (cl := []) (fun _ => true) (fun _ => .bl true) rfl (src_tup (ev_v 0)) (by simp; omega) (fun _ _ _ => .bl true) (fun C s₀ H₀ fp d hd => ets_nil) (fun C s₀ H₀ fp d hd _ => ?_) rfl (by decide) rfl (by decide) rfl (by decide) (fun y c h => by cases h) (no_free (by decide)) rfl (fun i j y h => by cases h)).ev
        · obtain ⟨z, _, rfl⟩ := List.mem_map.mp hd
          exact ev_call G1 hr (ea_cons (ev_v 0) ea_nil) ⟨z, rfl, rfl⟩
      · show D.bl _ = D.bl _
        congr 1
        simp
theorem ok_is_bar {f : Addr} {fd : FuncData} (G1 : Fn P w K mg base 1 "is_whole" p_is_whole) (F : Fun K "is_bar" "is_bar" s_is_bar f fd) (hm : mg "is_bar" = some (.ref f)) (hb : Binds K fd ["value"] []) : Fn P w K mg base 2 "is_bar" p_is_bar := by
  refine fn_mk F sc_is_bar hm hb (fun ds d h => ?_) (fun cdv A outer s H E hr ds d h => ?_)
  · obtain ⟨i, rfl, _⟩ := h
    exact ⟨rfl, fun a es => by simp⟩
  · obtain ⟨i, rfl, hi, h4, rfl⟩ := h
    refine do_ret (ev_andT (ev_call G1 hr (ea_cons (ev_v 0) ea_nil) ⟨i, rfl, rfl⟩) (ev_andT (Ev.tt (ev_lt (ev_v 0) ev_int) hi) (ev_one (Ev.to (ev_in (n := 0) (ds := [.int 0, .int 1]) hr (ev_mod (ev_v 0) ev_int (by decide)) (ev_tup (ea_cons ev_int (ea_cons ev_int ea_nil))) (.inr rfl) ?_) ?_)))) rfl
    · intro z hz
      simp only [List.mem_cons, List.not_mem_nil, or_false] at hz
      rcases hz with rfl | rfl <;> exact .int _ _
    · congr 1
      rw [inD_iff]
      rcases h4 with h | h <;> rw [h] <;> simp
theorem ok_require_bar {f : Addr} {fd : FuncData} (G1 : Fn P w K mg base 2 "is_bar" p_is_bar) (F : Fun K "require_bar" "require_bar" s_require_bar f fd) (hm : mg "require_bar" = some (.ref f)) (hb : Binds K fd ["value"] []) : Fn P w K mg base 3 "require_bar" p_require_bar := by
  refine fn_mk F sc_require_bar hm hb (fun ds d h => ?_) (fun cdv A outer s H E hr ds d h => ?_)
  · obtain ⟨i, rfl, _⟩ := h
    exact ⟨rfl, fun a es => by simp⟩
  · obtain ⟨i, rfl, hi, h4, rfl⟩ := h
    exact do_ifF (et_notT (et_val (ev_call G1 hr (ea_cons (ev_v 0) ea_nil) ⟨i, rfl, hi, h4, rfl⟩))) (do_nil rfl)
theorem ok_require_bar_from {f : Addr} {fd : FuncData} (G1 : Fn P w K mg base 3 "require_bar" p_require_bar) (F : Fun K "require_bar_from" "require_bar_from" s_require_bar_from f fd) (hm : mg "require_bar_from" = some (.ref f)) (hb : Binds K fd ["value", "lowest"] []) : Fn P w K mg base 4 "require_bar_from" p_require_bar_from := by
  refine fn_mk F sc_require_bar_from hm hb (fun ds d h => ?_) (fun cdv A outer s H E hr ds d h => ?_)
  · obtain ⟨i, l, rfl, _⟩ := h
    exact ⟨rfl, fun a es => by simp⟩
  · obtain ⟨i, l, rfl, hi, h4, hl, rfl⟩ := h
    refine do_expr (ev_call G1 hr (ea_cons (ev_v 0) ea_nil) ⟨i, rfl, hi, h4, rfl⟩) ?_
    exact do_ifF (Et.ff' (et_lt (ev_v 0) (ev_v 1)) (by omega)) (do_nil rfl)
theorem ok_require_whole {f : Addr} {fd : FuncData} (G1 : Fn P w K mg base 1 "is_whole" p_is_whole) (F : Fun K "require_whole" "require_whole" s_require_whole f fd) (hm : mg "require_whole" = some (.ref f)) (hb : Binds K fd ["value"] []) : Fn P w K mg base 2 "require_whole" p_require_whole := by
  refine fn_mk F sc_require_whole hm hb (fun ds d h => ?_) (fun cdv A outer s H E hr ds d h => ?_)
  · obtain ⟨i, rfl, _⟩ := h
    exact ⟨rfl, fun a es => by simp⟩
  · obtain ⟨i, rfl, rfl⟩ := h
    exact do_ifF (et_notT (et_val (ev_call G1 hr (ea_cons (ev_v 0) ea_nil) ⟨i, rfl, rfl⟩))) (do_nil rfl)
theorem ok_require_number {f : Addr} {fd : FuncData} (G1 : Fn P w K mg base 2 "require_whole" p_require_whole) (F : Fun K "require_number" "require_number" s_require_number f fd) (hm : mg "require_number" = some (.ref f)) (hb : Binds K fd ["value", "lowest", "highest"] []) : Fn P w K mg base 3 "require_number" p_require_number := by
  refine fn_mk F sc_require_number hm hb (fun ds d h => ?_) (fun cdv A outer s H E hr ds d h => ?_)
  · obtain ⟨n, l, h, rfl, _⟩ := h
    exact ⟨rfl, fun a es => by simp⟩
  · obtain ⟨n, l, h, rfl, h1, h2, rfl⟩ := h
    refine do_expr (ev_call G1 hr (ea_cons (ev_v 0) ea_nil) ⟨n, rfl, rfl⟩) ?_
    exact do_ifF (et_w (ew_orF (Et.ff' (et_lt (ev_v 0) (ev_v 1)) (by omega)) (ew_or1 (Et.ff' (et_gt (ev_v 0) (ev_v 2)) (by omega))))) (do_nil rfl)
theorem ok_common_divisor {f : Addr} {fd : FuncData} (T : Tx mg) (F : Fun K "common_divisor" "common_divisor" s_common_divisor f fd) (hm : mg "common_divisor" = some (.ref f)) (hb : Binds K fd ["one", "other"] []) :
    Fn P w K mg base 1 "common_divisor" p_common_divisor := by
  refine fn_mk F sc_common_divisor hm hb (fun ds d h => ?_) (fun cdv A outer s H E hr ds d h => ?_)
  · obtain ⟨a, b, rfl, rfl⟩ := h
    exact ⟨rfl, fun a es => by simp⟩
  · obtain ⟨a, b, rfl, rfl⟩ := h
    have nd := sc_common_divisor.nd
    refine do_set 2 (ev_abs T.abs (ev_v 0)) (.int _) (do_set 3 (ev_abs T.abs (ev_v 1)) (.int _) ?_ nd) nd
    refine do_while (fun ρ => ∃ g l r, ρ = [some (.int a), some (.int b), some (.int g), some (.int l), r] ∧ 0 ≤ g ∧ 0 ≤ l ∧ Int.gcd g l = Int.gcd a b)
      (fun ρ => ∃ g r, ρ = [some (.int a), some (.int b), some (.int g), some (.int 0), r] ∧ 0 ≤ g ∧ Int.gcd g 0 = Int.gcd a b)
      (fun ρ => (intAt ρ 3).natAbs) PassesOwn.never ⟨(a.natAbs : Int), (b.natAbs : Int), none, rfl, by omega, by omega, M.gcd_abs a b⟩ ?_ ?_
    · rintro ρ ⟨g, l, r, rfl, hg, hl, e⟩
      refine ⟨_, et_ne (ev_v 3) ev_int, fun hk => ?_, fun hk => ?_⟩
      · have hl0 : l ≠ 0 := by simpa using hk
        have hp : 0 < l := by omega
        have h1 := Int.emod_nonneg g hl0
        have h2 := Int.emod_lt_of_pos g hp
        refine do_set 4 (ev_mod (ev_v 2) (ev_v 3) hp) (.int _) (do_set 2 (ev_v 3) (.int _) (do_set 3 (ev_v 4) (.int _) (do_nil ⟨⟨l, g % l, _, rfl, hl, h1, ?_⟩, ?_⟩) nd) nd) nd
        · rw [M.emod_gcd]
          exact e
        · show (g % l).natAbs < l.natAbs
          omega
      · have hl0 : l = 0 := by simpa using hk
        subst hl0
        exact ⟨g, r, rfl, hg, e⟩
    · rintro ρ ⟨g, r, rfl, hg, e⟩
      refine do_ret (ev_v 2) ?_
      show D.int g = D.int _
      rw [← e, Int.gcd_zero_right]
      congr 1
      omega
set_option maxHeartbeats 4000000 in
theorem ok_root_of {f : Addr} {fd : FuncData} (F : Fun K "root_of" "root_of" s_root_of f fd) (hm : mg "root_of" = some (.ref f)) (hb : Binds K fd ["number"] []) : Fn P w K mg base 1 "root_of" p_root := by
  refine fn_mk F sc_root_of hm hb (fun ds d h => ?_) (fun cdv A outer s H E hr ds d h => ?_)
  · obtain ⟨n, rfl, _, _, rfl⟩ := h
    exact ⟨rfl, fun a es => by simp⟩
  · obtain ⟨n, rfl, hn, bn, rfl⟩ := h
    have nd := sc_root_of.nd
    refine do_set 1 (ev_v 0) (.int _) ?_ nd
    refine do_set 2 (ev_div (m := 3) (ev_add (ev_v 0) ev_int) ev_int (by decide) .lit) (.int _) ?_ nd
    refine do_while (fun ρ => ∃ g b : Int, ρ = [some (.int n), some (.int g), some (.int b)] ∧ 0 ≤ g ∧ g ≤ n ∧ n < (g + 1) * (g + 1) ∧ (n = 0 ∧ b = 0 ∨ 0 < g ∧ b = (g + n / g) / 2)) (fun ρ => ∃ u, ρ = [some (.int n), some (.int (MS.rt n)), u]) (fun ρ => (intAt ρ 1).toNat) PassesOwn.never ⟨n, (n + 1) / 2, rfl, hn, Int.le_refl _, ?_, ?_⟩ ?_ ?_
    · have : (n + 1) * (n + 1) = n * n + 2 * n + 1 := by grind
      have := MS.sq_nn n
      omega
    · rcases Int.lt_or_eq_of_le hn with h | h
      · refine .inr ⟨h, ?_⟩
        rw [Int.ediv_self (by omega)]
      · exact .inl ⟨h.symm, by rw [← h]; rfl⟩
    · rintro ρ ⟨g, b, rfl, g0, gn, gs, hb⟩
      refine ⟨_, et_lt (ev_v 2) (ev_v 1), fun hk => ?_, fun hk => ?_⟩
      · have hk' : b < g := by simpa using hk
        rcases hb with ⟨h1, h2⟩ | ⟨h1, h2⟩
        · omega
        have q1 : 1 ≤ n / g := Int.le_ediv_of_mul_le h1 (by omega)
        have bg : Bd b 4000 := bn.le (by omega)
        have N := newton (n := n) (g := g) (by omega) h1
        rw [← h2] at N
        refine do_set 1 (ev_v 2) (.int _) ?_ nd
        refine do_set 2 (ev_div (m := 3) (ev_add (ev_v 1) (ev_div (ev_v 0) (ev_v 1) (by omega) bg)) ev_int (by decide) .lit) (.int _) (do_nil ⟨⟨b, _, rfl, by omega, by omega, N, .inr ⟨by omega, rfl⟩⟩, ?_⟩) nd
        show b.toNat < g.toNat
        omega
      · have hk' : ¬ b < g := by simpa using hk
        have : MS.rt n = g := by
          refine MS.rt_of g0 ?_ gs
          rcases hb with ⟨h1, h2⟩ | ⟨h1, h2⟩
          · have : g = 0 := by omega
            rw [this, h1]
            decide
          · have e1 := Int.mul_ediv_add_emod n g
            have e2 := Int.emod_nonneg n (show g ≠ 0 by omega)
            have q : g ≤ n / g := by omega
            have := Int.mul_le_mul_of_nonneg_left q g0
            omega
        rw [this]
        exact ⟨_, rfl⟩
    · rintro ρ ⟨u, rfl⟩
      exact do_ret (ev_v 1) rfl
set_option maxHeartbeats 4000000 in
theorem ok_prime_factors {f : Addr} {fd : FuncData} (F : Fun K "prime_factors" "prime_factors" s_prime_factors f fd) (hm : mg "prime_factors" = some (.ref f)) (hb : Binds K fd ["number"] []) : FnL P w K mg base 1 "prime_factors" p_pf := by
  refine fnl_mk F sc_prime_factors hm hb (fun ds es h => ?_) (fun cdv A outer s H E hr ds es h => ?_)
  · obtain ⟨p, rfl, _⟩ := h
    exact ⟨rfl, fun a es => by simp [nD]⟩
  · obtain ⟨n, rfl, n0, n1, rfl⟩ := h
    have nd := sc_prime_factors.nd
    refine do_set 1 (ev_v 0) (.int _) ?_ nd
    refine do_setN 2 (evn_list ea_nil) (fun d hd => by cases hd) (fun l _ => ?_) nd
    refine do_set 3 ev_int (.int _) ?_ nd
    refine do_while (fun ρ => ∃ (k r : Nat) (fs : List Nat), ρ = [some (nD n), some (nD r), some (.lst l (fs.map nD)), some (nD k)] ∧ 2 ≤ k ∧ k ≤ n + 1 ∧ 0 < r ∧ 2 ^ fs.length * r ≤ n ∧ MD.PF n = fs ++ MD.PF r ∧ ∀ d, 2 ≤ d → d ∣ r → k ≤ d)
      (fun ρ => ∃ (k r : Nat) (fs : List Nat), ρ = [some (nD n), some (nD r), some (.lst l (fs.map nD)), some (nD k)] ∧ 0 < r ∧ 2 ^ fs.length * r ≤ n ∧ MD.PF n = fs ++ MD.PF r ∧ (∀ d, 2 ≤ d → d ∣ r → k ≤ d) ∧ r < k * k) (fun ρ => (n + 2 - intAt ρ 3).toNat) PassesOwn.never ⟨2, n, [], rfl, by decide, by omega, n0, by simp, rfl, fun d h _ => h⟩ ?_ ?_
    · rintro ρ ⟨k, r, fs, rfl, k2, kn, r0, hl, e, hd⟩
      have rn : r ≤ n := Nat.le_trans (Nat.le_mul_of_pos_left r (Nat.pow_pos (by decide))) hl
      have bk : Bd (k : Int) 22 := .of_lt (by omega)
      refine ⟨_, et_le (ev_mul (ev_v 3) (ev_v 3) bk bk) (ev_v 1), fun hk => ?_, fun hk => ?_⟩
      · have hk' : k * k ≤ r := by
          have : (k : Int) * (k : Int) ≤ (r : Int) := by simpa using hk
          exact_mod_cast this
        have kr : k ≤ r := Nat.le_trans (Nat.le_mul_self k) hk'
        refine do_while (fun ρ => ∃ (r : Nat) (fs : List Nat), ρ = [some (nD n), some (nD r), some (.lst l (fs.map nD)), some (nD k)] ∧ 0 < r ∧ 2 ^ fs.length * r ≤ n ∧ MD.PF n = fs ++ MD.PF r ∧ ∀ d, 2 ≤ d → d ∣ r → k ≤ d)
          (fun ρ => ∃ (r : Nat) (fs : List Nat), ρ = [some (nD n), some (nD r), some (.lst l (fs.map nD)), some (nD k)] ∧ 0 < r ∧ 2 ^ fs.length * r ≤ n ∧ MD.PF n = fs ++ MD.PF r ∧ (∀ d, 2 ≤ d → d ∣ r → k ≤ d) ∧ ¬ k ∣ r) (fun ρ => (intAt ρ 1).toNat) PassesOwn.never ⟨r, fs, rfl, r0, hl, e, hd⟩ ?_ ?_
        · rintro ρ ⟨r, fs, rfl, r0, hl, e, hd⟩
          refine ⟨_, et_eq (ev_mod (ev_v 1) (ev_v 3) (by omega)) ev_int, fun hk => ?_, fun hk => ?_⟩
          · have hk' : r % k = 0 := by
              have : (r : Int) % (k : Int) = 0 := by simpa using hk
              exact_mod_cast this
            obtain ⟨m, rfl⟩ := Nat.dvd_of_mod_eq_zero hk'
            have m0 : 0 < m := Nat.pos_of_mul_pos_left r0
            have fl : fs.length < 22 := pow_small (Nat.le_trans (Nat.le_mul_of_pos_right _ r0) hl) n1
            have e2 : MD.PF (k * m) = k :: MD.PF m := MD.PF_cons k2 m0 hd
            have em : ((k * m : Nat) : Int) / (k : Int) = (m : Int) := by
              rw [Int.natCast_mul]
              exact Int.mul_ediv_cancel_left _ (by omega)
            refine do_append 2 rfl (ev_v 3) (.int _) (by rw [List.length_map]; omega) (others_of rfl) ?_
            refine do_set 1 (d := nD m) (Ev.to (ev_div (ev_v 1) (ev_v 3) (by omega) bk) (congrArg D.int em)) (.int _) (do_nil ⟨⟨m, fs ++ [k], ?_, m0, ?_, ?_, fun d d2 dm => hd d d2 (Nat.dvd_trans dm (Nat.dvd_mul_left m k))⟩, ?_⟩) nd
            · rw [List.map_append]
              rfl
            · rw [List.length_append, List.length_singleton, Nat.pow_succ, Nat.mul_assoc]
              exact Nat.le_trans (Nat.mul_le_mul_left _ (Nat.mul_le_mul_right m k2)) hl
            · rw [e, e2, List.append_assoc]
              rfl
            · show ((m : Nat) : Int).toNat < ((k * m : Nat) : Int).toNat
              have := Nat.mul_le_mul_right m k2
              omega
          · have hk' : ¬ r % k = 0 := fun z => by
              have : ¬ (r : Int) % (k : Int) = 0 := by simpa using hk
              exact this (by exact_mod_cast z)
            exact ⟨r, fs, rfl, r0, hl, e, hd, fun z => hk' (Nat.mod_eq_zero_of_dvd z)⟩
        · rintro ρ ⟨r', fs', rfl, r0', hl', e', hd', hn⟩
          refine do_aug 3 rfl ev_int (do_nil ⟨⟨k + 1, r', fs', rfl, by omega, by omega, r0', hl', e', fun d d2 dr => ?_⟩, ?_⟩) nd
          · have h1 := hd' d d2 dr
            by_cases z : d = k
            · subst z
              exact absurd dr hn
            · omega
          · show ((n : Int) + 2 - ((k : Int) + 1)).toNat < ((n : Int) + 2 - (k : Int)).toNat
            omega
      · have hk' : r < k * k := by
          have : ¬ (k : Int) * (k : Int) ≤ (r : Int) := by simpa using hk
          exact Nat.not_le.mp fun z => this (by exact_mod_cast z)
        exact ⟨k, r, fs, rfl, r0, hl, e, hd, hk'⟩
    · rintro ρ ⟨k, r, fs, rfl, r0, hl, e, hd, hk⟩
      have fl : fs.length < 22 := pow_small (Nat.le_trans (Nat.le_mul_of_pos_right _ r0) hl) n1
      refine do_if (fun ρ => ρ = [some (nD n), some (nD r), some (.lst l ((MD.PF n).map nD)), some (nD k)]) (et_gt (ev_v 1) ev_int) (fun hk => ?_) (fun hk => ?_) ?_
      · have h1 : 1 < r := by
          have : (1 : Int) < (r : Int) := by simpa using hk
          omega
        refine do_append 2 rfl (ev_v 1) (.int _) (by rw [List.length_map]; omega) (others_of rfl) (do_nil ?_)
        rw [e, PF_last h1 hd (by assumption), List.map_append]
        rfl
      · have h1 : r = 1 := by
          have : ¬ (1 : Int) < (r : Int) := by simpa using hk
          omega
        refine do_nil ?_
        rw [e, h1, MD.PF_small (show 1 < 2 by decide), List.append_nil]
      · rintro ρ rfl
        exact do_ret (ev_v 2) ⟨l, rfl⟩ (fun a es z => by cases z; exact ⟨2, _, rfl⟩)
set_option maxHeartbeats 1000000 in
theorem ok_power_by {f : Addr} {fd : FuncData} (F : Fun K "power_by" "power_by" s_power_by f fd) (hm : mg "power_by" = some (.ref f)) (hb : Binds K fd ["base", "exponent", "divisor"] []) : Fn P w K mg base 1 "power_by" p_power := by
  refine fn_mk F sc_power_by hm hb (fun ds d h => ?_) (fun cdv A outer s H E hr ds d h => ?_)
  · obtain ⟨b, p, e, rfl, _⟩ := h
    exact ⟨rfl, fun a es => by simp⟩
  · obtain ⟨b, p, e, rfl, p2, pl, b0, b1, rfl⟩ := h
    have nd := sc_power_by.nd
    refine do_set 3 ev_int (.int _) ?_ nd
    refine do_while (fun ρ => ∃ (g t : Int) (n : Nat), ρ = [some (.int t), some (.int (n : Int)), some (.int p), some (.int g)] ∧ 0 ≤ g ∧ g < p ∧ 0 ≤ t ∧ t < p ∧ MP.Sm p (g * t ^ n) (b ^ e))
      (fun ρ => ∃ (g : Int) (u v : Option D), ρ = [u, v, some (.int p), some (.int g)] ∧ 0 ≤ g ∧ g < p ∧ MP.Sm p g (b ^ e)) (fun ρ => (intAt ρ 1).natAbs) PassesOwn.never ⟨1, b, e, rfl, by omega, by omega, b0, b1, by rw [Int.one_mul]; exact MP.Sm.refl _ _⟩ ?_ ?_
    · rintro ρ ⟨g, t, n, rfl, g0, g1, t0, t1, hs⟩
      have bg : Bd g 22 := .of_lt (by omega)
      have bt : Bd t 22 := .of_lt (by omega)
      refine ⟨_, et_gt (ev_v 1) ev_int, fun hk => ?_, fun hk => ?_⟩
      · have n0 : 0 < n := by simpa using hk
        have hs2 := (MP.Sm.symm (pow_half p g t n)).trans hs
        refine do_if (fun ρ => ρ = [some (.int t), some (.int (n : Int)), some (.int p), some (.int (if n % 2 = 1 then g * t % p else g))]) (et_eq (ev_mod (ev_v 1) ev_int (by decide)) ev_int) (fun hk => ?_) (fun hk => ?_) ?_
        · have h1 : n % 2 = 1 := by simp only [decide_eq_true_eq] at hk; omega
          rw [if_pos h1]
          exact do_set 3 (ev_mod (ev_mul (ev_v 3) (ev_v 0) bg bt) (ev_v 2) (by omega)) (.int _) (do_nil rfl) nd
        · have h1 : ¬ n % 2 = 1 := by simp only [decide_eq_false_iff_not] at hk; omega
          rw [if_neg h1]
          exact do_nil rfl
        · rintro ρ rfl
          have g2 : 0 ≤ (if n % 2 = 1 then g * t % p else g) ∧ (if n % 2 = 1 then g * t % p else g) < p := by
            split
            · exact ⟨Int.emod_nonneg _ (by omega), Int.emod_lt_of_pos _ (by omega)⟩
            · exact ⟨g0, g1⟩
          generalize (if n % 2 = 1 then g * t % p else g) = g' at *
          refine do_set 0 (ev_mod (ev_mul (ev_v 0) (ev_v 0) bt bt) (ev_v 2) (by omega)) (.int _) ?_ nd
          refine do_set 1 (d := .int ((n / 2 : Nat) : Int)) (Ev.to (ev_div (ev_v 1) ev_int (by decide) bd_2) (congrArg D.int (by omega))) (.int _) (do_nil ⟨⟨g', t * t % p, n / 2, rfl, g2.1, g2.2, Int.emod_nonneg _ (by omega), Int.emod_lt_of_pos _ (by omega), hs2⟩, ?_⟩) nd
          show (((n / 2 : Nat) : Int)).natAbs < ((n : Int)).natAbs
          omega
      · have n0 : n = 0 := by simp only [decide_eq_false_iff_not] at hk; omega
        subst n0
        refine ⟨g, _, _, rfl, g0, g1, ?_⟩
        rw [Int.pow_zero, Int.mul_one] at hs
        exact hs
    · rintro ρ ⟨g, u, v, rfl, g0, g1, hs⟩
      refine do_ret (ev_v 3) ?_
      show D.int _ = D.int _
      congr 1
      have e := hs.emod
      rw [Int.emod_eq_of_lt g0 g1] at e
      exact e
theorem ok_leaves_square {f : Addr} {fd : FuncData} (G1 : Fn P w K mg base 1 "power_by" p_power) (F : Fun K "leaves_square" "leaves_square" s_leaves_square f fd) (hm : mg "leaves_square" = some (.ref f)) (hb : Binds K fd ["number", "prime"] []) : Fn P w K mg base 2 "leaves_square" p_leaves := by
  refine fn_mk F sc_leaves_square hm hb (fun ds d h => ?_) (fun cdv A outer s H E hr ds d h => ?_)
  · obtain ⟨i, p, rfl, _⟩ := h
    exact ⟨rfl, fun a es => by simp [nD]⟩
  · obtain ⟨i, p, rfl, p3, po, pl, rfl⟩ := h
    have e1 : ((p : Int) - 1) / 2 = ((p / 2 : Nat) : Int) := by omega
    have e2 : (i % (p : Int)) ^ (p / 2) % (p : Int) = i ^ (p / 2) % (p : Int) := ((MP.Sm.mod (p : Int) i).pow _).emod
    refine do_ret (ev_eq (Ev.to (ev_call G1 hr (ea_cons (ev_mod (ev_v 0) (ev_v 1) (by omega)) (ea_cons (Ev.to (ev_div (ev_sub (ev_v 1) ev_int) ev_int (by decide) bd_2) (congrArg D.int e1)) (ea_cons (ev_v 1) ea_nil))) ⟨i % (p : Int), p, p / 2, rfl, by omega, by omega, Int.emod_nonneg _ (by omega), Int.emod_lt_of_pos _ (by omega), rfl⟩) (congrArg D.int e2)) ev_int) rfl
theorem ok_bar_of_numbers {f : Addr} {fd : FuncData} (F : Fun K "bar_of_numbers" "bar_of_numbers" s_bar_of_numbers f fd) (hm : mg "bar_of_numbers" = some (.ref f)) (hb : Binds K fd ["a", "b", "c"] []) :
    Fn P w K mg base 1 "bar_of_numbers" p_bar_of_numbers := by
  refine fn_mk F sc_bar_of_numbers hm hb (fun ds d h => ?_) (fun cdv A outer s H E hr ds d h => ?_)
  · obtain ⟨a, b, c, rfl, _, _, _, rfl⟩ := h
    exact ⟨rfl, fun a es => by simp⟩
  · obtain ⟨a, b, c, rfl, ha, hb, hc, rfl⟩ := h
    exact do_ret (ev_sub (ev_mul (ev_v 1) (ev_v 1) inferInstance inferInstance) (ev_mul (ev_mul ev_int (ev_v 0) inferInstance inferInstance) (ev_v 2) inferInstance inferInstance)) rfl
theorem ok_is_form {f : Addr} {fd : FuncData} (G1 : Fn P w K mg base 2 "is_whole_tuple" p_is_whole_tuple) (G2 : Fn P w K mg base 1 "bar_of_numbers" p_bar_of_numbers) (F : Fun K "is_form" "is_form" s_is_form f fd) (hm : mg "is_form" = some (.ref f)) (hb : Binds K fd ["value"] []) :
    Fn P w K mg base 3 "is_form" p_is_form := by
  refine fn_mk F sc_is_form hm hb (fun ds d h => ?_) (fun cdv A outer s H E hr ds d h => ?_)
  · obtain ⟨a, b, c, rfl, _, rfl⟩ := h
    exact ⟨rfl, fun a es => by simp⟩
  · obtain ⟨a, b, c, rfl, hf, rfl⟩ := h
    refine do_ifF (et_notT (et_val (ev_call G1 hr (ea_cons (ev_v 0) (ea_cons ev_int ea_nil)) ⟨[a, b, c], rfl, by simp, rfl⟩))) ?_
    refine do_ret (ev_andT (Ev.tt (ev_gt (ev_ix (ev_v 0) ev_int rfl) ev_int) hf.pos) (ev_one (Ev.tt (ev_lt (ev_call G2 (hr.mono (by decide)) (ea_cons (ev_ix (ev_v 0) ev_int rfl) (ea_cons (ev_ix (ev_v 0) ev_int rfl) (ea_cons (ev_ix (ev_v 0) ev_int rfl) ea_nil)))
      ⟨a, b, c, rfl, hf.sa, hf.sb, hf.sc, rfl⟩) ev_int) hf.bar))) rfl
theorem ok_require_form {f : Addr} {fd : FuncData} (G1 : Fn P w K mg base 3 "is_form" p_is_form) (F : Fun K "require_form" "require_form" s_require_form f fd) (hm : mg "require_form" = some (.ref f)) (hb : Binds K fd ["value"] []) :
    Fn P w K mg base 4 "require_form" p_require_form := by
  refine fn_mk F sc_require_form hm hb (fun ds d h => ?_) (fun cdv A outer s H E hr ds d h => ?_)
  · obtain ⟨a, b, c, rfl, _, rfl⟩ := h
    exact ⟨rfl, fun a es => by simp⟩
  · obtain ⟨a, b, c, rfl, hf, rfl⟩ := h
    exact do_ifF (et_notT (et_val (ev_call G1 hr (ea_cons (ev_v 0) ea_nil) ⟨a, b, c, rfl, hf, rfl⟩))) (do_nil rfl)
theorem ok_bar_of {f : Addr} {fd : FuncData} (G1 : Fn P w K mg base 4 "require_form" p_require_form) (G2 : Fn P w K mg base 1 "bar_of_numbers" p_bar_of_numbers) (F : Fun K "bar_of" "bar_of" s_bar_of f fd) (hm : mg "bar_of" = some (.ref f)) (hb : Binds K fd ["form"] []) :
    Fn P w K mg base 5 "bar_of" p_bar_of := by
  refine fn_mk F sc_bar_of hm hb (fun ds d h => ?_) (fun cdv A outer s H E hr ds d h => ?_)
  · obtain ⟨a, b, c, rfl, _, rfl⟩ := h
    exact ⟨rfl, fun a es => by simp⟩
  · obtain ⟨a, b, c, rfl, hf, rfl⟩ := h
    refine do_expr (ev_call G1 hr (ea_cons (ev_v 0) ea_nil) ⟨a, b, c, rfl, hf, rfl⟩) ?_
    exact do_ret (ev_call G2 (hr.mono (by decide)) (ea_cons (ev_ix (ev_v 0) ev_int rfl) (ea_cons (ev_ix (ev_v 0) ev_int rfl) (ea_cons (ev_ix (ev_v 0) ev_int rfl) ea_nil))) ⟨a, b, c, rfl, hf.sa, hf.sb, hf.sc, rfl⟩) rfl
theorem ok_is_bare {f : Addr} {fd : FuncData} (G1 : Fn P w K mg base 4 "require_form" p_require_form) (G2 : Fn P w K mg base 1 "common_divisor" p_common_divisor) (F : Fun K "is_bare" "is_bare" s_is_bare f fd) (hm : mg "is_bare" = some (.ref f)) (hb : Binds K fd ["form"] []) :
    Fn P w K mg base 5 "is_bare" p_is_bare := by
  refine fn_mk F sc_is_bare hm hb (fun ds d h => ?_) (fun cdv A outer s H E hr ds d h => ?_)
  · obtain ⟨a, b, c, rfl, _, rfl⟩ := h
    exact ⟨rfl, fun a es => by simp⟩
  · obtain ⟨a, b, c, rfl, hf, rfl⟩ := h
    refine do_expr (ev_call G1 hr (ea_cons (ev_v 0) ea_nil) ⟨a, b, c, rfl, hf, rfl⟩) ?_
    have hr1 := hr.mono (show 1 ≤ 4 by decide)
    exact do_ret (ev_eq (ev_call G2 hr1 (ea_cons (ev_call G2 hr1 (ea_cons (ev_ix (ev_v 0) ev_int rfl) (ea_cons (ev_ix (ev_v 0) ev_int rfl) ea_nil)) ⟨a, b, rfl, rfl⟩) (ea_cons (ev_ix (ev_v 0) ev_int rfl) ea_nil)) ⟨_, c, rfl, rfl⟩) ev_int) rfl
theorem ok_sent {f : Addr} {fd : FuncData} (F : Fun K "sent" "sent" s_sent f fd) (hm : mg "sent" = some (.ref f)) (hb : Binds K fd ["turning", "place"] []) : Fn P w K mg base 1 "sent" p_law_sent := by
  refine fn_mk F sc_sent hm hb (fun ds d h => ?_) (fun cdv A outer s H E hr ds d h => ?_)
  · obtain ⟨p, q, r, s, x, y, rfl, _, _, _, _, _, _, rfl⟩ := h
    exact ⟨rfl, fun a es => by simp⟩
  · obtain ⟨p, q, r, s', x, y, rfl, hp, hq, hr', hs, hx, hy, rfl⟩ := h
    have nd := sc_sent.nd
    refine do_set 2 (ev_ix (ev_v 1) ev_int rfl) (.int _) ?_ nd
    refine do_set 3 (ev_ix (ev_v 1) ev_int rfl) (.int _) ?_ nd
    exact do_ret (ev_tup (ea_cons (ev_add (ev_mul (ev_ix (ev_v 0) ev_int rfl) (ev_v 2) hp hx) (ev_mul (ev_ix (ev_v 0) ev_int rfl) (ev_v 3) hq hy)) (ea_cons (ev_add (ev_mul (ev_ix (ev_v 0) ev_int rfl) (ev_v 2) hr' hx) (ev_mul (ev_ix (ev_v 0) ev_int rfl) (ev_v 3) hs hy)) ea_nil))) rfl
theorem ok_is_least {f : Addr} {fd : FuncData} (G1 : Fn P w K mg base 4 "require_form" p_require_form) (F : Fun K "is_least" "is_least" s_is_least f fd) (hm : mg "is_least" = some (.ref f)) (hb : Binds K fd ["form"] []) : Fn P w K mg base 5 "is_least" p_is_least := by
  refine fn_mk F sc_is_least hm hb (fun ds d h => ?_) (fun cdv A outer s H E hr ds d h => ?_)
  · obtain ⟨a, b, c, rfl, _, rfl⟩ := h
    exact ⟨rfl, fun a es => by simp⟩
  · obtain ⟨a, b, c, rfl, hf, rfl⟩ := h
    have nd := sc_is_least.nd
    refine do_expr (ev_call G1 hr (ea_cons (ev_v 0) ea_nil) ⟨a, b, c, rfl, hf, rfl⟩) ?_
    refine do_set 1 (ev_ix (ev_v 0) ev_int rfl) (.int _) ?_ nd
    refine do_set 2 (ev_ix (ev_v 0) ev_int rfl) (.int _) ?_ nd
    refine do_set 3 (ev_ix (ev_v 0) ev_int rfl) (.int _) ?_ nd
    refine do_ret (ev_and (ev_chain3 op_lt op_le op_le (ev_neg (ev_v 1)) (ev_v 2) (ev_v 1) (ev_v 3)) fun _ => (ev_one (ev_or (ev_ge (ev_v 2) ev_int) fun _ => (ev_one (ev_lt (ev_v 1) (ev_v 3)))))) ?_
    show D.bl _ = D.bl _
    congr 1
    rw [Bool.eq_iff_iff, MT.leastB_iff]
    simp only [Bool.or_eq_true, Bool.and_eq_true, decide_eq_true_eq]
    constructor
    · rintro ⟨⟨h1, h2, h3⟩, h4⟩
      exact ⟨h1, h2, h3, fun z => by omega⟩
    · intro L
      have h1 := L.lo
      have h2 := L.hi
      have h3 := L.ac
      have h4 := L.eq
      omega
theorem ok_stepped {f : Addr} {fd : FuncData} (F : Fun K "stepped" "stepped" s_stepped f fd) (hm : mg "stepped" = some (.ref f)) (hb : Binds K fd ["form", "step"] []) : Fn P w K mg base 1 "stepped" p_stepped := by
  refine fn_mk F sc_stepped hm hb (fun ds d h => ?_) (fun cdv A outer s H E hr ds d h => ?_)
  · obtain ⟨a, b, c, k, rfl, _, _, _, rfl⟩ := h
    exact ⟨rfl, fun a es => by simp⟩
  · obtain ⟨a, b, c, k, rfl, ha, hb, hk, rfl⟩ := h
    have nd := sc_stepped.nd
    refine do_set 2 (ev_ix (ev_v 0) ev_int rfl) (.int _) ?_ nd
    refine do_set 3 (ev_ix (ev_v 0) ev_int rfl) (.int _) ?_ nd
    exact do_ret (ev_tup (ea_cons (ev_v 2) (ea_cons (ev_add (ev_v 3) (ev_mul (ev_mul ev_int (ev_v 2) inferInstance inferInstance) (ev_v 1) inferInstance inferInstance)) (ea_cons (ev_add (ev_ix (ev_v 0) ev_int rfl) (ev_mul (ev_v 1) (ev_add (ev_v 3) (ev_mul (ev_v 2) (ev_v 1) inferInstance inferInstance)) inferInstance inferInstance)) ea_nil)))) rfl
theorem ok_behind_step {f : Addr} {fd : FuncData} (F : Fun K "behind_step" "behind_step" s_behind_step f fd) (hm : mg "behind_step" = some (.ref f)) (hb : Binds K fd ["turning", "step"] []) : Fn P w K mg base 1 "behind_step" p_behind_step := by
  refine fn_mk F sc_behind_step hm hb (fun ds d h => ?_) (fun cdv A outer s H E hr ds d h => ?_)
  · obtain ⟨p, q, r, s, k, rfl, _, _, _, rfl⟩ := h
    exact ⟨rfl, fun a es => by simp⟩
  · obtain ⟨p, q, r, s', k, rfl, hp, hr', hk, rfl⟩ := h
    have nd := sc_behind_step.nd
    refine do_set 2 (ev_ix (ev_v 0) ev_int rfl) (.int _) ?_ nd
    refine do_set 3 (ev_ix (ev_v 0) ev_int rfl) (.int _) ?_ nd
    exact do_ret (ev_tup (ea_cons (ev_v 2) (ea_cons (ev_add (ev_ix (ev_v 0) ev_int rfl) (ev_mul (ev_v 2) (ev_v 1) inferInstance inferInstance)) (ea_cons (ev_v 3) (ea_cons (ev_add (ev_ix (ev_v 0) ev_int rfl) (ev_mul (ev_v 3) (ev_v 1) inferInstance inferInstance)) ea_nil))))) rfl
theorem ok_swapped {f : Addr} {fd : FuncData} (F : Fun K "swapped" "swapped" s_swapped f fd) (hm : mg "swapped" = some (.ref f)) (hb : Binds K fd ["form"] []) : Fn P w K mg base 1 "swapped" p_swapped := by
  refine fn_mk F sc_swapped hm hb (fun ds d h => ?_) (fun cdv A outer s H E hr ds d h => ?_)
  · obtain ⟨a, b, c, rfl, rfl⟩ := h
    exact ⟨rfl, fun a es => by simp⟩
  · obtain ⟨a, b, c, rfl, rfl⟩ := h
    exact do_ret (ev_tup (ea_cons (ev_ix (ev_v 0) ev_int rfl) (ea_cons (ev_neg (ev_ix (ev_v 0) ev_int rfl)) (ea_cons (ev_ix (ev_v 0) ev_int rfl) ea_nil)))) rfl
theorem ok_behind_swap {f : Addr} {fd : FuncData} (F : Fun K "behind_swap" "behind_swap" s_behind_swap f fd) (hm : mg "behind_swap" = some (.ref f)) (hb : Binds K fd ["turning"] []) : Fn P w K mg base 1 "behind_swap" p_behind_swap := by
  refine fn_mk F sc_behind_swap hm hb (fun ds d h => ?_) (fun cdv A outer s H E hr ds d h => ?_)
  · obtain ⟨p, q, r, s, rfl, rfl⟩ := h
    exact ⟨rfl, fun a es => by simp⟩
  · obtain ⟨p, q, r, s', rfl, rfl⟩ := h
    exact do_ret (ev_tup (ea_cons (ev_ix (ev_v 0) ev_int rfl) (ea_cons (ev_neg (ev_ix (ev_v 0) ev_int rfl)) (ea_cons (ev_ix (ev_v 0) ev_int rfl) (ea_cons (ev_neg (ev_ix (ev_v 0) ev_int rfl)) ea_nil))))) rfl
theorem ok_step_to_middle {f : Addr} {fd : FuncData} (F : Fun K "step_to_middle" "step_to_middle" s_step_to_middle f fd) (hm : mg "step_to_middle" = some (.ref f)) (hb : Binds K fd ["form"] []) : Fn P w K mg base 1 "step_to_middle" p_step_to_middle := by
  refine fn_mk F sc_step_to_middle hm hb (fun ds d h => ?_) (fun cdv A outer s H E hr ds d h => ?_)
  · obtain ⟨a, b, c, rfl, _, _, rfl⟩ := h
    exact ⟨rfl, fun a es => by simp⟩
  · obtain ⟨a, b, c, rfl, pos, ha, rfl⟩ := h
    exact do_ret (ev_div (ev_sub (ev_ix (ev_v 0) ev_int rfl) (ev_ix (ev_v 0) ev_int rfl)) (ev_mul ev_int (ev_ix (ev_v 0) ev_int rfl) inferInstance inferInstance) (by omega) inferInstance) rfl
theorem ok_least_of {f : Addr} {fd : FuncData} (G1 : Fn P w K mg base 4 "require_form" p_require_form) (G2 : Fn P w K mg base 1 "step_to_middle" p_step_to_middle) (G3 : Fn P w K mg base 1 "stepped" p_stepped) (G4 : Fn P w K mg base 1 "behind_step" p_behind_step) (G5 : Fn P w K mg base 1 "swapped" p_swapped) (G6 : Fn P w K mg base 1 "behind_swap" p_behind_swap)
    (C1 : Con K mg "NO_TURN" (turD 1 0 0 1)) (F : Fun K "least_of" "least_of" s_least_of f fd) (hm : mg "least_of" = some (.ref f)) (hb : Binds K fd ["form"] []) : FnR P w K mg base 5 "least_of" pre_form post_least_of := by
  refine fnr_mk F sc_least_of hm hb (fun ds h => ?_) (fun cdv A outer s H E hr ds h => ?_)
  · obtain ⟨a, b, c, rfl, _⟩ := h
    exact ⟨rfl, fun a es => by simp⟩
  · obtain ⟨a, b, c, rfl, fS⟩ := h
    have nd := sc_least_of.nd
    have hr1 := hr.mono (show 1 ≤ 4 by decide)
    refine do_expr (ev_call G1 hr (ea_cons (ev_v 0) ea_nil) ⟨a, b, c, rfl, fS.n, rfl⟩) ?_
    have L0 : Leads a b c 1 0 0 1 a b c := by
      refine ⟨by omega, ?_, ?_, ?_⟩ <;> (try unfold MT.Wo) <;> grind
    refine do_set 1 (ev_call G2 hr1 (ea_cons (ev_v 0) ea_nil) ⟨a, b, c, rfl, fS.pos, fS.sa.up _ (by decide), rfl⟩) (.int _) ?_ nd
    obtain ⟨lo, hi, f1, kb⟩ := shift_S fS
    have L1 := L0.stepK ((a - b) / (2 * a))
    generalize (a - b) / (2 * a) = k0 at *
    refine do_set 2 (ev_call G3 hr1 (ea_cons (ev_v 0) (ea_cons (ev_v 1) ea_nil)) ⟨a, b, c, k0, rfl, fS.n.sa, fS.n.sb, kb.up _ (by decide), rfl⟩) (fz3 _ _ _) ?_ nd
    refine do_set 3 (ev_call G4 hr1 (ea_cons (ev_con C1) (ea_cons (ev_v 1) ea_nil)) ⟨1, 0, 0, 1, k0, rfl, .lit, .lit, kb.up _ (by decide), rfl⟩) (fz_ints [_, _, _, _]) ?_ nd
    refine do_while (fun ρ => ∃ x y z p q r s' u, ρ = [some (formD a b c), u, some (formD x y z), some (turD p q r s')] ∧ FormS x y z ∧ Leads a b c p q r s' x y z ∧ -x < y ∧ y ≤ x)
      (fun ρ => ∃ x y z p q r s' u, ρ = [some (formD a b c), u, some (formD x y z), some (turD p q r s')] ∧ FormS x y z ∧ Leads a b c p q r s' x y z ∧ MT.Least x y z)
      (fun ρ => meas2 ρ 2) PassesOwn.never ⟨_, _, _, _, _, _, _, _, rfl, f1, L1, lo, hi⟩ ?_ ?_
    · rintro ρ ⟨x, y, z, p, q, r, s', u, rfl, g, ld, hlo, hhi⟩
      refine ⟨_, et_w (ew_or (et_gt (ev_ix (ev_v 2) ev_int rfl) (ev_ix (ev_v 2) ev_int rfl)) fun _ => ew_or1 (et_w (ew_and (et_eq (ev_ix (ev_v 2) ev_int rfl) (ev_ix (ev_v 2) ev_int rfl)) fun _ => ew_and1 (et_lt (ev_ix (ev_v 2) ev_int rfl) ev_int)))), fun hk => ?_, fun hk => ?_⟩
      · simp only [Bool.or_eq_true, Bool.and_eq_true, decide_eq_true_eq] at hk
        obtain ⟨_, g1⟩ := swap_ok g g.zpos
        have L2 := ld.swapK
        have tN := ld.turn fS g
        have tN2 := L2.turn fS g1
        refine do_set 2 (ev_call G5 hr1 (ea_cons (ev_v 2) ea_nil) ⟨x, y, z, rfl, rfl⟩) (fz3 _ _ _) ?_ nd
        refine do_set 3 (ev_call G6 hr1 (ea_cons (ev_v 3) ea_nil) ⟨p, q, r, s', rfl, rfl⟩) (fz_ints [_, _, _, _]) ?_ nd
        refine do_set 1 (ev_call G2 hr1 (ea_cons (ev_v 2) ea_nil) ⟨z, -y, x, rfl, g1.pos, g1.sa.up _ (by decide), rfl⟩) (.int _) ?_ nd
        obtain ⟨lo', hi', g2, kb'⟩ := shift_S g1
        have L3 := L2.stepK ((z - -y) / (2 * z))
        have hm : meas2At z (-y + 2 * z * ((z - -y) / (2 * z))) < meas2At x y := meas2_lt g.zpos hlo hk
        generalize (z - -y) / (2 * z) = k at *
        refine do_set 2 (ev_call G3 hr1 (ea_cons (ev_v 2) (ea_cons (ev_v 1) ea_nil)) ⟨z, -y, x, k, rfl, g1.n.sa, g1.n.sb, kb'.up _ (by decide), rfl⟩) (fz3 _ _ _) ?_ nd
        refine do_set 3 (ev_call G4 hr1 (ea_cons (ev_v 3) (ea_cons (ev_v 1) ea_nil)) ⟨q, -p, s', -r, k, rfl, tN2.sp.up _ (by decide), tN2.sr.up _ (by decide), kb'.up _ (by decide), rfl⟩) (fz_ints [_, _, _, _]) (do_nil ⟨⟨_, _, _, _, _, _, _, _, rfl, g2, L3, lo', hi'⟩, hm⟩) nd
      · simp only [Bool.or_eq_false_iff, Bool.and_eq_false_iff, decide_eq_false_iff_not] at hk
        exact ⟨x, y, z, p, q, r, s', u, rfl, g, ld, hlo, hhi, by omega, fun e => by omega⟩
    · rintro ρ ⟨x, y, z, p, q, r, s', u, rfl, g, ld, L⟩
      refine do_ret (ev_tup (ea_cons (ev_v 2) (ea_cons (ev_v 3) ea_nil))) ?_
      intro a2 b2 c2 e
      cases e
      exact ⟨x, y, z, p, q, r, s', rfl, L, g, ld.turn fS g, ld⟩
set_option maxHeartbeats 4000000 in
theorem ok_least_forms_from {f : Addr} {fd : FuncData} (T : Tx mg) (G1 : Fn P w K mg base 5 "is_least" p_is_least) (F : Fun K "least_forms_from" "least_forms_from" s_least_forms_from f fd) (hm : mg "least_forms_from" = some (.ref f)) (hb : Binds K fd ["bar", "a"] []) : FnL P w K mg base 6 "least_forms_from" p_lff := by
  refine fnl_mk F sc_least_forms_from hm hb (fun ds es h => ?_) (fun cdv A outer s H E hr ds es h => ?_)
  · obtain ⟨i, a, rfl, _⟩ := h
    exact ⟨rfl, fun a es => by simp⟩
  · obtain ⟨i, a, rfl, hi, a0, a1, rfl⟩ := h
    have nd := sc_least_forms_from.nd
    have i0 := hi.d.neg
    have i1 := hi.low
    have ba : Bd a 6 := .of_lt (by omega)
    refine do_setN 2 (evn_list ea_nil) (fun d hd => by cases hd) (fun l _ => ?_) nd
    refine do_for 3 (fun t ρ => ∃ u v, ρ = [some (.int i), some (.int a), some (.lst l ((lfN i a t).map qD)), u, v] ∧ t ≤ (2 * a + 1).toNat) (fun ρ => ∃ u v, ρ = [some (.int i), some (.int a), some (.lst l ((lfA i a).map qD)), u, v]) PassesOwn.never rfl
      (wk_range2 T.range (ev_neg (ev_v 1)) (ev_add (ev_v 1) ev_int) (by omega) (by omega) (by omega) (by omega)) (fun d hd => ?_) (fun _ _ _ => trivial) ⟨none, none, rfl, Nat.zero_le _⟩ ?_ ?_ ?_ nd
    · obtain ⟨z, _, rfl⟩ := List.mem_map.mp hd
      exact .int _
    · rintro t d ρ hdt ⟨u, v, rfl, htl⟩
      have tl : t < (a + 1 - -a).toNat := by
        have := (List.getElem?_eq_some_iff.mp hdt).1
        simpa using this
      rw [List.getElem?_map, List.getElem?_range tl] at hdt
      obtain rfl : d = D.int (-a + (t : Int)) := (Option.some.inj hdt).symm
      have e := lfN_succ i a t
      have ll := lf_len (i := i) (a := a) t
      have hb1 : -a ≤ -a + (t : Int) := by omega
      have hb2 : -a + (t : Int) ≤ a := by omega
      generalize hbb : -a + (t : Int) = b at *
      have bb : Bd b 6 := .of_lt (by omega)
      have bi : Bd i 12 := .of_lt (by omega)
      refine do_if (fun ρ => ∃ v, ρ = [some (.int i), some (.int a), some (.lst l ((lfN i a (t + 1)).map qD)), some (.int b), v]) (et_eq (ev_mod (ev_sub (ev_mul (ev_v 3) (ev_v 3) bb bb) (ev_v 0)) (ev_mul ev_int (ev_v 1) bd_4 ba) (by omega)) ev_int) (fun hk => ?_) (fun hk => ?_) ?_
      · have hk' : (b * b - i) % (4 * a) = 0 := by simpa using hk
        have hC : 4 * a * ((b * b - i) / (4 * a)) = b * b - i := Int.mul_ediv_cancel' (Int.dvd_of_emod_eq_zero hk')
        have bC : Bd ((b * b - i) / (4 * a)) 14 := (Bd.sub (Bd.mul bb bb 12 (by decide)) bi 14 (by decide)).div (by omega)
        refine do_set 4 (ev_tup (ea_cons (ev_v 1) (ea_cons (ev_v 3) (ea_cons (ev_div (ev_sub (ev_mul (ev_v 3) (ev_v 3) bb bb) (ev_v 0)) (ev_mul ev_int (ev_v 1) bd_4 ba) (by omega) (Bd.mul bd_4 ba 9 (by decide))) ea_nil)))) (fz3 _ _ _) ?_ nd
        have fN : FormN a b ((b * b - i) / (4 * a)) := ⟨a0, by omega, ba.up _ (by decide), bb.up _ (by decide), bC.up _ (by decide)⟩
        refine do_if (fun ρ => ∃ v, ρ = [some (.int i), some (.int a), some (.lst l ((lfN i a (t + 1)).map qD)), some (.int b), v]) (et_val (ev_call G1 hr (ea_cons (ev_v 4) ea_nil) ⟨a, b, _, rfl, fN, rfl⟩)) (fun hL => ?_) (fun hL => ?_) (fun ρ h => do_nil h)
        · have hc : lfC i a b = true := by
            unfold lfC
            rw [hL, hk']
            rfl
          rw [if_pos hc] at e
          refine do_append 2 rfl (ev_v 4) (fz3 _ _ _) (by rw [List.length_map]; omega) (others_of rfl) (do_nil ⟨some (formD a b ((b * b - i) / (4 * a))), ?_⟩)
          rw [e, List.map_append]
          rfl
        · have hc : ¬ lfC i a b = true := by
            unfold lfC
            rw [hL]
            simp
          rw [if_neg hc, List.append_nil] at e
          rw [e]
          exact do_nil ⟨_, rfl⟩
      · have hk' : ¬ (b * b - i) % (4 * a) = 0 := by simpa using hk
        have hc : ¬ lfC i a b = true := by
          unfold lfC
          simp [hk']
        rw [if_neg hc, List.append_nil] at e
        rw [e]
        exact do_nil ⟨_, rfl⟩
      · rintro ρ ⟨v, rfl⟩
        exact do_nil ⟨_, _, rfl, by omega⟩
    · rintro ρ ⟨u, v, rfl, _⟩
      rw [List.length_map, List.length_range]
      refine ⟨u, v, ?_⟩
      unfold lfA
      have : (a + 1 - -a).toNat = (2 * a + 1).toNat := by congr 1; omega
      rw [this]
    · rintro ρ ⟨u, v, rfl⟩
      exact do_ret (ev_v 2) ⟨l, rfl⟩ (fun a es z => by cases z; exact ⟨2, _, rfl⟩)
set_option maxHeartbeats 4000000 in
theorem ok_least_forms {f : Addr} {fd : FuncData} (G1 : Fn P w K mg base 4 "require_bar_from" p_require_bar_from) (G2 : FnL P w K mg base 6 "least_forms_from" p_lff) (C1 : Con K mg "LOWEST_LISTED_BAR" (.int (-4000))) (F : Fun K "least_forms" "least_forms" s_least_forms f fd) (hm : mg "least_forms" = some (.ref f)) (hb : Binds K fd ["bar"] []) : FnL P w K mg base 7 "least_forms" p_least_forms := by
  refine fnl_mk F sc_least_forms hm hb (fun ds es h => ?_) (fun cdv A outer s H E hr ds es h => ?_)
  · obtain ⟨i, rfl, _⟩ := h
    exact ⟨rfl, fun a es => by simp⟩
  · obtain ⟨i, rfl, hi, rfl⟩ := h
    have nd := sc_least_forms.nd
    have hr4 := hr.mono (show 4 ≤ 6 by decide)
    have i0 := hi.d.neg
    have i1 := hi.low
    refine do_expr (ev_call G1 hr4 (ea_cons (ev_v 0) (ea_cons (ev_con C1) ea_nil)) ⟨i, -4000, rfl, i0, hi.d.four, i1, rfl⟩) ?_
    refine do_setN 1 (evn_list ea_nil) (fun d hd => by cases hd) (fun l _ => ?_) nd
    refine do_set 2 ev_int (.int _) ?_ nd
    refine do_while (fun ρ => ∃ n : Nat, ρ = [some (.int i), some (.lst l ((lfs i n).map qD)), some (.int ((n : Int) + 1))] ∧ n ≤ 37) (fun ρ => ∃ u, ρ = [some (.int i), some (.lst l ((LF i).map qD)), u]) (fun ρ => (100 - intAt ρ 2).toNat) PassesOwn.never ⟨0, rfl, by decide⟩ ?_ ?_
    · rintro ρ ⟨n, rfl, hn⟩
      have bn : Bd ((n : Int) + 1) 6 := .of_lt (by omega)
      refine ⟨_, et_le (ev_mul (ev_mul ev_int (ev_v 2) bd_3 bn) (ev_v 2) (Bd.mul bd_3 bn 8 (by decide)) bn) (ev_neg (ev_v 0)), fun hk => ?_, fun hk => ?_⟩
      · have hk' : 3 * ((n : Int) + 1) * ((n : Int) + 1) ≤ -i := by simpa using hk
        have n36 : n ≤ 36 := by
          refine Nat.not_lt.mp fun z => ?_
          have := sq_mono (a := 38) (b := (n : Int) + 1) (by decide) (by omega)
          have e : 3 * ((n : Int) + 1) * ((n : Int) + 1) = 3 * (((n : Int) + 1) * ((n : Int) + 1)) := by grind
          omega
        have ll := lfs_len (i := i) n (by omega)
        have l2 : (lfA i ((n : Int) + 1)).length ≤ (2 * ((n : Int) + 1) + 1).toNat := lf_len _
        refine do_extend 1 rfl (evn_call G2 hr (ea_cons (ev_v 0) (ea_cons (ev_v 2) ea_nil)) ⟨i, (n : Int) + 1, rfl, hi, by omega, by omega, rfl⟩) (fzQs _) (by rw [List.length_map, List.length_map]; omega) (others_of rfl) ?_
        refine do_aug 2 rfl ev_int (do_nil ⟨⟨n + 1, ?_, by omega⟩, ?_⟩) nd
        · rw [lfs_succ, List.map_append]
          rfl
        · show (100 - ((n : Int) + 1 + 1)).toNat < (100 - ((n : Int) + 1)).toNat
          omega
      · have hk' : ¬ 3 * ((n : Int) + 1) * ((n : Int) + 1) ≤ -i := by simpa using hk
        have e : 3 * ((n : Int) + 1) * ((n : Int) + 1) = 3 * (((n : Int) + 1) * ((n : Int) + 1)) := by grind
        rw [lfs_end (by omega) (by omega)]
        exact ⟨_, rfl⟩
    · rintro ρ ⟨u, rfl⟩
      exact do_ret (ev_v 1) ⟨l, rfl⟩ (fun a es z => by cases z; exact ⟨1, _, rfl⟩)
set_option maxHeartbeats 4000000 in
theorem ok_classes {f : Addr} {fd : FuncData} (G1 : FnL P w K mg base 7 "least_forms" p_least_forms) (G2 : Fn P w K mg base 5 "is_bare" p_is_bare) (F : Fun K "classes" "classes" s_classes f fd) (hm : mg "classes" = some (.ref f)) (hb : Binds K fd ["bar"] []) : FnL P w K mg base 8 "classes" p_classes := by
  refine fnl_mk F sc_classes hm hb (fun ds es h => ?_) (fun cdv A outer s H E hr ds es h => ?_)
  · obtain ⟨i, rfl, _⟩ := h
    exact ⟨rfl, fun a es => by simp⟩
  · obtain ⟨i, rfl, hi, rfl⟩ := h
    have hr5 := hr.mono (show 5 ≤ 7 by decide)
    have ll := lfs_len (i := i) 40 (by decide)
    have e : (clsL i).map qD = (((LF i).map qD).filter fun d => bareB (qOf d)).map fun d => d := by
      unfold clsL
      rw [List.map_id', List.filter_map]
      rfl
    rw [e]
    refine do_retL (evn_compC [] [] [] (fun d => bareB (qOf d)) (fun d => d) (src_ls (EvN.ev (evn_call G1 hr (ea_cons (ev_v 0) ea_nil) ⟨i, rfl, hi, rfl⟩)) rfl) (by rw [List.length_map]; unfold LF; omega) (fun d hd _ => fzQs _ d hd) (fun C s₀ H₀ fp d hd => ?_) (fun C s₀ H₀ fp d hd _ => ev_v 0)) fun l => ⟨l, rfl⟩
    obtain ⟨q, hq, rfl⟩ := List.mem_map.mp hd
    have S := lf_small hi hq
    refine ets_one (Et.to (et_val (ev_call G2 hr5 (ea_cons (ev_v 0) ea_nil) ⟨q.a, q.b, q.c, rfl, S.n, rfl⟩)) ?_)
    rfl
set_option maxHeartbeats 4000000 in
theorem ok_greatest_row {f : Addr} {fd : FuncData} (F : Fun K "greatest_row" "greatest_row" s_greatest_row f fd) (hm : mg "greatest_row" = some (.ref f)) (hb : Binds K fd ["bound", "bar"] []) : Fn P w K mg base 1 "greatest_row" p_row := by
  refine fn_mk F sc_greatest_row hm hb (fun ds d h => ?_) (fun cdv A outer s H E hr ds d h => ?_)
  · obtain ⟨a, i, n, rfl, _, _, _, _, _, rfl⟩ := h
    exact ⟨rfl, fun a es => by simp⟩
  · obtain ⟨a, i, n, rfl, ha, hi, hn, ht, bi, rfl⟩ := h
    have nd := sc_greatest_row.nd
    obtain ⟨k1, k2⟩ := MS.top_spec ha hi hn
    have t0 : 0 ≤ MS.top a i n := MS.rt_nn _
    refine do_set 2 ev_int (.int _) ?_ nd
    refine do_while (fun ρ => ∃ y : Int, ρ = [some (.int (4 * a * n)), some (.int i), some (.int y)] ∧ 0 ≤ y ∧ y ≤ MS.top a i n) (fun ρ => ρ = [some (.int (4 * a * n)), some (.int i), some (.int (MS.top a i n))]) (fun ρ => (2000 - intAt ρ 2).toNat) PassesOwn.never ⟨0, rfl, Int.le_refl _, t0⟩ ?_ ?_
    · rintro ρ ⟨y, rfl, y0, y1⟩
      have by' : Bd (y + 1) 10 := .of_lt (by omega)
      have bni : Bd (-i) 1200 := ⟨intBits_neg_le bi.lt⟩
      refine ⟨_, et_le (ev_mul (ev_mul (ev_neg (ev_v 1)) (ev_add (ev_v 2) ev_int) bni by') (ev_add (ev_v 2) ev_int) (Bd.mul bni by' 1210 (by decide)) by') (ev_v 0), fun hk => ?_, fun hk => ?_⟩
      · have hk' : -i * (y + 1) * (y + 1) ≤ 4 * a * n := by simpa using hk
        rw [Int.mul_assoc] at hk'
        have y2 : y + 1 ≤ MS.top a i n := by
          refine Int.not_lt.mp fun z => ?_
          have e : y = MS.top a i n := by omega
          rw [e] at hk'
          omega
        refine do_aug 2 rfl ev_int (do_nil ⟨⟨y + 1, rfl, by omega, y2⟩, ?_⟩) nd
        show (2000 - (y + 1)).toNat < (2000 - y).toNat
        omega
      · have hk' : ¬ -i * (y + 1) * (y + 1) ≤ 4 * a * n := by simpa using hk
        rw [Int.mul_assoc] at hk'
        have e : y = MS.top a i n := by
          refine Int.le_antisymm y1 (Int.not_lt.mp fun z => hk' ?_)
          have m := Int.mul_le_mul_of_nonneg_left (MS.sq_lt y0 z) (show 0 ≤ -i by omega)
          omega
        rw [e]
    · rintro ρ rfl
      exact do_ret (ev_v 2) rfl
set_option maxHeartbeats 8000000 in
theorem ok_places_in_row {f : Addr} {fd : FuncData} (T : Tx mg) (G1 : Fn P w K mg base 1 "root_of" p_root) (F : Fun K "places_in_row" "places_in_row" s_places_in_row f fd) (hm : mg "places_in_row" = some (.ref f)) (hb : Binds K fd ["form", "y", "square"] []) : FnL P w K mg base 2 "places_in_row" p_in_row := by
  refine fnl_mk F sc_places_in_row hm hb (fun ds es h => ?_) (fun cdv A outer s H E hr ds es h => ?_)
  · obtain ⟨a, b, c, y, sq, rfl, _⟩ := h
    exact ⟨rfl, fun a es => by simp⟩
  · obtain ⟨a, b, c, y, sq, rfl, ha, hsq, ba, bb, by', bs, rfl⟩ := h
    have nd := sc_places_in_row.nd
    have r0 := MS.rt_nn sq
    have r1 := MS.rt_spec hsq
    have br : Bd (MS.rt sq) 4000 := bs.le (by
      have := MS.sq_nn (MS.rt sq)
      rcases Int.lt_or_eq_of_le r0 with z | z
      · have := Int.mul_le_mul_of_nonneg_left (show 1 ≤ MS.rt sq by omega) r0
        omega
      · omega)
    refine do_set 3 (ev_call G1 hr (ea_cons (ev_v 2) ea_nil) ⟨sq, rfl, hsq, bs, rfl⟩) (.int _) ?_ nd
    refine do_ifR (et_ne (ev_mul (ev_v 3) (ev_v 3) br br) (ev_v 2)) (fun hk => ?_) (fun hk => ?_)
    · have hk' : MS.rt sq * MS.rt sq ≠ sq := by simpa using hk
      refine do_retL (evn_list ea_nil) fun l => ⟨l, ?_⟩
      unfold MS.PR
      rw [if_pos hk']
      rfl
    have hk' : ¬ MS.rt sq * MS.rt sq ≠ sq := by simpa using hk
    have b2 : Bd (2 * a) 3002 := Bd.mul bd_2 ba _ (by decide)
    refine do_set 4 (ev_mul ev_int (ev_ix (ev_v 0) ev_int rfl) bd_2 ba) (.int _) ?_ nd
    refine do_set 5 (ev_mul (ev_ix (ev_v 0) ev_int rfl) (ev_v 1) bb by') (.int _) ?_ nd
    have fz : ∀ d ∈ (MS.sides (MS.rt sq)).map D.int, Fz d := fun d hd => by
      obtain ⟨z, _, rfl⟩ := List.mem_map.mp hd
      exact .int z
    refine do_setN 6 (ds := (MS.sides (MS.rt sq)).map D.int) ?_ fz (fun l _ => ?_) nd
    · unfold MS.sides
      by_cases g : 0 < MS.rt sq
      · rw [if_pos g]
        exact evn_ifT (Et.tt (et_gt (ev_v 3) ev_int) g) (evn_list (ea_cons (ev_v 3) (ea_cons (ev_neg (ev_v 3)) ea_nil)))
      · rw [if_neg g]
        exact evn_ifF (Et.ff' (et_gt (ev_v 3) ev_int) g) (evn_list (ea_cons ev_int ea_nil))
    have e : (MS.PR a b y sq).map tupI = (((MS.sides (MS.rt sq)).map D.int).filter fun d => decide ((iOf d - b * y) % (2 * a) = 0)).map fun d => tupI [(iOf d - b * y) / (2 * a), y] := by
      unfold MS.PR
      rw [if_neg hk', List.filter_map, List.map_map, List.map_map]
      rfl
    rw [e]
    refine do_retL (evn_compC [("y", s.heap.objs.size + 1), ("shift", s.heap.objs.size + 1 + 1 + 1), ("double", s.heap.objs.size + 1 + 1)] ["double", "shift", "y"] [4, 5, 1] (fun d => decide ((iOf d - b * y) % (2 * a) = 0)) (fun d => tupI [(iOf d - b * y) / (2 * a), y]) (src_ls (ev_v 6) rfl) ?_ (fun d hd _ => fz_ints _) (fun C s₀ H₀ fp d hd => ?_) (fun C s₀ H₀ fp d hd _ => ?_)) fun l => ⟨l, rfl⟩
    · rw [List.length_map]
      unfold MS.sides
      split <;> simp
    · obtain ⟨z, _, rfl⟩ := List.mem_map.mp hd
      exact ets_one (et_eq (ev_mod (ev_sub (ev_v 0) (ev_v 2)) (ev_v 1) (by omega)) ev_int)
    · obtain ⟨z, _, rfl⟩ := List.mem_map.mp hd
      exact ev_tup (ea_cons (ev_div (ev_sub (ev_v 0) (ev_v 2)) (ev_v 1) (by omega) b2) (ea_cons (ev_v 3) ea_nil))
set_option maxHeartbeats 8000000 in
theorem ok_places_of_least {f : Addr} {fd : FuncData} (T : Tx mg) (G1 : Fn P w K mg base 5 "bar_of" p_bar_of) (G2 : Fn P w K mg base 1 "greatest_row" p_row) (G3 : FnL P w K mg base 2 "places_in_row" p_in_row) (F : Fun K "places_of_least" "places_of_least" s_places_of_least f fd) (hm : mg "places_of_least" = some (.ref f)) (hb : Binds K fd ["form", "number"] []) : FnL P w K mg base 6 "places_of_least" p_of_least := by
  refine fnl_mk F sc_places_of_least hm hb (fun ds es h => ?_) (fun cdv A outer s H E hr ds es h => ?_)
  · obtain ⟨a, b, c, n, rfl, _⟩ := h
    exact ⟨rfl, fun a es => by simp⟩
  · obtain ⟨a, b, c, n, rfl, fS, L, n0, n1, rfl⟩ := h
    have nd := sc_places_of_least.nd
    have hr1 := hr.mono (show 1 ≤ 5 by decide)
    have hr2 := hr.mono (show 2 ≤ 5 by decide)
    have bn : Bd n 14 := .of_lt (by omega)
    have tl := MS.top_le fS.pos L fS.bar n0 n1
    have t0 : 0 ≤ MS.top a (b * b - 4 * a * c) n := MS.rt_nn _
    obtain ⟨k1, k2⟩ := MS.top_spec (n := n) fS.pos fS.bar n0
    have bd := fS.sd
    have b4 : Bd (4 * a) 3003 := Bd.mul bd_4 fS.sa _ (by decide)
    have b5 : Bd (4 * a * n) 3017 := Bd.mul b4 bn _ (by decide)
    refine do_set 2 (ev_mul (ev_mul ev_int (ev_ix (ev_v 0) ev_int rfl) bd_4 fS.sa) (ev_v 1) b4 bn) (.int _) ?_ nd
    refine do_set 3 (ev_call G1 hr (ea_cons (ev_v 0) ea_nil) ⟨a, b, c, rfl, fS.n, rfl⟩) (.int _) ?_ nd
    refine do_set 4 (ev_call G2 hr1 (ea_cons (ev_v 2) (ea_cons (ev_v 3) ea_nil)) ⟨a, b * b - 4 * a * c, n, rfl, fS.pos, fS.bar, n0, by omega, bd, rfl⟩) (.int _) ?_ nd
    unfold MS.PL
    have fb := fS.bar
    generalize MS.top a (b * b - 4 * a * c) n = t at *
    generalize b * b - 4 * a * c = i at *
    refine do_setN 5 (evn_list ea_nil) (fun d hd => by cases hd) (fun l _ => ?_) nd
    refine do_for 6 (fun k ρ => ∃ u, ρ = [some (formD a b c), some (.int n), some (.int (4 * a * n)), some (.int i), some (.int t), some (.lst l ((MS.PN a b i n t k).map tupI)), u] ∧ k ≤ (2 * t + 1).toNat ∧ ∀ x es, u ≠ some (.lst x es)) (fun ρ => ∃ u, ρ = [some (formD a b c), some (.int n), some (.int (4 * a * n)), some (.int i), some (.int t), some (.lst l ((MS.PN a b i n t (2 * t + 1).toNat).map tupI)), u]) PassesOwn.never rfl
      (wk_range2 T.range (ev_neg (ev_v 4)) (ev_add (ev_v 4) ev_int) (by omega) (by omega) (by omega) (by omega)) (fun d hd => ?_) (fun _ _ _ => trivial) ⟨none, rfl, Nat.zero_le _, fun _ _ z => by cases z⟩ ?_ ?_ ?_ nd
    · obtain ⟨z, _, rfl⟩ := List.mem_map.mp hd
      exact .int _
    · rintro k d ρ hdt ⟨u, rfl, hk, hu⟩
      have tk : k < (t + 1 - -t).toNat := by
        have := (List.getElem?_eq_some_iff.mp hdt).1
        simpa using this
      rw [List.getElem?_map, List.getElem?_range tk] at hdt
      obtain rfl : d = D.int (-t + (k : Int)) := (Option.some.inj hdt).symm
      have e := MS.PN_succ a b i n t k
      have ll := MS.PN_len a b i n t k
      have l2 := MS.PR_len a b (-t + (k : Int)) (4 * a * n + i * (-t + (k : Int)) * (-t + (k : Int)))
      have y0 : -t ≤ -t + (k : Int) := by omega
      have y1 : -t + (k : Int) ≤ t := by omega
      generalize -t + (k : Int) = y at *
      have by' : Bd y 10 := .of_lt (by omega)
      have sq0 : 0 ≤ 4 * a * n + i * y * y := by
        have yy : y * y ≤ t * t := by
          have h1 := MT.mul_nn (show 0 ≤ t - y by omega) (show 0 ≤ t + y by omega)
          have h2 : (t - y) * (t + y) = t * t - y * y := by grind
          omega
        have m := Int.mul_le_mul_of_nonneg_left yy (show 0 ≤ -i by omega)
        have e2 : i * y * y = -(-i * (y * y)) := by grind
        omega
      have b6 : Bd (i * y) 1210 := Bd.mul bd by' _ (by decide)
      have b7 : Bd (i * y * y) 1220 := Bd.mul b6 by' _ (by decide)
      have b8 : Bd (4 * a * n + i * y * y) 4000 := Bd.add b5 (b7.up 3017 (by decide)) _ (by decide)
      refine do_extend 5 rfl (evn_call G3 hr2 (ea_cons (ev_v 0) (ea_cons (ev_v 6) (ea_cons (ev_add (ev_v 2) (ev_mul (ev_mul (ev_v 3) (ev_v 6) bd by') (ev_v 6) b6 by')) ea_nil))) ⟨a, b, c, y, _, rfl, fS.pos, sq0, fS.sa, fS.sb, by', b8, rfl⟩) (here_fz _) (by rw [List.length_map, List.length_map]; omega) (others_of rfl) (do_nil ⟨some (.int y), ?_, by omega, fun _ _ z => by cases z⟩)
      rw [e, List.map_append]
      rfl
    · rintro ρ ⟨u, rfl, _, _⟩
      rw [List.length_map, List.length_range]
      refine ⟨u, ?_⟩
      have : (t + 1 - -t).toNat = (2 * t + 1).toNat := by congr 1; omega
      rw [this]
    · rintro ρ ⟨u, rfl⟩
      exact do_ret (ev_v 5) ⟨l, rfl⟩ (fun a es z => by cases z; exact ⟨5, _, rfl⟩)
set_option maxHeartbeats 8000000 in
theorem ok_places {f : Addr} {fd : FuncData} (T : Tx mg) (G1 : Fn P w K mg base 4 "require_form" p_require_form) (G2 : Fn P w K mg base 3 "require_number" p_require_number) (Gl : FnR P w K mg base 5 "least_of" pre_form post_least_of) (Gp : FnL P w K mg base 6 "places_of_least" p_of_least) (Gs : Fn P w K mg base 1 "sent" p_law_sent)
    (C1 : Con K mg "GREATEST_places" (.int 10000)) (F : Fun K "places" "places" s_places f fd) (hm : mg "places" = some (.ref f)) (hb : Binds K fd ["form", "number"] []) : FnL P w K mg base 7 "places" p_places := by
  refine fnl_mk F sc_places hm hb (fun ds es h => ?_) (fun cdv A outer s H E hr ds es h => ?_)
  · obtain ⟨a, b, c, n, ts, rfl, _⟩ := h
    exact ⟨rfl, fun a es => by simp⟩
  · obtain ⟨a, b, c, n, ts, rfl, fS, n0, n1, nod, mem, rfl⟩ := h
    have nd := sc_places.nd
    have hr1 := hr.mono (show 1 ≤ 6 by decide)
    have hr3 := hr.mono (show 3 ≤ 6 by decide)
    have hr4 := hr.mono (show 4 ≤ 6 by decide)
    have hr5 := hr.mono (show 5 ≤ 6 by decide)
    refine do_expr (ev_call G1 hr4 (ea_cons (ev_v 0) ea_nil) ⟨a, b, c, rfl, fS.n, rfl⟩) ?_
    refine do_expr (ev_call G2 hr3 (ea_cons (ev_v 1) (ea_cons ev_int (ea_cons (ev_con C1) ea_nil))) ⟨n, 0, 10000, rfl, n0, n1, rfl⟩) ?_
    refine do_setR 2 (evr_call Gl hr5 (ea_cons (ev_v 0) ea_nil) ⟨a, b, c, rfl, fS⟩) (fun d hd => fz_post rfl hd) (fun d hd => ?_) nd
    obtain ⟨a', b', c', p, q, r, s', rfl, L, fS', tN, ld⟩ := hd _ _ _ rfl
    obtain ⟨m1, m2⟩ := here_map ld fS'.pos fS'.bar n0
    have pm := here_perm m1 m2 nod mem
    refine do_ifR (et_chain op_lt op_lt ev_int (ev_v 1) (ev_ix (ev_ix (ev_v 2) ev_int rfl) ev_int rfl)) (fun hk => ?_) (fun hk => ?_)
    · have hk' : 0 < n ∧ n < a' := by simpa using hk
      refine do_retL (evn_list ea_nil) fun l => ⟨l, ?_⟩
      have : ts = [] := by
        refine List.eq_nil_iff_forall_not_mem.mpr fun t ht => ?_
        obtain ⟨u, hu, _⟩ := List.mem_map.mp (pm.mem_iff.mpr ht)
        obtain ⟨x, y, _, e⟩ := (MS.mem_PL fS'.pos fS'.bar n0 u).mp hu
        by_cases z : x ≠ 0 ∨ y ≠ 0
        · have g : a' ≤ a' * x * x + b' * x * y + c' * y * y := MT.worth_ge_a fS'.pos L z
          omega
        · have h1 : x = 0 := Decidable.byContradiction fun w => z (.inl w)
          have h2 : y = 0 := Decidable.byContradiction fun w => z (.inr w)
          subst h1 h2
          simp at e
          omega
      rw [this, srt_nil]
      rfl
    have len : (MS.PL a' b' c' n).length ≤ 462 := by
      have t := MS.top_le fS'.pos L fS'.bar n0 n1
      have k := MS.PN_len a' b' (b' * b' - 4 * a' * c') n (MS.top a' (b' * b' - 4 * a' * c') n) (2 * MS.top a' (b' * b' - 4 * a' * c') n + 1).toNat
      unfold MS.PL
      omega
    rw [← srt_same pm]
    have up : ∀ {z : Int}, Bd z 7000 → Bd z 8000 := fun h => h.up _ (by decide)
    have e : ((MS.PL a' b' c' n).map (MS.sn p q r s')).map tupI = (((MS.PL a' b' c' n).map tupI).filter fun _ => true).map fun d => tupI (MS.sn p q r s' (tOf d)) := by
      rw [List.filter_eq_self.mpr (fun _ _ => rfl), List.map_map, List.map_map]
      refine List.map_congr_left fun t _ => ?_
      show tupI (MS.sn p q r s' t) = tupI (MS.sn p q r s' (tOf (tupI t)))
      rw [tOf_tup]
    have two : ∀ t ∈ (MS.PL a' b' c' n).map (MS.sn p q r s'), t.length = 1 + 1 := fun t ht => by
      obtain ⟨x, y, rfl, _⟩ := (m2 t).mp ht
      rfl
    refine do_retL (evn_sortedA (k := 1) T.sorted (EvN.ev (ds := ((MS.PL a' b' c' n).map (MS.sn p q r s')).map tupI) ?_) rfl two ?_) fun l => ⟨l, rfl⟩
    · rw [e]
      refine evn_compC [("least", s.heap.objs.size + 1)] ["least"] [2] (fun _ => true) (fun d => tupI (MS.sn p q r s' (tOf d))) (src_ls (EvN.ev (evn_call Gp hr (ea_cons (ev_ix (ev_v 2) ev_int rfl) (ea_cons (ev_v 1) ea_nil)) ⟨a', b', c', n, rfl, fS', L, n0, n1, rfl⟩)) rfl) ?_ (fun d hd _ => fz_ints _) (fun C s₀ H₀ fp d hd => ets_nil) (fun C s₀ H₀ fp d hd _ => ?_)
      · rw [List.length_map]
        omega
      · obtain ⟨t, ht, rfl⟩ := List.mem_map.mp hd
        obtain ⟨x, y, rfl, e⟩ := (MS.mem_PL fS'.pos fS'.bar n0 t).mp ht
        obtain ⟨bx, by'⟩ := here_bd fS' n0 n1 (x := x) (y := y) e
        exact ev_call Gs hr1 (ea_cons (ev_ix (ev_v 1) ev_int rfl) (ea_cons (ev_v 0) ea_nil)) ⟨p, q, r, s', x, y, rfl, up tN.sp, up tN.sq, up tN.sr, up tN.ss, bx, by', rfl⟩
    · rw [List.length_map]
      exact in_line (by omega)
set_option maxHeartbeats 4000000 in
theorem ok_ways {f : Addr} {fd : FuncData} (G1 : Fn P w K mg base 4 "require_bar_from" p_require_bar_from) (G2 : Fn P w K mg base 3 "require_number" p_require_number) (G3 : FnL P w K mg base 8 "classes" p_classes) (G4 : FnL P w K mg base 7 "places" p_places) (C1 : Con K mg "LOWEST_LISTED_BAR" (.int (-4000))) (C2 : Con K mg "GREATEST_primes" (.int 10000))
    (F : Fun K "ways" "ways" s_ways f fd) (hm : mg "ways" = some (.ref f)) (hb : Binds K fd ["bar", "number"] []) : FnL P w K mg base 9 "ways" p_ways := by
  refine fnl_mk F sc_ways hm hb (fun ds es h => ?_) (fun cdv A outer s H E hr ds es h => ?_)
  · obtain ⟨i, n, rfl, _⟩ := h
    exact ⟨rfl, fun a es => by simp⟩
  · obtain ⟨i, n, rfl, hi, n0, n1, rfl⟩ := h
    have nd := sc_ways.nd
    have hr3 := hr.mono (show 3 ≤ 8 by decide)
    have hr4 := hr.mono (show 4 ≤ 8 by decide)
    have hr7 := hr.mono (show 7 ≤ 8 by decide)
    refine do_expr (ev_call G1 hr4 (ea_cons (ev_v 0) (ea_cons (ev_con C1) ea_nil)) ⟨i, -4000, rfl, hi.d.neg, hi.d.four, hi.low, rfl⟩) ?_
    refine do_expr (ev_call G2 hr3 (ea_cons (ev_v 1) (ea_cons ev_int (ea_cons (ev_con C2) ea_nil))) ⟨n, 0, 10000, rfl, n0, n1, rfl⟩) ?_
    refine do_setN 2 (evn_list ea_nil) (fun d hd => by cases hd) (fun l _ => ?_) nd
    refine do_for 3 (fun t ρ => ∃ u, ρ = [some (.int i), some (.int n), some (.lst l ((WN n ((clsL i).take t)).map wD)), u] ∧ t ≤ (clsL i).length ∧ ∀ x es, u ≠ some (.lst x es)) (fun ρ => ∃ u, ρ = [some (.int i), some (.int n), some (.lst l ((WL i n).map wD)), u]) PassesOwn.never rfl
      (wk_new (evn_call G3 hr (ea_cons (ev_v 0) ea_nil) ⟨i, rfl, hi, rfl⟩) (fzQs _)) (fzQs _) (fun _ _ _ => trivial) ⟨none, rfl, Nat.zero_le _, fun _ _ z => by cases z⟩ ?_ ?_ ?_ nd
    · rintro t d ρ hdt ⟨u, rfl, tl, hu⟩
      rw [List.getElem?_map] at hdt
      obtain ⟨g, hg, rfl⟩ := Option.map_eq_some_iff.mp hdt
      have hl := (List.getElem?_eq_some_iff.mp hg).1
      have mg' := List.mem_of_getElem? hg
      have e : (clsL i).take (t + 1) = (clsL i).take t ++ [g] := by
        rw [List.take_succ_eq_append_getElem hl, (List.getElem?_eq_some_iff.mp hg).2]
      have l1 := wn_len hi n0 n1 ((clsL i).take (t + 1)) fun f hf => List.mem_of_mem_take hf
      have l2 := cls_len2 hi
      have l3 : ((clsL i).take (t + 1)).length ≤ (clsL i).length := by rw [List.length_take]; exact Nat.min_le_right _ _
      rw [e, wn_snoc, List.length_append] at l1
      rw [e] at l3
      refine do_extend 2 rfl (gs := (WC n g).map wD) ?_ (fz_ws _) (by rw [List.length_map, List.length_map]; omega) (others_of rfl) (do_nil ⟨some (qD g), ?_, hl, fun _ _ z => by cases z⟩)
      · rw [wc_data]
        refine evn_compC [("form", s.heap.objs.size + 1)] ["form"] [3] (fun _ => true) (fun d => .tup [qD g, d]) (src_ls (EvN.ev (evn_call G4 hr7 (ea_cons (ev_v 3) (ea_cons (ev_v 1) ea_nil)) (places_at hi mg' n0 n1))) rfl) ?_ (fun d hd _ => ?_) (fun C s₀ H₀ fp d hd => ets_nil) (fun C s₀ H₀ fp d hd _ => ?_)
        · have := pl_len hi mg' n0 n1
          rw [List.length_map, srt_len]
          omega
        · obtain ⟨t, _, rfl⟩ := List.mem_map.mp hd
          exact fz_pair (fzQ _) (fz_ints _)
        · exact ev_tup (ea_cons (ev_v 1) (ea_cons (ev_v 0) ea_nil))
      · rw [e, wn_snoc, List.map_append]
        rfl
    · rintro ρ ⟨u, rfl, _, _⟩
      refine ⟨u, ?_⟩
      rw [List.length_map, List.take_length]
      rfl
    · rintro ρ ⟨u, rfl⟩
      exact do_ret (ev_v 2) ⟨l, rfl⟩ (fun a es z => by cases z; exact ⟨2, _, rfl⟩)
theorem ok_side_by_prime {f : Addr} {fd : FuncData} (G1 : Fn P w K mg base 2 "leaves_square" p_leaves) (F : Fun K "side_by_prime" "side_by_prime" s_side_by_prime f fd) (hm : mg "side_by_prime" = some (.ref f)) (hb : Binds K fd ["bar", "prime"] []) : Fn P w K mg base 3 "side_by_prime" p_sbp := by
  refine fn_mk F sc_side_by_prime hm hb (fun ds d h => ?_) (fun cdv A outer s H E hr ds d h => ?_)
  · obtain ⟨i, p, rfl, _⟩ := h
    exact ⟨rfl, fun a es => by simp [nD]⟩
  · obtain ⟨i, p, rfl, hp, pl, rfl⟩ := h
    refine do_ifR (et_eq (ev_v 1) ev_int) (fun hk => ?_) (fun hk => ?_)
    · have h2 : p = 2 := by
        have : (p : Int) = 2 := by simpa [nD] using hk
        omega
      subst h2
      by_cases h : i % 8 = 1
      · exact do_ret (ev_ifT (Et.tt (et_eq (ev_mod (ev_v 0) ev_int (by decide)) ev_int) h) ev_int) (by show D.int 1 = D.int (MD.sd i 2); rw [MD.sd, if_pos rfl, if_pos h])
      · exact do_ret (ev_ifF (Et.ff' (et_eq (ev_mod (ev_v 0) ev_int (by decide)) ev_int) h) (ev_neg ev_int)) (by show D.int (-1) = D.int (MD.sd i 2); rw [MD.sd, if_pos rfl, if_neg h])
    · have h2 : p ≠ 2 := fun z => by
        have : ¬ (p : Int) = 2 := by simpa [nD] using hk
        omega
      by_cases h : i ^ (p / 2) % (p : Int) = 1
      · exact do_ret (ev_ifT (et_val (Ev.tt (ev_call G1 hr (ea_cons (ev_v 0) (ea_cons (ev_v 1) ea_nil)) ⟨i, p, rfl, pr_ge3 hp h2, pr_odd hp h2, by omega, rfl⟩) h)) ev_int) (by show D.int 1 = D.int (MD.sd i p); rw [MD.sd, if_neg h2, if_pos h])
      · exact do_ret (ev_ifF (et_val (Ev.ff (ev_call G1 hr (ea_cons (ev_v 0) (ea_cons (ev_v 1) ea_nil)) ⟨i, p, rfl, pr_ge3 hp h2, pr_odd hp h2, by omega, rfl⟩) h)) (ev_neg ev_int)) (by show D.int (-1) = D.int (MD.sd i p); rw [MD.sd, if_neg h2, if_neg h])
theorem ok_side_by {f : Addr} {fd : FuncData} (G1 : FnL P w K mg base 1 "prime_factors" p_pf) (G2 : Fn P w K mg base 3 "side_by_prime" p_sbp) (F : Fun K "side_by" "side_by" s_side_by f fd) (hm : mg "side_by" = some (.ref f)) (hb : Binds K fd ["bar", "divisor"] []) : Fn P w K mg base 4 "side_by" p_sb := by
  refine fn_mk F sc_side_by hm hb (fun ds d h => ?_) (fun cdv A outer s H E hr ds d h => ?_)
  · obtain ⟨i, n, rfl, _⟩ := h
    exact ⟨rfl, fun a es => by simp [nD]⟩
  · obtain ⟨i, n, rfl, n0, n1, rfl⟩ := h
    have nd := sc_side_by.nd
    have hr1 := hr.mono (show 1 ≤ 3 by decide)
    refine do_set 2 ev_int (.int _) ?_ nd
    refine do_for 3 (fun t ρ => ∃ u, ρ = [some (.int i), some (nD n), some (.int (MP.prodZ (((MD.PF n).take t).map (MD.sd i)))), u]) (fun ρ => ∃ u, ρ = [some (.int i), some (nD n), some (.int (MD.chi i n)), u]) PassesOwn.never rfl
      (wk_new (evn_call G1 hr1 (ea_cons (ev_v 1) ea_nil) ⟨n, rfl, n0, by omega, rfl⟩) (fz_nD _)) (fz_nD _) (fun _ _ _ => trivial) ⟨none, rfl⟩ ?_ ?_ ?_ nd
    · rintro t d ρ hdt ⟨u, rfl⟩
      rw [List.getElem?_map] at hdt
      obtain ⟨p, hp, rfl⟩ := Option.map_eq_some_iff.mp hdt
      have hl := (List.getElem?_eq_some_iff.mp hp).1
      obtain ⟨pp, pd⟩ := PF_pr p (List.mem_of_getElem? hp)
      have pn := Nat.le_of_dvd n0 pd
      have e : (MD.PF n).take (t + 1) = (MD.PF n).take t ++ [p] := by
        rw [List.take_succ_eq_append_getElem hl, (List.getElem?_eq_some_iff.mp hp).2]
      refine do_set 2 (ev_mul (ev_v 2) (ev_call G2 hr (ea_cons (ev_v 0) (ea_cons (ev_v 3) ea_nil)) ⟨i, p, rfl, pp, by omega, rfl⟩) (unit_bd (prod_unit i _)) (unit_bd (MD.sd_cases i p))) (.int _) (do_nil ⟨some (nD p), ?_⟩) nd
      rw [e, List.map_append, List.map_cons, List.map_nil, prodZ_snoc]
      rfl
    · rintro ρ ⟨u, rfl⟩
      refine ⟨u, ?_⟩
      rw [List.length_map, List.take_length]
      rfl
    · rintro ρ ⟨u, rfl⟩
      exact do_ret (ev_v 2) rfl
theorem ok_ways_of_one {f : Addr} {fd : FuncData} (F : Fun K "ways_of_one" "ways_of_one" s_ways_of_one f fd) (hm : mg "ways_of_one" = some (.ref f)) (hb : Binds K fd ["bar"] []) : Fn P w K mg base 1 "ways_of_one" p_woo := by
  refine fn_mk F sc_ways_of_one hm hb (fun ds d h => ?_) (fun cdv A outer s H E hr ds d h => ?_)
  · obtain ⟨i, rfl, _⟩ := h
    exact ⟨rfl, fun a es => by simp⟩
  · obtain ⟨i, rfl, rfl⟩ := h
    refine do_ifR (et_eq (ev_v 0) (ev_neg ev_int)) (fun hk => ?_) (fun hk => ?_)
    · have h : i = -3 := by simpa using hk
      exact do_ret ev_int (by show D.int 6 = _; rw [MD.wn, if_pos h]; rfl)
    · have h : ¬ i = -3 := by simpa using hk
      refine do_ifR (et_eq (ev_v 0) (ev_neg ev_int)) (fun hk => ?_) (fun hk => ?_)
      · have h2 : i = -4 := by simpa using hk
        exact do_ret ev_int (by show D.int 4 = _; rw [MD.wn, if_neg h, if_pos h2]; rfl)
      · have h2 : ¬ i = -4 := by simpa using hk
        exact do_ret ev_int (by show D.int 2 = _; rw [MD.wn, if_neg h, if_neg h2]; rfl)
set_option maxHeartbeats 4000000 in
theorem ok_ways_sum {f : Addr} {fd : FuncData} (T : Tx mg) (G1 : Fn P w K mg base 3 "require_bar" p_require_bar) (G2 : Fn P w K mg base 3 "require_number" p_require_number) (G3 : Fn P w K mg base 1 "common_divisor" p_common_divisor) (G4 : Fn P w K mg base 1 "ways_of_one" p_woo) (G5 : Fn P w K mg base 4 "side_by" p_sb) (C1 : Con K mg "GREATEST_primes" (.int 10000))
    (F : Fun K "ways_sum" "ways_sum" s_ways_sum f fd) (hm : mg "ways_sum" = some (.ref f)) (hb : Binds K fd ["bar", "number"] []) : Fn P w K mg base 5 "ways_sum" p_ws := by
  refine fn_mk F sc_ways_sum hm hb (fun ds d h => ?_) (fun cdv A outer s H E hr ds d h => ?_)
  · obtain ⟨i, n, rfl, _⟩ := h
    exact ⟨rfl, fun a es => by simp [nD]⟩
  · obtain ⟨i, n, rfl, hi, n0, n1, hg, rfl⟩ := h
    have nd := sc_ways_sum.nd
    have hr1 := hr.mono (show 1 ≤ 4 by decide)
    have hr3 := hr.mono (show 3 ≤ 4 by decide)
    refine do_expr (ev_call G1 hr3 (ea_cons (ev_v 0) ea_nil) ⟨i, rfl, hi.neg, hi.four, rfl⟩) ?_
    refine do_expr (ev_call G2 hr3 (ea_cons (ev_v 1) (ea_cons ev_int (ea_cons (ev_con C1) ea_nil))) ⟨(n : Int), 1, 10000, rfl, by omega, by omega, rfl⟩) ?_
    refine do_ifF (Et.ff (et_ne (ev_call G3 hr1 (ea_cons (ev_v 0) (ea_cons (ev_v 1) ea_nil)) ⟨i, (n : Int), rfl, rfl⟩) ev_int) (by rw [hg]; rfl)) ?_
    have eD : ((((List.range ((n : Int) + 1 - 1).toNat).map fun (t : Nat) => D.int (1 + t)).filter fun d => decide ((n : Int) % iOf d = 0)).map fun d => d) = (dvs n n).map nD := by
      have e1 : ((n : Int) + 1 - 1).toNat = n := by omega
      rw [e1, List.map_id']
      unfold dvs
      have e2 : ((List.range n).map fun (t : Nat) => D.int (1 + (t : Int))) = ((List.range n).map (1 + ·)).map nD := by
        rw [List.map_map]
        refine List.map_congr_left fun t _ => ?_
        show D.int (1 + (t : Int)) = D.int (((1 + t : Nat)) : Int)
        rw [Int.natCast_add]
        rfl
      rw [e2, List.filter_map]
      congr 1
      refine List.filter_congr fun t _ => ?_
      show decide ((n : Int) % (t : Int) = 0) = decide (n % t = 0)
      refine decide_eq_decide.mpr ⟨fun z => by exact_mod_cast z, fun z => by exact_mod_cast z⟩
    refine do_setC 2 [("number", s.heap.objs.size + 2)] ["number"] [1] (fun d => decide ((n : Int) % iOf d = 0)) (fun d => d) (src_range2 T.range ev_int (ev_add (ev_v 1) ev_int) (by decide) (by decide) (by omega) (by omega)) (by rw [List.length_map, List.length_range]; omega) (fun d hd _ => by obtain ⟨z, _, rfl⟩ := List.mem_map.mp hd; exact .int _)
      (fun C s₀ H₀ fp d hd => ?_) (fun C s₀ H₀ fp d hd _ => ev_v 0) (fun l _ => ?_) nd
    · obtain ⟨t, _, rfl⟩ := List.mem_map.mp hd
      exact ets_one (et_eq (ev_mod (ev_v 1) (ev_v 0) (show (0 : Int) < 1 + (t : Int) by omega)) ev_int)
    rw [eD]
    have eS : ((((dvs n n).map nD).filter fun _ => true).map fun d => D.int (MD.chi i (iOf d).toNat)) = (((dvs n n).map (MD.chi i))).map D.int := by
      rw [List.filter_eq_self.mpr (fun _ _ => rfl), List.map_map, List.map_map]
      refine List.map_congr_left fun t _ => ?_
      show D.int (MD.chi i ((t : Int)).toNat) = D.int (MD.chi i t)
      rw [Int.toNat_natCast]
    have ll := dvs_len n n
    refine do_ret (ev_mul (ev_call G4 hr1 (ea_cons (ev_v 0) ea_nil) ⟨i, rfl, rfl⟩) (Ev.to (ev_sum (ns := (dvs n n).map (MD.chi i)) T.sum (EvN.ev ?_)) (congrArg D.int (dvs_sum i n n))) (wn_bd i) (sm_bd i n n n1)) ?_
    · rw [← eS]
      refine evn_compC [("bar", s.heap.objs.size + 1)] ["bar"] [0] (fun _ => true) (fun d => D.int (MD.chi i (iOf d).toNat)) (src_ls (ev_v 2) rfl) (by rw [List.length_map]; omega) (fun d hd _ => .int _) (fun C s₀ H₀ fp d hd => ets_nil) (fun C s₀ H₀ fp d hd _ => ?_)
      obtain ⟨t, ht, rfl⟩ := List.mem_map.mp hd
      have := dvs_mem ht
      exact ev_call G5 hr (ea_cons (ev_v 1) (ea_cons (ev_v 0) ea_nil)) ⟨i, t, rfl, by omega, by omega, by show D.int (MD.chi i ((t : Int)).toNat) = _; rw [Int.toNat_natCast]⟩
    · rfl
theorem ok_law_ints {f : Addr} {fd : FuncData} (T : Tx mg) (F : Fun K "_law_ints" "_law_ints" s_law_ints f fd) (hm : mg "_law_ints" = some (.ref f)) (hb : Binds K fd ["_law_found", "_law_size"] []) :
    Fn P w K mg base 1 "_law_ints" p_law_ints := by
  refine fn_mk F sc_law_ints hm hb (fun ds d h => ?_) (fun cdv A outer s H E hr ds d h => ?_)
  · obtain ⟨ns, rfl, rfl⟩ := h
    exact ⟨rfl, fun a es => by simp⟩
  · obtain ⟨ns, rfl, rfl⟩ := h
    have nd := sc_law_ints.nd
    have e1 : lenD (.tup (ns.map D.int)) = some ns.length := by simp [lenD]
    refine do_ifF (et_w (ew_orF (et_notT (et_val (ev_isi T.isi (ev_v 0) T.tuple bo_tuple rfl kit_s))) (ew_or1 (Et.ff (et_ne (ev_len T.len (ev_v 0) e1) (ev_v 1)) rfl)))) ?_
    have fz : ∀ d ∈ ns.map D.int, Fz d := fun d hd => by
      obtain ⟨z, _, rfl⟩ := List.mem_map.mp hd
      exact .int z
    refine do_for 2 (fun i ρ => ∃ r, ρ = [some (.tup (ns.map D.int)), some (.int (ns.length : Int)), r]) (fun ρ => ∃ r, ρ = [some (.tup (ns.map D.int)), some (.int (ns.length : Int)), r]) PassesOwn.never rfl (wk_tup (ev_v 0) fz) fz (fun _ _ _ => trivial) ⟨none, rfl⟩ ?_ (fun ρ h => h) ?_ nd
    · rintro i d ρ hd ⟨r, rfl⟩
      obtain ⟨z, _, rfl⟩ := List.mem_map.mp (List.mem_of_getElem? hd)
      refine do_ifF (et_w (ew_orF (et_notT (et_val (ev_isi T.isi (ev_v 2) T.int bo_int rfl kit_s))) (ew_or1 (et_val (ev_isi T.isi (ev_v 2) T.bool bo_bool rfl kit_int_bool))))) (do_nil ⟨_, rfl⟩)
    · rintro ρ ⟨r, rfl⟩
      exact do_ret ev_bl rfl
theorem ok_law_cell_at {f : Addr} {fd : FuncData} (T : Tx mg) (F : Fun K "_law_cell_at" "_law_cell_at" s_law_cell_at f fd) (hm : mg "_law_cell_at" = some (.ref f)) (hb : Binds K fd ["_law_script", "_law_k"] []) :
    Fn P w K mg base 1 "_law_cell_at" p_law_cell_at := by
  refine fn_mk F sc_law_cell_at hm hb (fun ds d h => ?_) (fun cdv A outer s H E hr ds d h => ?_)
  · obtain ⟨ns, k, rfl, rfl⟩ := h
    exact ⟨rfl, fun a es => by simp⟩
  · obtain ⟨ns, k, rfl, rfl⟩ := h
    have e1 : lenD (scrD ns) = some ns.length := by simp [lenD]
    refine do_ifR (et_lt (ev_v 1) (ev_len T.len (ev_v 0) e1)) (fun hk => ?_) (fun hk => ?_)
    · have hk' : k < ns.length := by simpa using hk
      refine do_ret (ev_ixl (d := .int (cell ns k)) (ev_v 0) rfl (ev_v 1) (atI_nat ?_)) rfl
      rw [List.getElem?_map, List.getElem?_eq_getElem hk']
      simp [cell, List.getD, List.getElem?_eq_getElem hk']
    · have hk' : ns.length ≤ k := by simpa using hk
      refine do_ret ev_int ?_
      show D.int 0 = D.int _
      simp [cell, List.getD, List.getElem?_eq_none hk']
theorem ok_law_worth {f : Addr} {fd : FuncData} (F : Fun K "_law_worth" "_law_worth" s_law_worth f fd) (hm : mg "_law_worth" = some (.ref f)) (hb : Binds K fd ["_law_form", "_law_place"] []) :
    Fn P w K mg base 1 "_law_worth" p_law_worth := by
  refine fn_mk F sc_law_worth hm hb (fun ds d h => ?_) (fun cdv A outer s H E hr ds d h => ?_)
  · obtain ⟨a, b, c, x, y, rfl, _, _, _, _, _, rfl⟩ := h
    exact ⟨rfl, fun a es => by simp⟩
  · obtain ⟨a, b, c, x, y, rfl, ha, hb, hc, hx, hy, rfl⟩ := h
    have nd := sc_law_worth.nd
    refine do_set 2 (ev_ix (ev_v 1) ev_int rfl) (.int x) (do_set 3 (ev_ix (ev_v 1) ev_int rfl) (.int y) ?_ nd) nd
    exact do_ret (ev_add (ev_add (ev_mul (ev_mul (ev_ix (ev_v 0) ev_int rfl) (ev_v 2) inferInstance inferInstance) (ev_v 2) inferInstance inferInstance) (ev_mul (ev_mul (ev_ix (ev_v 0) ev_int rfl) (ev_v 2) inferInstance inferInstance) (ev_v 3) inferInstance inferInstance))
      (ev_mul (ev_mul (ev_ix (ev_v 0) ev_int rfl) (ev_v 3) inferInstance inferInstance) (ev_v 3) inferInstance inferInstance)) rfl
theorem ok_law_divisor {f : Addr} {fd : FuncData} (T : Tx mg) (F : Fun K "_law_divisor" "_law_divisor" s_law_divisor f fd) (hm : mg "_law_divisor" = some (.ref f)) (hb : Binds K fd ["_law_one", "_law_other"] []) :
    Fn P w K mg base 1 "_law_divisor" p_law_divisor := by
  refine fn_mk F sc_law_divisor hm hb (fun ds d h => ?_) (fun cdv A outer s H E hr ds d h => ?_)
  · obtain ⟨a, b, rfl, rfl⟩ := h
    exact ⟨rfl, fun a es => by simp⟩
  · obtain ⟨a, b, rfl, rfl⟩ := h
    have nd := sc_law_divisor.nd
    refine do_while (fun ρ => ∃ g l r, ρ = [some (.int g), some (.int l), r] ∧ Int.gcd g l = Int.gcd a b) (fun ρ => ∃ g r, ρ = [some (.int g), some (.int 0), r] ∧ Int.gcd g 0 = Int.gcd a b)
      (fun ρ => (intAt ρ 1).natAbs) PassesOwn.never ⟨a, b, none, rfl, rfl⟩ ?_ ?_
    · rintro ρ ⟨g, l, r, rfl, e⟩
      refine ⟨_, et_ne (ev_v 1) ev_int, fun hk => ?_, fun hk => ?_⟩
      · have hl0 : l ≠ 0 := by simpa using hk
        refine do_set 2 (ev_modN (ev_v 0) (ev_v 1) hl0) (.int _) (do_set 0 (ev_v 1) (.int _) (do_set 1 (ev_v 2) (.int _) (do_nil ⟨⟨l, g.fmod l, _, rfl, ?_⟩, ?_⟩) nd) nd) nd
        · rw [M.fmod_gcd]
          exact e
        · show (g.fmod l).natAbs < l.natAbs
          exact M.fmod_lt g hl0
      · have hl0 : l = 0 := by simpa using hk
        subst hl0
        exact ⟨g, r, rfl, e⟩
    · rintro ρ ⟨g, r, rfl, e⟩
      refine do_ret (ev_abs T.abs (ev_v 0)) ?_
      show D.int _ = D.int _
      rw [← e, Int.gcd_zero_right]
set_option maxHeartbeats 1000000 in
theorem ok_law_side {f : Addr} {fd : FuncData} (T : Tx mg) (F : Fun K "_law_side" "_law_side" s_law_side f fd) (hm : mg "_law_side" = some (.ref f)) (hb : Binds K fd ["_law_bar", "_law_prime"] []) : Fn P w K mg base 1 "_law_side" p_law_side3 := by
  refine fn_mk F sc_law_side hm hb (fun ds d h => ?_) (fun cdv A outer s H E hr ds d h => ?_)
  · obtain ⟨i, p, rfl, _⟩ := h
    exact ⟨rfl, fun a es => by simp [nD]⟩
  · obtain ⟨i, p, rfl, hp, pl, bi, rfl⟩ := h
    have nd := sc_law_side.nd
    refine do_ifR (et_eq (ev_v 1) ev_int) (fun hk => ?_) (fun hk => ?_)
    · have h2 : p = 2 := by
        have : (p : Int) = 2 := by simpa [nD] using hk
        omega
      subst h2
      by_cases h : i % 8 = 1
      · exact do_ret (ev_ifT (Et.tt (et_eq (ev_mod (ev_v 0) ev_int (by decide)) ev_int) h) ev_int) (by show D.int 1 = D.int (MD.sd i 2); rw [MD.sd, if_pos rfl, if_pos h])
      · exact do_ret (ev_ifF (Et.ff' (et_eq (ev_mod (ev_v 0) ev_int (by decide)) ev_int) h) (ev_neg ev_int)) (by show D.int (-1) = D.int (MD.sd i 2); rw [MD.sd, if_pos rfl, if_neg h])
    · have h2 : p ≠ 2 := fun z => by
        have : ¬ (p : Int) = 2 := by simpa [nD] using hk
        omega
      have p3 := pr_ge3 hp h2
      refine do_set 2 ev_int (.int _) ?_ nd
      have e1 : ((p : Int) / 2).toNat = p / 2 := by omega
      refine do_for 3 (fun t ρ => ∃ u, ρ = [some (.int i), some (nD p), some (.int (i ^ t % (p : Int))), u]) (fun ρ => ∃ u, ρ = [some (.int i), some (nD p), some (.int (i ^ (p / 2) % (p : Int))), u]) PassesOwn.never rfl
        (wk_range1 T.range (ev_div (ev_v 1) ev_int (by decide) bd_2) (by omega) (by omega)) (fun d hd => ?_) (fun _ _ _ => trivial) ⟨none, ?_⟩ ?_ ?_ ?_ nd
      · obtain ⟨z, _, rfl⟩ := List.mem_map.mp hd
        exact .int _
      · rw [Int.pow_zero, Int.emod_eq_of_lt (by decide) (by omega)]
        rfl
      · rintro t d ρ hdt ⟨u, rfl⟩
        have fz : ∃ z, d = D.int z := by
          obtain ⟨z, _, rfl⟩ := List.mem_map.mp (List.mem_of_getElem? hdt)
          exact ⟨_, rfl⟩
        obtain ⟨z, rfl⟩ := fz
        have g0 := Int.emod_nonneg (i ^ t) (show (p : Int) ≠ 0 by omega)
        have g1 := Int.emod_lt_of_pos (i ^ t) (show (0 : Int) < (p : Int) by omega)
        have bg : Bd (i ^ t % (p : Int)) 14 := .of_lt (by omega)
        refine do_set 2 (ev_mod (ev_mul (ev_v 2) (ev_v 0) bg bi) (ev_v 1) (by omega)) (.int _) (do_nil ⟨some (.int z), ?_⟩) nd
        have e : i ^ t % (p : Int) * i % (p : Int) = i ^ (t + 1) % (p : Int) := by
          rw [Int.pow_succ]
          exact ((MP.Sm.mod (p : Int) (i ^ t)).mul (MP.Sm.refl _ i)).emod
        rw [← e]
        rfl
      · rintro ρ ⟨u, rfl⟩
        refine ⟨u, ?_⟩
        rw [List.length_map, List.length_range, e1]
      · rintro ρ ⟨u, rfl⟩
        by_cases h : i ^ (p / 2) % (p : Int) = 1
        · exact do_ret (ev_ifT (Et.tt (et_eq (ev_v 2) ev_int) h) ev_int) (by show D.int 1 = D.int (MD.sd i p); rw [MD.sd, if_neg h2, if_pos h])
        · exact do_ret (ev_ifF (Et.ff' (et_eq (ev_v 2) ev_int) h) (ev_neg ev_int)) (by show D.int (-1) = D.int (MD.sd i p); rw [MD.sd, if_neg h2, if_neg h])
set_option maxHeartbeats 4000000 in
theorem ok_law_sides {f : Addr} {fd : FuncData} (G1 : Fn P w K mg base 1 "_law_side" p_law_side3) (F : Fun K "_law_sides" "_law_sides" s_law_sides f fd) (hm : mg "_law_sides" = some (.ref f)) (hb : Binds K fd ["_law_bar", "_law_number"] []) : Fn P w K mg base 2 "_law_sides" p_law_sides := by
  refine fn_mk F sc_law_sides hm hb (fun ds d h => ?_) (fun cdv A outer s H E hr ds d h => ?_)
  · obtain ⟨i, n, rfl, _⟩ := h
    exact ⟨rfl, fun a es => by simp [nD]⟩
  · obtain ⟨i, n, rfl, n0, n1, bi, rfl⟩ := h
    have nd := sc_law_sides.nd
    refine do_set 2 ev_int (.int _) ?_ nd
    refine do_set 3 ev_int (.int _) ?_ nd
    refine do_while (fun ρ => ∃ (k r : Nat) (g : Int), ρ = [some (.int i), some (nD r), some (.int g), some (nD k)] ∧ 2 ≤ k ∧ k ≤ n + 1 ∧ 0 < r ∧ r ≤ n ∧ (g = 1 ∨ g = -1) ∧ g * MD.chi i r = MD.chi i n ∧ (∀ d, 2 ≤ d → d ∣ r → k ≤ d) ∧ (1 < r → k ≤ r))
      (fun ρ => ∃ u v, ρ = [some (.int i), u, some (.int (MD.chi i n)), v]) (fun ρ => (n + 2 - intAt ρ 3).toNat) PassesOwn.never ⟨2, n, 1, rfl, by decide, by omega, n0, Nat.le_refl _, .inl rfl, Int.one_mul _, fun d h _ => h, fun h => h⟩ ?_ ?_
    · rintro ρ ⟨k, r, g, rfl, k2, kn, r0, rn, gu, e, hd, kr⟩
      refine ⟨_, et_gt (ev_v 1) ev_int, fun hk => ?_, fun hk => ?_⟩
      · have r1 : 1 < r := by
          have : (1 : Int) < (r : Int) := by simpa [nD] using hk
          omega
        have kr := kr r1
        have bk : Bd (k : Int) 14 := .of_lt (by omega)
        refine do_while (fun ρ => ∃ (r : Nat) (g : Int), ρ = [some (.int i), some (nD r), some (.int g), some (nD k)] ∧ 0 < r ∧ r ≤ n ∧ (g = 1 ∨ g = -1) ∧ g * MD.chi i r = MD.chi i n ∧ ∀ d, 2 ≤ d → d ∣ r → k ≤ d)
          (fun ρ => ∃ (r : Nat) (g : Int), ρ = [some (.int i), some (nD r), some (.int g), some (nD k)] ∧ 0 < r ∧ r ≤ n ∧ (g = 1 ∨ g = -1) ∧ g * MD.chi i r = MD.chi i n ∧ (∀ d, 2 ≤ d → d ∣ r → k ≤ d) ∧ ¬ k ∣ r) (fun ρ => (intAt ρ 1).toNat) PassesOwn.never ⟨r, g, rfl, r0, rn, gu, e, hd⟩ ?_ ?_
        · rintro ρ ⟨r, g, rfl, r0, rn, gu, e, hd⟩
          refine ⟨_, et_eq (ev_mod (ev_v 1) (ev_v 3) (by omega)) ev_int, fun hk => ?_, fun hk => ?_⟩
          · have hk' : r % k = 0 := by
              have : (r : Int) % (k : Int) = 0 := by simpa using hk
              exact_mod_cast this
            have pk := least_pr k2 r0 (Nat.dvd_of_mod_eq_zero hk') hd
            obtain ⟨m, rfl⟩ := Nat.dvd_of_mod_eq_zero hk'
            have m0 : 0 < m := Nat.pos_of_mul_pos_left r0
            have e2 := MD.chi_cons i k2 m0 hd
            have em : ((k * m : Nat) : Int) / (k : Int) = (m : Int) := by
              rw [Int.natCast_mul]
              exact Int.mul_ediv_cancel_left _ (by omega)
            have mm := Nat.mul_le_mul_right m k2
            refine do_set 2 (ev_mul (ev_v 2) (ev_call G1 hr (ea_cons (ev_v 0) (ea_cons (ev_v 3) ea_nil)) ⟨i, k, rfl, pk, by omega, bi, rfl⟩) (unit_bd gu) (unit_bd (MD.sd_cases i k))) (.int _) ?_ nd
            refine do_set 1 (d := nD m) (Ev.to (ev_div (ev_v 1) (ev_v 3) (by omega) bk) (congrArg D.int em)) (.int _) (do_nil ⟨⟨m, g * MD.sd i k, rfl, m0, by omega, unit_mul gu (MD.sd_cases i k), ?_, fun d d2 dm => hd d d2 (Nat.dvd_trans dm (Nat.dvd_mul_left m k))⟩, ?_⟩) nd
            · rw [← e, e2, Int.mul_assoc]
            · show ((m : Nat) : Int).toNat < ((k * m : Nat) : Int).toNat
              omega
          · have hk' : ¬ r % k = 0 := fun z => by
              have : ¬ (r : Int) % (k : Int) = 0 := by simpa using hk
              exact this (by exact_mod_cast z)
            exact ⟨r, g, rfl, r0, rn, gu, e, hd, fun z => hk' (Nat.mod_eq_zero_of_dvd z)⟩
        · rintro ρ ⟨r, g, rfl, r0, rn, gu, e, hd, hn⟩
          have hd2 : ∀ d, 2 ≤ d → d ∣ r → k + 1 ≤ d := fun d d2 dr => by
            have h1 := hd d d2 dr
            by_cases z : d = k
            · subst z
              exact absurd dr hn
            · omega
          refine do_set 3 (d := nD (k + 1)) (Ev.to (ev_add (ev_v 3) ev_int) (congrArg D.int (by simp))) (.int _) ?_ nd
          have bk1 : Bd ((k + 1 : Nat) : Int) 14 := .of_lt (by omega)
          refine do_if (fun ρ => ∃ (r' : Nat) (g' : Int), ρ = [some (.int i), some (nD r'), some (.int g'), some (nD (k + 1))] ∧ 0 < r' ∧ r' ≤ n ∧ (g' = 1 ∨ g' = -1) ∧ g' * MD.chi i r' = MD.chi i n ∧ (∀ d, 2 ≤ d → d ∣ r' → k + 1 ≤ d) ∧ (1 < r' → k + 1 ≤ r'))
            (et_w (ew_and (et_gt (ev_mul (ev_v 3) (ev_v 3) bk1 bk1) (ev_v 1)) fun _ => ew_and1 (et_gt (ev_v 1) ev_int))) (fun hk => ?_) (fun hk => ?_) ?_
          · simp only [Bool.and_eq_true, decide_eq_true_eq] at hk
            obtain ⟨h1, h2⟩ := hk
            have h1' : r < (k + 1) * (k + 1) := by exact_mod_cast h1
            have h2' : 1 < r := by omega
            have pr : MD.PF r = [r] := PF_last h2' hd2 h1'
            have prr : MP.Pr r := (PF_pr r (by rw [pr]; exact List.mem_cons_self)).1
            have er : MD.chi i r = MD.sd i r := by
              unfold MD.chi
              rw [pr]
              show MD.sd i r * 1 = _
              rw [Int.mul_one]
            refine do_set 2 (ev_mul (ev_v 2) (ev_call G1 hr (ea_cons (ev_v 0) (ea_cons (ev_v 1) ea_nil)) ⟨i, r, rfl, prr, by omega, bi, rfl⟩) (unit_bd gu) (unit_bd (MD.sd_cases i r))) (.int _) ?_ nd
            refine do_set 1 (d := nD 1) ev_int (.int _) (do_nil ⟨1, g * MD.sd i r, rfl, Nat.one_pos, n0, unit_mul gu (MD.sd_cases i r), ?_, fun d d2 d1 => ?_, fun z => by omega⟩) nd
            · rw [MD.chi_one, Int.mul_one, ← er, e]
            · have := Nat.le_of_dvd Nat.one_pos d1
              omega
          · refine do_nil ⟨r, g, rfl, r0, rn, gu, e, hd2, fun r1 => ?_⟩
            simp only [Bool.and_eq_false_iff, decide_eq_false_iff_not] at hk
            rcases hk with z | z
            · have z' : (k + 1) * (k + 1) ≤ r := by
                have : ((k + 1 : Nat) : Int) * ((k + 1 : Nat) : Int) ≤ (r : Int) := by omega
                exact_mod_cast this
              exact Nat.le_trans (Nat.le_mul_self _) z'
            · omega
          · rintro ρ ⟨r', g', rfl, r0', rn', gu', e', hd', kr'⟩
            refine do_nil ⟨⟨k + 1, r', g', rfl, by omega, by omega, r0', rn', gu', e', hd', kr'⟩, ?_⟩
            show ((n : Int) + 2 - ((k + 1 : Nat) : Int)).toNat < ((n : Int) + 2 - (k : Int)).toNat
            omega
      · have r1 : r = 1 := by
          have : ¬ (1 : Int) < (r : Int) := by simpa [nD] using hk
          omega
        subst r1
        rw [MD.chi_one, Int.mul_one] at e
        subst e
        exact ⟨_, _, rfl⟩
    · rintro ρ ⟨u, v, rfl⟩
      exact do_ret (ev_v 2) rfl
set_option maxHeartbeats 4000000 in
theorem ok_law_many {f : Addr} {fd : FuncData} (T : Tx mg) (G1 : Fn P w K mg base 2 "_law_sides" p_law_sides) (F : Fun K "_law_many" "_law_many" s_law_many f fd) (hm : mg "_law_many" = some (.ref f)) (hb : Binds K fd ["_law_bar", "_law_number"] []) : Fn P w K mg base 3 "_law_many" p_law_many := by
  refine fn_mk F sc_law_many hm hb (fun ds d h => ?_) (fun cdv A outer s H E hr ds d h => ?_)
  · obtain ⟨i, n, rfl, _⟩ := h
    exact ⟨rfl, fun a es => by simp [nD]⟩
  · obtain ⟨i, n, rfl, n0, n1, bi, rfl⟩ := h
    have nd := sc_law_many.nd
    have bS := sm_bd i n n n1
    refine do_set 2 ev_int (.int _) ?_ nd
    refine do_for 3 (fun t ρ => ∃ u, ρ = [some (.int i), some (nD n), some (.int (MD.sm t (sgd i n))), u]) (fun ρ => ∃ u, ρ = [some (.int i), some (nD n), some (.int (MD.S i n)), u]) PassesOwn.never rfl
      (wk_range2 T.range ev_int (ev_add (ev_v 1) ev_int) (by decide) (by decide) (by omega) (by omega)) (fun d hd => ?_) (fun _ _ _ => trivial) ⟨none, rfl⟩ ?_ ?_ ?_ nd
    · obtain ⟨z, _, rfl⟩ := List.mem_map.mp hd
      exact .int _
    · rintro t d ρ hdt ⟨u, rfl⟩
      have tk : t < ((n : Int) + 1 - 1).toNat := by
        have := (List.getElem?_eq_some_iff.mp hdt).1
        simpa using this
      rw [List.getElem?_map, List.getElem?_range tk] at hdt
      obtain rfl : d = nD (t + 1) := by
        have := (Option.some.inj hdt).symm
        rw [this]
        show D.int _ = D.int _
        congr 1
        omega
      refine do_if (fun ρ => ρ = [some (.int i), some (nD n), some (.int (MD.sm (t + 1) (sgd i n))), some (nD (t + 1))]) (et_eq (ev_mod (ev_v 1) (ev_v 3) (by omega)) ev_int) (fun hk => ?_) (fun hk => ?_) (fun ρ h => do_nil ⟨_, h⟩)
      · have hk' : n % (t + 1) = 0 := by
          have : (n : Int) % ((t + 1 : Nat) : Int) = 0 := by simpa using hk
          exact_mod_cast this
        refine do_set 2 (ev_add (ev_v 2) (ev_call G1 hr (ea_cons (ev_v 0) (ea_cons (ev_v 3) ea_nil)) ⟨i, t + 1, rfl, by omega, by omega, bi, rfl⟩)) (.int _) (do_nil ?_) nd
        have e : MD.sm (t + 1) (sgd i n) = MD.sm t (sgd i n) + MD.chi i (t + 1) := by
          show MD.sm t (sgd i n) + sgd i n (t + 1) = _
          unfold sgd
          rw [if_pos (Nat.dvd_of_mod_eq_zero hk')]
        rw [e]
        rfl
      · have hk' : ¬ (t + 1) ∣ n := fun z => by
          have : ¬ (n : Int) % ((t + 1 : Nat) : Int) = 0 := by simpa using hk
          exact this (by exact_mod_cast Nat.mod_eq_zero_of_dvd z)
        have e : MD.sm (t + 1) (sgd i n) = MD.sm t (sgd i n) := by
          show MD.sm t (sgd i n) + sgd i n (t + 1) = _
          unfold sgd
          rw [if_neg hk', Int.add_zero]
        rw [e]
        exact do_nil rfl
    · rintro ρ ⟨u, rfl⟩
      refine ⟨u, ?_⟩
      have e : ((n : Int) + 1 - 1).toNat = n := by omega
      rw [List.length_map, List.length_range, e]
      rfl
    · rintro ρ ⟨u, rfl⟩
      have b6 : Bd (6 : Int) 3 := .lit
      refine do_ifR (et_eq (ev_v 0) (ev_neg ev_int)) (fun hk => ?_) (fun hk => ?_)
      · have h : i = -3 := by simpa using hk
        exact do_ret (ev_mul ev_int (ev_v 2) b6 bS) (by show D.int _ = D.int _; rw [MD.wn, if_pos h]; rfl)
      · have h : ¬ i = -3 := by simpa using hk
        refine do_ifR (et_eq (ev_v 0) (ev_neg ev_int)) (fun hk => ?_) (fun hk => ?_)
        · have h2 : i = -4 := by simpa using hk
          exact do_ret (ev_mul ev_int (ev_v 2) bd_4 bS) (by show D.int _ = D.int _; rw [MD.wn, if_neg h, if_pos h2]; rfl)
        · have h2 : ¬ i = -4 := by simpa using hk
          exact do_ret (ev_mul ev_int (ev_v 2) bd_2 bS) (by show D.int _ = D.int _; rw [MD.wn, if_neg h, if_neg h2]; rfl)
set_option maxHeartbeats 8000000 in
theorem ok_law_told {f : Addr} {fd : FuncData} (T : Tx mg) (G1 : Fn P w K mg base 1 "_law_ints" p_law_ints) (G2 : Fn P w K mg base 1 "_law_worth" p_law_worth) (F : Fun K "_law_told" "_law_told" s_law_told f fd) (hm : mg "_law_told" = some (.ref f)) (hb : Binds K fd ["_law_found", "_law_rows", "_law_number"] []) : Fn P w K mg base 2 "_law_told" p_law_told := by
  refine fn_mk F sc_law_told hm hb (fun ds d h => ?_) (fun cdv A outer s H E hr ds d h => ?_)
  · obtain ⟨rfl, i, n, rfl, _⟩ := h
    exact ⟨rfl, fun a es => by simp⟩
  · obtain ⟨rfl, i, n, rfl, hi, n0, n1⟩ := h
    have nd := sc_law_told.nd
    have len : (WL i n).length ≤ 1000000 := by
      have h1 := wn_len hi n0 n1 (clsL i) fun f hf => hf
      have h2 := cls_len2 hi
      unfold WL
      omega
    have nod := wl_nodup (n := n) hi
    have ord := wl_order i n
    have mem : ∀ p ∈ WL i n, _ := fun p hp => mem_wl hp
    generalize eW : WL i n = W at *
    refine do_set 3 ev_int (.int _) ?_ nd
    refine do_for 4 (fun t ρ => ∃ (u v : Option D) (at' : Nat), ρ = [some (.ls (W.map wD)), some (.ls ((clsL i).map qD)), some (.int n), some (.int (at' : Int)), u, v] ∧ ∀ p, W[t]? = some p → at' ≤ (clsL i).idxOf p.1) (fun ρ => True) PassesOwn.never rfl
      (wk_range1 T.range (ev_len T.len (ev_v 0) rfl) (by rw [List.length_map]; omega) (by rw [List.length_map]; omega)) (fun d hd => ?_) (fun _ _ _ => trivial) ⟨none, none, 0, rfl, fun _ _ => Nat.zero_le _⟩ ?_ (fun _ _ => trivial) (fun ρ _ => do_ret ev_bl rfl) nd
    · obtain ⟨z, _, rfl⟩ := List.mem_map.mp hd
      exact .int _
    · rintro t d ρ hdt ⟨u, v, at', rfl, hat⟩
      have tk : t < W.length := by
        have := (List.getElem?_eq_some_iff.mp hdt).1
        simpa using this
      have tk2 : t < ((((W.map wD).length : Nat) : Int)).toNat := by simpa using tk
      rw [List.getElem?_map, List.getElem?_range tk2] at hdt
      obtain rfl : d = D.int ((t : Nat) : Int) := by
        have := (Option.some.inj hdt).symm
        rw [this]
        show D.int _ = D.int _
        congr 1
        omega
      obtain ⟨p, hp⟩ : ∃ p, W[t]? = some p := ⟨_, List.getElem?_eq_getElem tk⟩
      have hpm := List.mem_of_getElem? hp
      obtain ⟨m1, m2⟩ := mem p hpm
      have S := cls_small hi m1
      obtain ⟨x, y, e2, ew⟩ := (MS.mem_PL S.pos S.bar n0 p.2).mp m2
      obtain ⟨bx, by'⟩ := here_bd S n0 n1 (x := x) (y := y) ew
      have hidx := hat p hp
      have iat : (clsL i)[(clsL i).idxOf p.1]? = some p.1 := by
        have hl := List.idxOf_lt_length_iff.mpr m1
        rw [List.getElem?_eq_getElem hl, List.getElem_idxOf]
      have ino : ∀ k, k < (clsL i).idxOf p.1 → (clsL i)[k]? ≠ some p.1 := fun k hk z => by
        have hl := (List.getElem?_eq_some_iff.mp z).1
        have e := (List.getElem?_eq_some_iff.mp z).2
        have := (MD.cls_nodup i).idxOf_getElem k hl
        rw [e] at this
        omega
      have dat : ((clsL i).map qD)[(clsL i).idxOf p.1]? = some (qD p.1) := by rw [List.getElem?_map, iat]; rfl
      have dno : ∀ k, k < (clsL i).idxOf p.1 → ((clsL i).map qD)[k]? ≠ some (qD p.1) := fun k hk z => by
        rw [List.getElem?_map] at z
        obtain ⟨q, hq, eq⟩ := Option.map_eq_some_iff.mp z
        refine ino k hk ?_
        rw [hq]
        congr 1
        have := congrArg qOf eq
        rwa [qOf_qD, qOf_qD] at this
      have cq : ∀ z ∈ (clsL i).map qD, Cm 1 z (qD p.1) := fun z hz => by
        obtain ⟨q, _, rfl⟩ := List.mem_map.mp hz
        exact Cm.ints [q.a, q.b, q.c] [p.1.a, p.1.b, p.1.c]
      have in1 : inD (qD p.1) ((clsL i).map qD) = true := inD_iff.mpr (List.mem_map.mpr ⟨p.1, m1, rfl⟩)
      have cut : cutD (W.map wD) none (some ((t : Nat) : Int)) = (W.take t).map wD := by
        unfold cutD
        have h0 : HT.sIx (W.map wD).length 0 none = 0 := rfl
        have h1 : HT.sIx (W.map wD).length (W.map wD).length (some ((t : Nat) : Int)) = t := by
          unfold HT.sIx
          rw [List.length_map]
          simp
          rw [if_neg (by omega)]
          omega
        rw [h0, h1, List.drop_zero, Nat.sub_zero, ← List.map_take]
      have in2 : inD (wD p) ((W.take t).map wD) = false := by
        refine Bool.eq_false_iff.mpr fun z => ?_
        obtain ⟨q, hq, eq⟩ := List.mem_map.mp (inD_iff.mp z)
        have := wD_inj eq
        subst this
        obtain ⟨k, hk, ek⟩ := List.mem_take_iff_getElem.mp hq
        have hk' : k < t := by omega
        have hp' := (List.getElem?_eq_some_iff.mp hp).2
        rw [List.nodup_iff_pairwise_ne, List.pairwise_iff_getElem] at nod
        exact nod k t (by omega) tk hk' (by rw [ek, hp'])
      have it : atI (W.map wD) ((t : Nat) : Int) = some (wD p) := by
        refine atI_nat ?_
        rw [List.getElem?_map, hp]
        rfl
      obtain ⟨⟨a, b, c⟩, t2⟩ := p
      subst e2
      have U : ∀ {z : Int}, Bd z 3000 → Bd z 8000 := fun h => h.up _ (by decide)
      refine do_set 5 (ev_ixl (ev_v 0) rfl (ev_v 4) it) (fz_w _) ?_ nd
      refine do_ifF (et_w (ew_orF (et_notT (et_val (ev_isi T.isi (ev_v 5) T.tuple bo_tuple rfl kit_s))) (ew_orF (Et.ff (et_ne (ev_len T.len (ev_v 5) rfl) ev_int) rfl) (ew_orF (et_notT (et_val (ev_call G1 hr (ea_cons (ev_ix (ev_v 5) ev_int rfl) (ea_cons ev_int ea_nil)) ⟨[x, y], rfl, rfl⟩))) (ew_or1 (Et.to (et_in (n := 2) hr (ev_v 5) (EvN.ev (evn_slice (ev_v 0) rfl eo_none (eo_some (ev_v 4)) (fz_ws W))) (.inl rfl) (fun z hz => ?_)) (by rw [cut]; exact in2))))))) ?_
      · rw [cut] at hz
        obtain ⟨q, _, rfl⟩ := List.mem_map.mp hz
        exact cm_w q _
      refine do_ifF (et_w (ew_orF (Et.to (et_notin (n := 1) hr (ev_ix (ev_v 5) ev_int rfl) (ev_v 1) (.inl rfl) cq) (by rw [in1]; rfl)) (ew_orF (Et.ff' (et_lt (ev_index (n := 1) hr (ev_v 1) rfl (ev_ix (ev_v 5) ev_int rfl) cq dat dno) (ev_v 3)) (by omega)) (ew_or1 (Et.ff (et_ne (ev_call G2 hr (ea_cons (ev_ix (ev_v 5) ev_int rfl) (ea_cons (ev_ix (ev_v 5) ev_int rfl) ea_nil)) ⟨a, b, c, x, y, rfl, U S.sa, U S.sb, U S.sc, bx, by', rfl⟩) (ev_v 2)) ew))))) ?_
      refine do_set 3 (ev_index (n := 1) hr (ev_v 1) rfl (ev_ix (ev_v 5) ev_int rfl) cq dat dno) (.int _) (do_nil ⟨_, _, _, rfl, fun q hq => ?_⟩) nd
      rw [List.pairwise_iff_getElem] at ord
      have h1 := (List.getElem?_eq_some_iff.mp hp)
      have h2 := (List.getElem?_eq_some_iff.mp hq)
      have := ord t (t + 1) tk h2.1 (by omega)
      rw [h1.2, h2.2] at this
      exact this
set_option maxHeartbeats 16000000 in
theorem ok_law {f : Addr} {fd : FuncData} (T : Tx mg) (Gc : Fn P w K mg base 1 "_law_cell_at" p_law_cell_at) (Gd : Fn P w K mg base 1 "_law_divisor" p_law_divisor) (Gi : Fn P w K mg base 1 "_law_ints" p_law_ints) (Gt : Fn P w K mg base 2 "_law_told" p_law_told) (Gm : Fn P w K mg base 3 "_law_many" p_law_many)
    (Gw : FnL P w K mg base 9 "ways" p_ways) (Gs : Fn P w K mg base 5 "ways_sum" p_ws) (Gk : FnL P w K mg base 8 "classes" p_classes) (Gp : FnL P w K mg base 7 "places" p_places) (F : Fun K "law" "law" s_law f fd) : FnOk P w K mg base CX0 10 f fd ["_law_script"] (SpD K p_law) := by
  refine fn_ok F sc_law (fun ds d h => ?_) (fun cdv A outer s H E hr ds d h => ?_)
  · obtain ⟨ns, rfl, _, _, rfl⟩ := h
    exact ⟨rfl, fun a es => by simp⟩
  · obtain ⟨ns, rfl, hlen, hs, rfl⟩ := h
    have nd := sc_law.nd
    have hr1 := hr.mono (show 1 ≤ 9 by decide)
    have hr2 := hr.mono (show 2 ≤ 9 by decide)
    have hr3 := hr.mono (show 3 ≤ 9 by decide)
    have hr5 := hr.mono (show 5 ≤ 9 by decide)
    have hr7 := hr.mono (show 7 ≤ 9 by decide)
    have hr8 := hr.mono (show 8 ≤ 9 by decide)
    have b48 : Bd 48271 16 := .lit
    refine do_set 1 (ev_add ev_int (ev_mod (ev_call Gc hr1 (ea_cons (ev_v 0) (ea_cons ev_int ea_nil)) ⟨ns, 0, rfl, rfl⟩) ev_int (by decide))) (.int _) ?_ nd
    have a0 := Int.emod_nonneg (cell ns 0) (show (9 : Int) ≠ 0 by decide)
    have a1 := Int.emod_lt_of_pos (cell ns 0) (show (0 : Int) < 9 by decide)
    obtain ⟨a, ea, pa, la⟩ : ∃ a : Int, 1 + cell ns 0 % 9 = a ∧ 0 < a ∧ a ≤ 9 := ⟨_, rfl, by omega, by omega⟩
    rw [ea]
    clear a0 a1 ea
    have ba : Bd a 4 := .of_lt (by omega)
    refine do_set 2 (ev_sub (ev_v 1) (ev_mod (ev_call Gc hr1 (ea_cons (ev_v 0) (ea_cons ev_int ea_nil)) ⟨ns, 1, rfl, rfl⟩) (ev_mul ev_int (ev_v 1) bd_2 ba) (by omega))) (.int _) ?_ nd
    have c0 := Int.emod_nonneg (cell ns 1) (show 2 * a ≠ 0 by omega)
    have c1 := Int.emod_lt_of_pos (cell ns 1) (show 0 < 2 * a by omega)
    obtain ⟨b, eb, lb, hb⟩ : ∃ b : Int, a - cell ns 1 % (2 * a) = b ∧ -a < b ∧ b ≤ a := ⟨_, rfl, by omega, by omega⟩
    rw [eb]
    clear c0 c1 eb
    have bb : Bd b 4 := .of_lt (by omega)
    have sqb : b * b ≤ a * a := by
      have := MT.mul_nn (show 0 ≤ a - b by omega) (show 0 ≤ a + b by omega)
      grind
    have sqa : a * a ≤ 81 := by
      have := Int.mul_le_mul la la (by omega) (by decide)
      omega
    have sqb0 := MT.sq_nonneg b
    have q1 := Int.mul_ediv_add_emod (400 + b * b) (4 * a)
    have q2 := Int.emod_nonneg (400 + b * b) (show 4 * a ≠ 0 by omega)
    have q3 := Int.emod_lt_of_pos (400 + b * b) (show 0 < 4 * a by omega)
    have mod : a ≤ (400 + b * b) / (4 * a) := by
      refine Int.not_lt.mp fun z => ?_
      have := Int.mul_le_mul_of_nonneg_left (show (400 + b * b) / (4 * a) ≤ a - 1 by omega) (show 0 ≤ 4 * a by omega)
      have e : 4 * a * (a - 1) = 4 * (a * a) - 4 * a := by grind
      omega
    refine do_set 3 (ev_add (ev_v 1) (ev_mod (ev_call Gc hr1 (ea_cons (ev_v 0) (ea_cons ev_int ea_nil)) ⟨ns, 2, rfl, rfl⟩) (ev_add (ev_sub (ev_div (ev_add ev_int (ev_mul (ev_v 2) (ev_v 2) bb bb)) (ev_mul ev_int (ev_v 1) bd_4 ba) (by omega) (Bd.mul bd_4 ba 7 (by decide))) (ev_v 1)) ev_int) (by omega))) (.int _) ?_ nd
    obtain ⟨c, ec, lc, hc⟩ : ∃ c : Int, a + cell ns 2 % ((400 + b * b) / (4 * a) - a + 1) = c ∧ a ≤ c ∧ c ≤ (400 + b * b) / (4 * a) := by
      have h1 := Int.emod_nonneg (cell ns 2) (show (400 + b * b) / (4 * a) - a + 1 ≠ 0 by omega)
      have h2 := Int.emod_lt_of_pos (cell ns 2) (show 0 < (400 + b * b) / (4 * a) - a + 1 by omega)
      exact ⟨_, rfl, by omega, by omega⟩
    rw [ec]
    clear ec
    have lowb : -400 ≤ b * b - 4 * a * c := by
      have := Int.mul_le_mul_of_nonneg_left hc (show 0 ≤ 4 * a by omega)
      omega
    have neg : b * b - 4 * a * c < 0 := by
      have := Int.mul_le_mul_of_nonneg_left lc (show 0 ≤ 4 * a by omega)
      have e : 4 * a * a = 4 * (a * a) := by grind
      have := Int.mul_pos pa pa
      omega
    have cq : c ≤ 481 := by
      have : (400 + b * b) / (4 * a) ≤ 400 + b * b := Int.ediv_le_self _ (by omega)
      omega
    have bc : Bd c 10 := .of_lt (by omega)
    have h4 := bar_mod a b c
    refine do_set 4 (ev_sub (ev_mul (ev_v 2) (ev_v 2) bb bb) (ev_mul (ev_mul ev_int (ev_v 1) bd_4 ba) (ev_v 3) (Bd.mul bd_4 ba 7 (by decide)) bc)) (.int _) ?_ nd
    generalize b * b - 4 * a * c = i0 at *
    refine do_if (fun ρ => ∃ i : Int, ρ = [some (scrD ns), some (.int a), some (.int b), some (.int c), some (.int i), none, none, none, none, none, none, none] ∧ i < 0 ∧ -400 ≤ i ∧ (i % 4 = 0 ∨ i % 4 = 1)) (et_gt (ev_mod (ev_call Gc hr1 (ea_cons (ev_v 0) (ea_cons ev_int ea_nil)) ⟨ns, 4, rfl, rfl⟩) ev_int (by decide)) ev_int)
      (fun _ => do_set 4 (ev_sub (ev_neg ev_int) (ev_mod (ev_call Gc hr1 (ea_cons (ev_v 0) (ea_cons ev_int ea_nil)) ⟨ns, 4, rfl, rfl⟩) ev_int (by decide))) (.int _) (do_nil ⟨_, rfl, by omega, by omega, by omega⟩) nd) (fun _ => do_nil ⟨i0, rfl, neg, lowb, h4⟩) ?_
    clear neg lowb h4
    rintro ρ ⟨i1, rfl, neg, lowb, h4⟩
    refine do_set 5 (ev_add ev_int (ev_mod (ev_call Gc hr1 (ea_cons (ev_v 0) (ea_cons ev_int ea_nil)) ⟨ns, 3, rfl, rfl⟩) ev_int (by decide))) (.int _) ?_ nd
    have e300 : 0 ≤ cell ns 3 % 300 ∧ cell ns 3 % 300 < 300 := by omega
    have e9000 : 0 ≤ cell ns 3 * 48271 % 9000 ∧ cell ns 3 * 48271 % 9000 < 9000 := by omega
    have e8 : 0 ≤ cell ns 4 / 8 % 2 ∧ cell ns 4 / 8 % 2 < 2 := by omega
    refine do_if (fun ρ => ∃ i n : Int, ρ = [some (scrD ns), some (.int a), some (.int b), some (.int c), some (.int i), some (.int n), none, none, none, none, none, none] ∧ i < 0 ∧ -400 ≤ i ∧ (i % 4 = 0 ∨ i % 4 = 1) ∧ 0 < n ∧ n - i ≤ 9300) (et_eq (ev_mod (ev_call Gc hr1 (ea_cons (ev_v 0) (ea_cons ev_int ea_nil)) ⟨ns, 4, rfl, rfl⟩) ev_int (by decide)) ev_int)
      (fun _ => ?_) (fun _ => do_nil ⟨i1, _, rfl, neg, lowb, h4, by omega, by omega⟩) ?_
    · refine do_set 5 (ev_add ev_int (ev_mod (ev_mul (ev_call Gc hr1 (ea_cons (ev_v 0) (ea_cons ev_int ea_nil)) ⟨ns, 3, rfl, rfl⟩) ev_int (hs 3) b48) ev_int (by decide))) (.int _) ?_ nd
      refine do_set 4 (ev_sub (ev_mod (ev_v 4) ev_int (by decide)) ev_int) (.int _) ?_ nd
      refine do_set 4 (ev_sub (ev_add (ev_sub (ev_v 4) (ev_mod (ev_v 4) ev_int (by decide))) ev_int) (ev_mod (ev_div (ev_call Gc hr1 (ea_cons (ev_v 0) (ea_cons ev_int ea_nil)) ⟨ns, 4, rfl, rfl⟩) ev_int (by decide) (show Bd 8 4 from .lit)) ev_int (by decide))) (.int _) (do_nil ⟨_, _, rfl, ?_, ?_, ?_, ?_, ?_⟩) nd
      · omega
      · omega
      · omega
      · omega
      · omega
    clear neg lowb h4
    rintro ρ ⟨i, n0, rfl, neg, lowb, h4, n0p, hn0⟩
    obtain ⟨k, k1, k2, k3⟩ := cop_near neg n0p
    refine do_while (fun ρ => ∃ n : Int, ρ = [some (scrD ns), some (.int a), some (.int b), some (.int c), some (.int i), some (.int n), none, none, none, none, none, none] ∧ 0 < n ∧ n ≤ k)
      (fun ρ => ∃ n : Nat, ρ = [some (scrD ns), some (.int a), some (.int b), some (.int c), some (.int i), some (nD n), none, none, none, none, none, none] ∧ 0 < n ∧ n ≤ 9300 ∧ Int.gcd i (n : Int) = 1) (fun ρ => (k - intAt ρ 5).toNat) PassesOwn.never ⟨n0, rfl, n0p, k1⟩ ?_ ?_
    · rintro ρ ⟨n, rfl, np, nk⟩
      refine ⟨_, et_ne (ev_call Gd hr1 (ea_cons (ev_v 4) (ea_cons (ev_v 5) ea_nil)) ⟨i, n, rfl, rfl⟩) ev_int, fun hk => ?_, fun hk => ?_⟩
      · have hk' : ¬ ((Int.gcd i n : Nat) : Int) = 1 := by simpa using hk
        have nk' : n ≠ k := fun z => hk' (by rw [z, k3]; rfl)
        refine do_set 5 (ev_add (ev_v 5) ev_int) (.int _) (do_nil ⟨⟨n + 1, rfl, by omega, by omega⟩, ?_⟩) nd
        show (k - (n + 1)).toNat < (k - n).toNat
        omega
      · have hk' : ((Int.gcd i n : Nat) : Int) = 1 := by simpa using hk
        have en : ((n.toNat : Nat) : Int) = n := by omega
        refine ⟨n.toNat, ?_, by omega, by omega, by rw [en]; omega⟩
        unfold nD
        rw [en]
    clear k1 k2 k3 k
    rintro ρ ⟨n, rfl, np, nl, hg⟩
    have hB : BarL i := ⟨⟨neg, h4⟩, by omega⟩
    have bi : Bd i 40 := .of_lt (by omega)
    have cnt : (((WL i (n : Int)).length : Nat) : Int) = (MD.wn i : Nat) * MD.S i n := by
      rw [wl_len]
      exact MD.count hB n np (by omega) (no_common hg)
    refine do_setN 6 (evn_call Gw hr (ea_cons (ev_v 4) (ea_cons (ev_v 5) ea_nil)) ⟨i, (n : Int), rfl, hB, by omega, by omega, rfl⟩) (fz_ws _) (fun l _ => ?_) nd
    refine do_ifF (et_w (ew_orF (et_notT (et_val (ev_isi T.isi (ev_v 6) T.list bo_list rfl kit_s))) (ew_or1 (et_notT (et_val (ev_call Gt hr2 (ea_cons (ev_lsOf (ev_v 6)) (ea_cons (EvN.ev (evn_call Gk hr8 (ea_cons (ev_v 4) ea_nil) ⟨i, rfl, hB, rfl⟩)) (ea_cons (ev_v 5) ea_nil))) ⟨rfl, i, (n : Int), rfl, hB, by omega, by omega⟩)))))) ?_
    refine do_set 7 (ev_call Gs hr5 (ea_cons (ev_v 4) (ea_cons (ev_v 5) ea_nil)) ⟨i, n, rfl, hB.d, np, by omega, hg, rfl⟩) (.int _) ?_ nd
    refine do_ifF (et_w (ew_orF (et_notT (et_val (ev_call Gi hr1 (ea_cons (ev_tup (ea_cons (ev_v 7) (ea_cons ev_int ea_nil))) (ea_cons ev_int ea_nil)) ⟨[(MD.wn i : Nat) * MD.S i n, 0], rfl, rfl⟩))) (ew_orF (Et.ff (et_ne (ev_len T.len (ev_v 6) rfl) (ev_v 7)) (by rw [List.length_map]; exact cnt)) (ew_or1 (Et.ff (et_ne (ev_v 7) (ev_call Gm hr3 (ea_cons (ev_v 4) (ea_cons (ev_v 5) ea_nil)) ⟨i, n, rfl, np, by omega, bi, rfl⟩)) rfl))))) ?_
    generalize (MD.wn i : Nat) * MD.S i n = told at *
    generalize (WL i (n : Int)).map wD = wys at *
    have e9 : 0 ≤ cell ns 5 % 10 ^ 9 ∧ cell ns 5 % 10 ^ 9 < 10 ^ 9 := ⟨Int.emod_nonneg _ (by decide), Int.emod_lt_of_pos _ (by decide)⟩
    refine do_if (fun ρ => ∃ u v, ρ = [some (scrD ns), some (.int a), some (.int b), some (.int c), some (.int i), u, some (.lst l wys), some (.int told), v, none, none, none] ∧ (∀ x es, u ≠ some (.lst x es)) ∧ (∀ x es, v ≠ some (.lst x es))) (et_eq (ev_mod (ev_call Gc hr1 (ea_cons (ev_v 0) (ea_cons ev_int ea_nil)) ⟨ns, 4, rfl, rfl⟩) ev_int (by decide)) ev_int)
      (fun _ => ?_) (fun _ => do_nil ⟨_, _, rfl, (fun _ _ z => by cases z), (fun _ _ z => by cases z)⟩) ?_
    · refine do_set 8 (ev_sub (ev_sub (ev_neg ev_int) (ev_mod (ev_div (ev_call Gc hr1 (ea_cons (ev_v 0) (ea_cons ev_int ea_nil)) ⟨ns, 4, rfl, rfl⟩) ev_int (by decide) (show Bd 8 4 from .lit)) ev_int (by decide))) (ev_mul ev_int (ev_mod (ev_call Gc hr1 (ea_cons (ev_v 0) (ea_cons ev_int ea_nil)) ⟨ns, 5, rfl, rfl⟩) (ev_pow (n := 9) ev_int ev_int bd_10) (by decide)) bd_4 (show Bd (cell ns 5 % 10 ^ 9) 30 from .of_lt (by omega)))) (.int _) ?_ nd
      obtain ⟨j, ej, j0, j1, j4⟩ : ∃ j : Int, -3 - cell ns 4 / 8 % 2 - 4 * (cell ns 5 % 10 ^ 9) = j ∧ j < 0 ∧ -4000000004 ≤ j ∧ (j % 4 = 0 ∨ j % 4 = 1) := ⟨_, rfl, by omega, by omega, by omega⟩
      rw [ej]
      refine do_set 5 (ev_add ev_int (ev_mod (ev_call Gc hr1 (ea_cons (ev_v 0) (ea_cons ev_int ea_nil)) ⟨ns, 3, rfl, rfl⟩) ev_int (by decide))) (.int _) ?_ nd
      obtain ⟨k, k1, k2, k3⟩ := cop_far j0 j1
      have bj : Bd j 40 := .of_lt (by omega)
      refine do_while (fun ρ => ∃ n : Int, ρ = [some (scrD ns), some (.int a), some (.int b), some (.int c), some (.int i), some (.int n), some (.lst l wys), some (.int told), some (.int j), none, none, none] ∧ 0 < n ∧ n ≤ k)
        (fun ρ => ∃ n : Nat, ρ = [some (scrD ns), some (.int a), some (.int b), some (.int c), some (.int i), some (nD n), some (.lst l wys), some (.int told), some (.int j), none, none, none] ∧ 0 < n ∧ n ≤ 9300 ∧ Int.gcd j (n : Int) = 1) (fun ρ => (k - intAt ρ 5).toNat) PassesOwn.never ⟨_, rfl, by omega, by omega⟩ ?_ ?_
      · rintro ρ ⟨n, rfl, np, nk⟩
        refine ⟨_, et_ne (ev_call Gd hr1 (ea_cons (ev_v 8) (ea_cons (ev_v 5) ea_nil)) ⟨j, n, rfl, rfl⟩) ev_int, fun hk => ?_, fun hk => ?_⟩
        · have hk' : ¬ ((Int.gcd j n : Nat) : Int) = 1 := by simpa using hk
          have nk' : n ≠ k := fun z => hk' (by rw [z, k3]; rfl)
          refine do_set 5 (ev_add (ev_v 5) ev_int) (.int _) (do_nil ⟨⟨n + 1, rfl, by omega, by omega⟩, ?_⟩) nd
          show (k - (n + 1)).toNat < (k - n).toNat
          omega
        · have hk' : ((Int.gcd j n : Nat) : Int) = 1 := by simpa using hk
          have en : ((n.toNat : Nat) : Int) = n := by omega
          refine ⟨n.toNat, ?_, by omega, by omega, by rw [en]; omega⟩
          unfold nD
          rw [en]
      · rintro ρ ⟨m, rfl, mp, ml, hgm⟩
        refine do_ifF (Et.ff (et_ne (ev_call Gs hr5 (ea_cons (ev_v 8) (ea_cons (ev_v 5) ea_nil)) ⟨j, m, rfl, ⟨j0, j4⟩, mp, by omega, hgm, rfl⟩) (ev_call Gm hr3 (ea_cons (ev_v 8) (ea_cons (ev_v 5) ea_nil)) ⟨j, m, rfl, mp, by omega, bj, rfl⟩)) rfl) (do_nil ⟨_, _, rfl, (fun _ _ z => by cases z), (fun _ _ z => by cases z)⟩)
    rintro ρ ⟨u, v, rfl, hu, hv⟩
    refine do_set 9 (ev_mod (ev_call Gc hr1 (ea_cons (ev_v 0) (ea_cons ev_int ea_nil)) ⟨ns, 5, rfl, rfl⟩) ev_int (by decide)) (.int _) ?_ nd
    obtain ⟨o, eo, o0, o1⟩ : ∃ o : Int, cell ns 5 % 301 = o ∧ 0 ≤ o ∧ o ≤ 10000 := ⟨_, rfl, by omega, by omega⟩
    rw [eo]
    refine do_setN 10 (evn_list ea_nil) (fun d hd => by cases hd) (fun l2 _ => ?_) nd
    refine do_for 11 (fun t ρ => ∃ w l2, ρ = [some (scrD ns), some (.int a), some (.int b), some (.int c), some (.int i), u, some (.lst l wys), some (.int told), v, some (.int o), some (.lst l2 ((WN o ((clsL i).take t)).map wD)), w]) (fun ρ => ∃ w l2, ρ = [some (scrD ns), some (.int a), some (.int b), some (.int c), some (.int i), u, some (.lst l wys), some (.int told), v, some (.int o), some (.lst l2 ((WL i o).map wD)), w]) PassesOwn.never rfl
      (wk_new (evn_call Gk hr8 (ea_cons (ev_v 4) ea_nil) ⟨i, rfl, hB, rfl⟩) (fzQs _)) (fzQs _) (fun _ _ _ => trivial) ⟨none, l2, rfl⟩ ?_ ?_ ?_ nd
    · rintro t d ρ hdt ⟨w', l3, rfl⟩
      rw [List.getElem?_map] at hdt
      obtain ⟨g, hg, rfl⟩ := Option.map_eq_some_iff.mp hdt
      have hl := (List.getElem?_eq_some_iff.mp hg).1
      have mg' := List.mem_of_getElem? hg
      have e : (clsL i).take (t + 1) = (clsL i).take t ++ [g] := by
        rw [List.take_succ_eq_append_getElem hl, (List.getElem?_eq_some_iff.mp hg).2]
      have l1 := wn_len hB o0 o1 ((clsL i).take (t + 1)) fun f hf => List.mem_of_mem_take hf
      have l2 := cls_len2 hB
      have l3 : ((clsL i).take (t + 1)).length ≤ (clsL i).length := by rw [List.length_take]; exact Nat.min_le_right _ _
      rw [e, wn_snoc, List.length_append] at l1
      rw [e] at l3
      refine do_setN 10 (ds := (WN o ((clsL i).take t)).map wD ++ (WC o g).map wD) (evn_cat (ev_v 10) ?_ (by rw [List.length_map, List.length_map]; omega)) (by rw [← List.map_append]; exact fz_ws _) (fun l4 _ => do_nil ⟨some (qD g), l4, ?_⟩) nd
      · rw [wc_data]
        refine evn_compC [("_law_form", s.heap.objs.size + 1)] ["_law_form"] [11] (fun _ => true) (fun d => .tup [qD g, d]) (src_ls (EvN.ev (evn_call Gp hr7 (ea_cons (ev_v 11) (ea_cons (ev_v 9) ea_nil)) (places_at hB mg' o0 o1))) rfl) ?_ (fun d hd _ => ?_) (fun C s₀ H₀ fp d hd => ets_nil) (fun C s₀ H₀ fp d hd _ => ?_)
        · have := pl_len hB mg' o0 o1
          rw [List.length_map, srt_len]
          omega
        · obtain ⟨t, _, rfl⟩ := List.mem_map.mp hd
          exact fz_pair (fzQ _) (fz_ints _)
        · exact ev_tup (ea_cons (ev_v 1) (ea_cons (ev_v 0) ea_nil))
      · rw [e, wn_snoc, List.map_append]
        rfl
    · rintro ρ ⟨w', l3, rfl⟩
      refine ⟨w', l3, ?_⟩
      rw [List.length_map, List.take_length]
      rfl
    · rintro ρ ⟨w', l3, rfl⟩
      exact do_ret (Ev.to (ev_eqL (n := 2) hr (EvN.ev (evn_call Gw hr (ea_cons (ev_v 4) (ea_cons (ev_v 9) ea_nil)) ⟨i, o, rfl, hB, o0, o1, rfl⟩)) (ev_v 10) rfl rfl (cms_w _ _)) (congrArg D.bl (eqb_iff.mpr rfl))) rfl
end
theorem all_mk {l : PySem.W.OpenLaw} {w : World} {K : PySem.W.Frag} {h : Heap} {mg : Str → Option Value} {fa f0 f1 f2 f3 f4 f5 f6 f7 f8 f9 f10 f11 f12 f13 f14 f15 f16 f17 f18 f19 f20 f21 f22 f23 f24 f25 f26 f27 f28 f29 f30 f31 f32 f33 f34 f35 f36 f37 f38 f39 f40 f41 f42 f43 f44 f45 : Addr} (X : K.In h) (G : h.Ns mainGlobals mg) (hfa : mg "law" = some (.ref fa))
    {od0 an0 od1 an1 od2 an2 od3 an3 od4 an4 od5 an5 od6 an6 od7 an7 od8 an8 od9 an9 od10 an10 od11 an11 od12 an12 od13 an13 od14 an14 od15 an15 od16 an16 od17 an17 od18 an18 od19 an19 od20 an20 od21 an21 od22 an22 od23 an23 od24 an24 od25 an25 od26 an26 od27 an27 od28 an28 od29 an29 od30 an30 od31 an31 od32 an32 od33 an33 od34 an34 od35 an35 od36 an36 od37 an37 od38 an38 od39 an39 od40 an40 od41 an41 od42 an42 od43 an43 od44 an44 od45 an45 : Option Addr} {sl0 sl1 sl2 sl3 sl4 sl5 sl6 sl7 sl8 sl9 sl10 sl11 sl12 sl13 sl14 sl15 sl16 sl17 sl18 sl19 sl20 sl21 sl22 sl23 sl24 sl25 sl26 sl27 sl28 sl29 sl30 sl31 sl32 sl33 sl34 sl35 sl36 sl37 sl38 sl39 sl40 sl41 sl42 sl43 sl44 sl45 : Array (Option Value)} {oc0 kV0 dc0 pm0 cd0 ct0 oc1 kV1 dc1 pm1 cd1 ct1 oc2 kV2 dc2 pm2 cd2 ct2 oc3 kV3 dc3 pm3 cd3 ct3 oc4 kV4 dc4 pm4 cd4 ct4 oc5 kV5 dc5 pm5 cd5 ct5 oc6 kV6 dc6 pm6 cd6 ct6 oc7 kV7 dc7 pm7 cd7 ct7 oc8 kV8 dc8 pm8 cd8 ct8 oc9 kV9 dc9 pm9 cd9 ct9 oc10 kV10 dc10 pm10 cd10 ct10 oc11 kV11 dc11 pm11 cd11 ct11 oc12 kV12 dc12 pm12 cd12 ct12 oc13 kV13 dc13 pm13 cd13 ct13 oc14 kV14 dc14 pm14 cd14 ct14 oc15 kV15 dc15 pm15 cd15 ct15 oc16 kV16 dc16 pm16 cd16 ct16 oc17 kV17 dc17 pm17 cd17 ct17 oc18 kV18 dc18 pm18 cd18 ct18 oc19 kV19 dc19 pm19 cd19 ct19 oc20 kV20 dc20 pm20 cd20 ct20 oc21 kV21 dc21 pm21 cd21 ct21 oc22 kV22 dc22 pm22 cd22 ct22 oc23 kV23 dc23 pm23 cd23 ct23 oc24 kV24 dc24 pm24 cd24 ct24 oc25 kV25 dc25 pm25 cd25 ct25 oc26 kV26 dc26 pm26 cd26 ct26 oc27 kV27 dc27 pm27 cd27 ct27 oc28 kV28 dc28 pm28 cd28 ct28 oc29 kV29 dc29 pm29 cd29 ct29 oc30 kV30 dc30 pm30 cd30 ct30 oc31 kV31 dc31 pm31 cd31 ct31 oc32 kV32 dc32 pm32 cd32 ct32 oc33 kV33 dc33 pm33 cd33 ct33 oc34 kV34 dc34 pm34 cd34 ct34 oc35 kV35 dc35 pm35 cd35 ct35 oc36 kV36 dc36 pm36 cd36 ct36 oc37 kV37 dc37 pm37 cd37 ct37 oc38 kV38 dc38 pm38 cd38 ct38 oc39 kV39 dc39 pm39 cd39 ct39 oc40 kV40 dc40 pm40 cd40 ct40 oc41 kV41 dc41 pm41 cd41 ct41 oc42 kV42 dc42 pm42 cd42 ct42 oc43 kV43 dc43 pm43 cd43 ct43 oc44 kV44 dc44 pm44 cd44 ct44 oc45 kV45 dc45 pm45 cd45 ct45 : Value}
    (a0 : PySem.W.nsIn K mainGlobals "is_whole" = some (some (.ref f0))) (l0 : K.lookup f0 = some ⟨oc0, od0, .func (PySem.W.fnOf "is_whole" "is_whole" (defArgs s_is_whole) (defBody s_is_whole) (defScope s_is_whole) .none kV0 dc0 pm0 an0 cd0 ct0), sl0⟩) (c0 : PySem.W.codeIn K cd0 "is_whole" = true) (k0 : PySem.W.keepIn K (.ref f0) = true)
    (a1 : PySem.W.nsIn K mainGlobals "is_whole_tuple" = some (some (.ref f1))) (l1 : K.lookup f1 = some ⟨oc1, od1, .func (PySem.W.fnOf "is_whole_tuple" "is_whole_tuple" (defArgs s_is_whole_tuple) (defBody s_is_whole_tuple) (defScope s_is_whole_tuple) .none kV1 dc1 pm1 an1 cd1 ct1), sl1⟩) (c1 : PySem.W.codeIn K cd1 "is_whole_tuple" = true) (k1 : PySem.W.keepIn K (.ref f1) = true)
    (a2 : PySem.W.nsIn K mainGlobals "is_bar" = some (some (.ref f2))) (l2 : K.lookup f2 = some ⟨oc2, od2, .func (PySem.W.fnOf "is_bar" "is_bar" (defArgs s_is_bar) (defBody s_is_bar) (defScope s_is_bar) .none kV2 dc2 pm2 an2 cd2 ct2), sl2⟩) (c2 : PySem.W.codeIn K cd2 "is_bar" = true) (k2 : PySem.W.keepIn K (.ref f2) = true)
    (a3 : PySem.W.nsIn K mainGlobals "require_bar" = some (some (.ref f3))) (l3 : K.lookup f3 = some ⟨oc3, od3, .func (PySem.W.fnOf "require_bar" "require_bar" (defArgs s_require_bar) (defBody s_require_bar) (defScope s_require_bar) .none kV3 dc3 pm3 an3 cd3 ct3), sl3⟩) (c3 : PySem.W.codeIn K cd3 "require_bar" = true) (k3 : PySem.W.keepIn K (.ref f3) = true)
    (a4 : PySem.W.nsIn K mainGlobals "require_bar_from" = some (some (.ref f4))) (l4 : K.lookup f4 = some ⟨oc4, od4, .func (PySem.W.fnOf "require_bar_from" "require_bar_from" (defArgs s_require_bar_from) (defBody s_require_bar_from) (defScope s_require_bar_from) .none kV4 dc4 pm4 an4 cd4 ct4), sl4⟩) (c4 : PySem.W.codeIn K cd4 "require_bar_from" = true) (k4 : PySem.W.keepIn K (.ref f4) = true)
    (a5 : PySem.W.nsIn K mainGlobals "require_whole" = some (some (.ref f5))) (l5 : K.lookup f5 = some ⟨oc5, od5, .func (PySem.W.fnOf "require_whole" "require_whole" (defArgs s_require_whole) (defBody s_require_whole) (defScope s_require_whole) .none kV5 dc5 pm5 an5 cd5 ct5), sl5⟩) (c5 : PySem.W.codeIn K cd5 "require_whole" = true) (k5 : PySem.W.keepIn K (.ref f5) = true)
    (a6 : PySem.W.nsIn K mainGlobals "require_number" = some (some (.ref f6))) (l6 : K.lookup f6 = some ⟨oc6, od6, .func (PySem.W.fnOf "require_number" "require_number" (defArgs s_require_number) (defBody s_require_number) (defScope s_require_number) .none kV6 dc6 pm6 an6 cd6 ct6), sl6⟩) (c6 : PySem.W.codeIn K cd6 "require_number" = true) (k6 : PySem.W.keepIn K (.ref f6) = true)
    (a7 : PySem.W.nsIn K mainGlobals "common_divisor" = some (some (.ref f7))) (l7 : K.lookup f7 = some ⟨oc7, od7, .func (PySem.W.fnOf "common_divisor" "common_divisor" (defArgs s_common_divisor) (defBody s_common_divisor) (defScope s_common_divisor) .none kV7 dc7 pm7 an7 cd7 ct7), sl7⟩) (c7 : PySem.W.codeIn K cd7 "common_divisor" = true) (k7 : PySem.W.keepIn K (.ref f7) = true)
    (a8 : PySem.W.nsIn K mainGlobals "root_of" = some (some (.ref f8))) (l8 : K.lookup f8 = some ⟨oc8, od8, .func (PySem.W.fnOf "root_of" "root_of" (defArgs s_root_of) (defBody s_root_of) (defScope s_root_of) .none kV8 dc8 pm8 an8 cd8 ct8), sl8⟩) (c8 : PySem.W.codeIn K cd8 "root_of" = true) (k8 : PySem.W.keepIn K (.ref f8) = true)
    (a9 : PySem.W.nsIn K mainGlobals "prime_factors" = some (some (.ref f9))) (l9 : K.lookup f9 = some ⟨oc9, od9, .func (PySem.W.fnOf "prime_factors" "prime_factors" (defArgs s_prime_factors) (defBody s_prime_factors) (defScope s_prime_factors) .none kV9 dc9 pm9 an9 cd9 ct9), sl9⟩) (c9 : PySem.W.codeIn K cd9 "prime_factors" = true) (k9 : PySem.W.keepIn K (.ref f9) = true)
    (a10 : PySem.W.nsIn K mainGlobals "power_by" = some (some (.ref f10))) (l10 : K.lookup f10 = some ⟨oc10, od10, .func (PySem.W.fnOf "power_by" "power_by" (defArgs s_power_by) (defBody s_power_by) (defScope s_power_by) .none kV10 dc10 pm10 an10 cd10 ct10), sl10⟩) (c10 : PySem.W.codeIn K cd10 "power_by" = true) (k10 : PySem.W.keepIn K (.ref f10) = true)
    (a11 : PySem.W.nsIn K mainGlobals "leaves_square" = some (some (.ref f11))) (l11 : K.lookup f11 = some ⟨oc11, od11, .func (PySem.W.fnOf "leaves_square" "leaves_square" (defArgs s_leaves_square) (defBody s_leaves_square) (defScope s_leaves_square) .none kV11 dc11 pm11 an11 cd11 ct11), sl11⟩) (c11 : PySem.W.codeIn K cd11 "leaves_square" = true) (k11 : PySem.W.keepIn K (.ref f11) = true)
    (a12 : PySem.W.nsIn K mainGlobals "bar_of_numbers" = some (some (.ref f12))) (l12 : K.lookup f12 = some ⟨oc12, od12, .func (PySem.W.fnOf "bar_of_numbers" "bar_of_numbers" (defArgs s_bar_of_numbers) (defBody s_bar_of_numbers) (defScope s_bar_of_numbers) .none kV12 dc12 pm12 an12 cd12 ct12), sl12⟩) (c12 : PySem.W.codeIn K cd12 "bar_of_numbers" = true) (k12 : PySem.W.keepIn K (.ref f12) = true)
    (a13 : PySem.W.nsIn K mainGlobals "is_form" = some (some (.ref f13))) (l13 : K.lookup f13 = some ⟨oc13, od13, .func (PySem.W.fnOf "is_form" "is_form" (defArgs s_is_form) (defBody s_is_form) (defScope s_is_form) .none kV13 dc13 pm13 an13 cd13 ct13), sl13⟩) (c13 : PySem.W.codeIn K cd13 "is_form" = true) (k13 : PySem.W.keepIn K (.ref f13) = true)
    (a14 : PySem.W.nsIn K mainGlobals "require_form" = some (some (.ref f14))) (l14 : K.lookup f14 = some ⟨oc14, od14, .func (PySem.W.fnOf "require_form" "require_form" (defArgs s_require_form) (defBody s_require_form) (defScope s_require_form) .none kV14 dc14 pm14 an14 cd14 ct14), sl14⟩) (c14 : PySem.W.codeIn K cd14 "require_form" = true) (k14 : PySem.W.keepIn K (.ref f14) = true)
    (a15 : PySem.W.nsIn K mainGlobals "bar_of" = some (some (.ref f15))) (l15 : K.lookup f15 = some ⟨oc15, od15, .func (PySem.W.fnOf "bar_of" "bar_of" (defArgs s_bar_of) (defBody s_bar_of) (defScope s_bar_of) .none kV15 dc15 pm15 an15 cd15 ct15), sl15⟩) (c15 : PySem.W.codeIn K cd15 "bar_of" = true) (k15 : PySem.W.keepIn K (.ref f15) = true)
    (a16 : PySem.W.nsIn K mainGlobals "is_bare" = some (some (.ref f16))) (l16 : K.lookup f16 = some ⟨oc16, od16, .func (PySem.W.fnOf "is_bare" "is_bare" (defArgs s_is_bare) (defBody s_is_bare) (defScope s_is_bare) .none kV16 dc16 pm16 an16 cd16 ct16), sl16⟩) (c16 : PySem.W.codeIn K cd16 "is_bare" = true) (k16 : PySem.W.keepIn K (.ref f16) = true)
    (a17 : PySem.W.nsIn K mainGlobals "sent" = some (some (.ref f17))) (l17 : K.lookup f17 = some ⟨oc17, od17, .func (PySem.W.fnOf "sent" "sent" (defArgs s_sent) (defBody s_sent) (defScope s_sent) .none kV17 dc17 pm17 an17 cd17 ct17), sl17⟩) (c17 : PySem.W.codeIn K cd17 "sent" = true) (k17 : PySem.W.keepIn K (.ref f17) = true)
    (a18 : PySem.W.nsIn K mainGlobals "is_least" = some (some (.ref f18))) (l18 : K.lookup f18 = some ⟨oc18, od18, .func (PySem.W.fnOf "is_least" "is_least" (defArgs s_is_least) (defBody s_is_least) (defScope s_is_least) .none kV18 dc18 pm18 an18 cd18 ct18), sl18⟩) (c18 : PySem.W.codeIn K cd18 "is_least" = true) (k18 : PySem.W.keepIn K (.ref f18) = true)
    (a19 : PySem.W.nsIn K mainGlobals "stepped" = some (some (.ref f19))) (l19 : K.lookup f19 = some ⟨oc19, od19, .func (PySem.W.fnOf "stepped" "stepped" (defArgs s_stepped) (defBody s_stepped) (defScope s_stepped) .none kV19 dc19 pm19 an19 cd19 ct19), sl19⟩) (c19 : PySem.W.codeIn K cd19 "stepped" = true) (k19 : PySem.W.keepIn K (.ref f19) = true)
    (a20 : PySem.W.nsIn K mainGlobals "behind_step" = some (some (.ref f20))) (l20 : K.lookup f20 = some ⟨oc20, od20, .func (PySem.W.fnOf "behind_step" "behind_step" (defArgs s_behind_step) (defBody s_behind_step) (defScope s_behind_step) .none kV20 dc20 pm20 an20 cd20 ct20), sl20⟩) (c20 : PySem.W.codeIn K cd20 "behind_step" = true) (k20 : PySem.W.keepIn K (.ref f20) = true)
    (a21 : PySem.W.nsIn K mainGlobals "swapped" = some (some (.ref f21))) (l21 : K.lookup f21 = some ⟨oc21, od21, .func (PySem.W.fnOf "swapped" "swapped" (defArgs s_swapped) (defBody s_swapped) (defScope s_swapped) .none kV21 dc21 pm21 an21 cd21 ct21), sl21⟩) (c21 : PySem.W.codeIn K cd21 "swapped" = true) (k21 : PySem.W.keepIn K (.ref f21) = true)
    (a22 : PySem.W.nsIn K mainGlobals "behind_swap" = some (some (.ref f22))) (l22 : K.lookup f22 = some ⟨oc22, od22, .func (PySem.W.fnOf "behind_swap" "behind_swap" (defArgs s_behind_swap) (defBody s_behind_swap) (defScope s_behind_swap) .none kV22 dc22 pm22 an22 cd22 ct22), sl22⟩) (c22 : PySem.W.codeIn K cd22 "behind_swap" = true) (k22 : PySem.W.keepIn K (.ref f22) = true)
    (a23 : PySem.W.nsIn K mainGlobals "step_to_middle" = some (some (.ref f23))) (l23 : K.lookup f23 = some ⟨oc23, od23, .func (PySem.W.fnOf "step_to_middle" "step_to_middle" (defArgs s_step_to_middle) (defBody s_step_to_middle) (defScope s_step_to_middle) .none kV23 dc23 pm23 an23 cd23 ct23), sl23⟩) (c23 : PySem.W.codeIn K cd23 "step_to_middle" = true) (k23 : PySem.W.keepIn K (.ref f23) = true)
    (a24 : PySem.W.nsIn K mainGlobals "least_of" = some (some (.ref f24))) (l24 : K.lookup f24 = some ⟨oc24, od24, .func (PySem.W.fnOf "least_of" "least_of" (defArgs s_least_of) (defBody s_least_of) (defScope s_least_of) .none kV24 dc24 pm24 an24 cd24 ct24), sl24⟩) (c24 : PySem.W.codeIn K cd24 "least_of" = true) (k24 : PySem.W.keepIn K (.ref f24) = true)
    (a25 : PySem.W.nsIn K mainGlobals "least_forms_from" = some (some (.ref f25))) (l25 : K.lookup f25 = some ⟨oc25, od25, .func (PySem.W.fnOf "least_forms_from" "least_forms_from" (defArgs s_least_forms_from) (defBody s_least_forms_from) (defScope s_least_forms_from) .none kV25 dc25 pm25 an25 cd25 ct25), sl25⟩) (c25 : PySem.W.codeIn K cd25 "least_forms_from" = true) (k25 : PySem.W.keepIn K (.ref f25) = true)
    (a26 : PySem.W.nsIn K mainGlobals "least_forms" = some (some (.ref f26))) (l26 : K.lookup f26 = some ⟨oc26, od26, .func (PySem.W.fnOf "least_forms" "least_forms" (defArgs s_least_forms) (defBody s_least_forms) (defScope s_least_forms) .none kV26 dc26 pm26 an26 cd26 ct26), sl26⟩) (c26 : PySem.W.codeIn K cd26 "least_forms" = true) (k26 : PySem.W.keepIn K (.ref f26) = true)
    (a27 : PySem.W.nsIn K mainGlobals "classes" = some (some (.ref f27))) (l27 : K.lookup f27 = some ⟨oc27, od27, .func (PySem.W.fnOf "classes" "classes" (defArgs s_classes) (defBody s_classes) (defScope s_classes) .none kV27 dc27 pm27 an27 cd27 ct27), sl27⟩) (c27 : PySem.W.codeIn K cd27 "classes" = true) (k27 : PySem.W.keepIn K (.ref f27) = true)
    (a28 : PySem.W.nsIn K mainGlobals "greatest_row" = some (some (.ref f28))) (l28 : K.lookup f28 = some ⟨oc28, od28, .func (PySem.W.fnOf "greatest_row" "greatest_row" (defArgs s_greatest_row) (defBody s_greatest_row) (defScope s_greatest_row) .none kV28 dc28 pm28 an28 cd28 ct28), sl28⟩) (c28 : PySem.W.codeIn K cd28 "greatest_row" = true) (k28 : PySem.W.keepIn K (.ref f28) = true)
    (a29 : PySem.W.nsIn K mainGlobals "places_in_row" = some (some (.ref f29))) (l29 : K.lookup f29 = some ⟨oc29, od29, .func (PySem.W.fnOf "places_in_row" "places_in_row" (defArgs s_places_in_row) (defBody s_places_in_row) (defScope s_places_in_row) .none kV29 dc29 pm29 an29 cd29 ct29), sl29⟩) (c29 : PySem.W.codeIn K cd29 "places_in_row" = true) (k29 : PySem.W.keepIn K (.ref f29) = true)
    (a30 : PySem.W.nsIn K mainGlobals "places_of_least" = some (some (.ref f30))) (l30 : K.lookup f30 = some ⟨oc30, od30, .func (PySem.W.fnOf "places_of_least" "places_of_least" (defArgs s_places_of_least) (defBody s_places_of_least) (defScope s_places_of_least) .none kV30 dc30 pm30 an30 cd30 ct30), sl30⟩) (c30 : PySem.W.codeIn K cd30 "places_of_least" = true) (k30 : PySem.W.keepIn K (.ref f30) = true)
    (a31 : PySem.W.nsIn K mainGlobals "places" = some (some (.ref f31))) (l31 : K.lookup f31 = some ⟨oc31, od31, .func (PySem.W.fnOf "places" "places" (defArgs s_places) (defBody s_places) (defScope s_places) .none kV31 dc31 pm31 an31 cd31 ct31), sl31⟩) (c31 : PySem.W.codeIn K cd31 "places" = true) (k31 : PySem.W.keepIn K (.ref f31) = true)
    (a32 : PySem.W.nsIn K mainGlobals "ways" = some (some (.ref f32))) (l32 : K.lookup f32 = some ⟨oc32, od32, .func (PySem.W.fnOf "ways" "ways" (defArgs s_ways) (defBody s_ways) (defScope s_ways) .none kV32 dc32 pm32 an32 cd32 ct32), sl32⟩) (c32 : PySem.W.codeIn K cd32 "ways" = true) (k32 : PySem.W.keepIn K (.ref f32) = true)
    (a33 : PySem.W.nsIn K mainGlobals "side_by_prime" = some (some (.ref f33))) (l33 : K.lookup f33 = some ⟨oc33, od33, .func (PySem.W.fnOf "side_by_prime" "side_by_prime" (defArgs s_side_by_prime) (defBody s_side_by_prime) (defScope s_side_by_prime) .none kV33 dc33 pm33 an33 cd33 ct33), sl33⟩) (c33 : PySem.W.codeIn K cd33 "side_by_prime" = true) (k33 : PySem.W.keepIn K (.ref f33) = true)
    (a34 : PySem.W.nsIn K mainGlobals "side_by" = some (some (.ref f34))) (l34 : K.lookup f34 = some ⟨oc34, od34, .func (PySem.W.fnOf "side_by" "side_by" (defArgs s_side_by) (defBody s_side_by) (defScope s_side_by) .none kV34 dc34 pm34 an34 cd34 ct34), sl34⟩) (c34 : PySem.W.codeIn K cd34 "side_by" = true) (k34 : PySem.W.keepIn K (.ref f34) = true)
    (a35 : PySem.W.nsIn K mainGlobals "ways_of_one" = some (some (.ref f35))) (l35 : K.lookup f35 = some ⟨oc35, od35, .func (PySem.W.fnOf "ways_of_one" "ways_of_one" (defArgs s_ways_of_one) (defBody s_ways_of_one) (defScope s_ways_of_one) .none kV35 dc35 pm35 an35 cd35 ct35), sl35⟩) (c35 : PySem.W.codeIn K cd35 "ways_of_one" = true) (k35 : PySem.W.keepIn K (.ref f35) = true)
    (a36 : PySem.W.nsIn K mainGlobals "ways_sum" = some (some (.ref f36))) (l36 : K.lookup f36 = some ⟨oc36, od36, .func (PySem.W.fnOf "ways_sum" "ways_sum" (defArgs s_ways_sum) (defBody s_ways_sum) (defScope s_ways_sum) .none kV36 dc36 pm36 an36 cd36 ct36), sl36⟩) (c36 : PySem.W.codeIn K cd36 "ways_sum" = true) (k36 : PySem.W.keepIn K (.ref f36) = true)
    (a37 : PySem.W.nsIn K mainGlobals "_law_ints" = some (some (.ref f37))) (l37 : K.lookup f37 = some ⟨oc37, od37, .func (PySem.W.fnOf "_law_ints" "_law_ints" (defArgs s_law_ints) (defBody s_law_ints) (defScope s_law_ints) .none kV37 dc37 pm37 an37 cd37 ct37), sl37⟩) (c37 : PySem.W.codeIn K cd37 "_law_ints" = true) (k37 : PySem.W.keepIn K (.ref f37) = true)
    (a38 : PySem.W.nsIn K mainGlobals "_law_cell_at" = some (some (.ref f38))) (l38 : K.lookup f38 = some ⟨oc38, od38, .func (PySem.W.fnOf "_law_cell_at" "_law_cell_at" (defArgs s_law_cell_at) (defBody s_law_cell_at) (defScope s_law_cell_at) .none kV38 dc38 pm38 an38 cd38 ct38), sl38⟩) (c38 : PySem.W.codeIn K cd38 "_law_cell_at" = true) (k38 : PySem.W.keepIn K (.ref f38) = true)
    (a39 : PySem.W.nsIn K mainGlobals "_law_worth" = some (some (.ref f39))) (l39 : K.lookup f39 = some ⟨oc39, od39, .func (PySem.W.fnOf "_law_worth" "_law_worth" (defArgs s_law_worth) (defBody s_law_worth) (defScope s_law_worth) .none kV39 dc39 pm39 an39 cd39 ct39), sl39⟩) (c39 : PySem.W.codeIn K cd39 "_law_worth" = true) (k39 : PySem.W.keepIn K (.ref f39) = true)
    (a40 : PySem.W.nsIn K mainGlobals "_law_divisor" = some (some (.ref f40))) (l40 : K.lookup f40 = some ⟨oc40, od40, .func (PySem.W.fnOf "_law_divisor" "_law_divisor" (defArgs s_law_divisor) (defBody s_law_divisor) (defScope s_law_divisor) .none kV40 dc40 pm40 an40 cd40 ct40), sl40⟩) (c40 : PySem.W.codeIn K cd40 "_law_divisor" = true) (k40 : PySem.W.keepIn K (.ref f40) = true)
    (a41 : PySem.W.nsIn K mainGlobals "_law_side" = some (some (.ref f41))) (l41 : K.lookup f41 = some ⟨oc41, od41, .func (PySem.W.fnOf "_law_side" "_law_side" (defArgs s_law_side) (defBody s_law_side) (defScope s_law_side) .none kV41 dc41 pm41 an41 cd41 ct41), sl41⟩) (c41 : PySem.W.codeIn K cd41 "_law_side" = true) (k41 : PySem.W.keepIn K (.ref f41) = true)
    (a42 : PySem.W.nsIn K mainGlobals "_law_sides" = some (some (.ref f42))) (l42 : K.lookup f42 = some ⟨oc42, od42, .func (PySem.W.fnOf "_law_sides" "_law_sides" (defArgs s_law_sides) (defBody s_law_sides) (defScope s_law_sides) .none kV42 dc42 pm42 an42 cd42 ct42), sl42⟩) (c42 : PySem.W.codeIn K cd42 "_law_sides" = true) (k42 : PySem.W.keepIn K (.ref f42) = true)
    (a43 : PySem.W.nsIn K mainGlobals "_law_many" = some (some (.ref f43))) (l43 : K.lookup f43 = some ⟨oc43, od43, .func (PySem.W.fnOf "_law_many" "_law_many" (defArgs s_law_many) (defBody s_law_many) (defScope s_law_many) .none kV43 dc43 pm43 an43 cd43 ct43), sl43⟩) (c43 : PySem.W.codeIn K cd43 "_law_many" = true) (k43 : PySem.W.keepIn K (.ref f43) = true)
    (a44 : PySem.W.nsIn K mainGlobals "_law_told" = some (some (.ref f44))) (l44 : K.lookup f44 = some ⟨oc44, od44, .func (PySem.W.fnOf "_law_told" "_law_told" (defArgs s_law_told) (defBody s_law_told) (defScope s_law_told) .none kV44 dc44 pm44 an44 cd44 ct44), sl44⟩) (c44 : PySem.W.codeIn K cd44 "_law_told" = true) (k44 : PySem.W.keepIn K (.ref f44) = true)
    (a45 : PySem.W.nsIn K mainGlobals "law" = some (some (.ref f45))) (l45 : K.lookup f45 = some ⟨oc45, od45, .func (PySem.W.fnOf "law" "law" (defArgs s_law) (defBody s_law) (defScope s_law) .none kV45 dc45 pm45 an45 cd45 ct45), sl45⟩) (c45 : PySem.W.codeIn K cd45 "law" = true) (k45 : PySem.W.keepIn K (.ref f45) = true)
    {gNO_TURN : Addr} {odNO_TURN : Option Addr} {nNO_TURN : Nat} {slNO_TURN : Array (Option Value)} {tNO_TURN0 tNO_TURN1 tNO_TURN2 tNO_TURN3 : Tok}
    (caNO_TURN : PySem.W.nsIn K mainGlobals "NO_TURN" = some (some (.ref gNO_TURN))) (clNO_TURN : K.lookup gNO_TURN = some ⟨.type "tuple", odNO_TURN, .seq #[.int (1 : Int) tNO_TURN0, .int (0 : Int) tNO_TURN1, .int (0 : Int) tNO_TURN2, .int (1 : Int) tNO_TURN3] nNO_TURN, slNO_TURN⟩)
    {tLOWEST_LISTED_BAR : Tok} (caLOWEST_LISTED_BAR : PySem.W.nsIn K mainGlobals "LOWEST_LISTED_BAR" = some (some (.int (-4000 : Int) tLOWEST_LISTED_BAR)))
    {tGREATEST_places : Tok} (caGREATEST_places : PySem.W.nsIn K mainGlobals "GREATEST_places" = some (some (.int (10000 : Int) tGREATEST_places)))
    {tGREATEST_primes : Tok} (caGREATEST_primes : PySem.W.nsIn K mainGlobals "GREATEST_primes" = some (some (.int (10000 : Int) tGREATEST_primes)))
    (z0 : PySem.W.nsIn K mainGlobals "abs" = some none) (z1 : PySem.W.nsIn K mainGlobals "all" = some none) (z2 : PySem.W.nsIn K mainGlobals "any" = some none) (z3 : PySem.W.nsIn K mainGlobals "bool" = some none) (z4 : PySem.W.nsIn K mainGlobals "dict" = some none) (z5 : PySem.W.nsIn K mainGlobals "enumerate" = some none) (z6 : PySem.W.nsIn K mainGlobals "int" = some none) (z7 : PySem.W.nsIn K mainGlobals "isinstance" = some none) (z8 : PySem.W.nsIn K mainGlobals "len" = some none) (z9 : PySem.W.nsIn K mainGlobals "list" = some none) (z10 : PySem.W.nsIn K mainGlobals "max" = some none) (z11 : PySem.W.nsIn K mainGlobals "min" = some none) (z12 : PySem.W.nsIn K mainGlobals "range" = some none) (z13 : PySem.W.nsIn K mainGlobals "reversed" = some none) (z14 : PySem.W.nsIn K mainGlobals "sorted" = some none) (z15 : PySem.W.nsIn K mainGlobals "str" = some none) (z16 : PySem.W.nsIn K mainGlobals "sum" = some none) (z17 : PySem.W.nsIn K mainGlobals "tuple" = some none) (z18 : PySem.W.nsIn K mainGlobals "zip" = some none) :
    ∃ fd : FuncData, (∀ (s : Shared) (v : Value), BindsTo s fd ⟨[v], []⟩ [("_law_script", v)]) ∧ ∀ base : Heap, K.In base → base.Ns mainGlobals mg → FnOk l.prog w K mg base CX0 10 fa fd ["_law_script"] (SpD K p_law) := by
  have e := hfa.symm.trans (PySem.W.mg_of X G a45)
  cases e
  have T : Tx mg := ⟨PySem.W.mg_none_of X G z0, PySem.W.mg_none_of X G z1, PySem.W.mg_none_of X G z2, PySem.W.mg_none_of X G z3, PySem.W.mg_none_of X G z4, PySem.W.mg_none_of X G z5, PySem.W.mg_none_of X G z6, PySem.W.mg_none_of X G z7, PySem.W.mg_none_of X G z8, PySem.W.mg_none_of X G z9, PySem.W.mg_none_of X G z10, PySem.W.mg_none_of X G z11, PySem.W.mg_none_of X G z12, PySem.W.mg_none_of X G z13, PySem.W.mg_none_of X G z14, PySem.W.mg_none_of X G z15, PySem.W.mg_none_of X G z16, PySem.W.mg_none_of X G z17, PySem.W.mg_none_of X G z18⟩
  have F0 := fun_mk (st := s_is_whole) l0 c0 k0
  have b0 := F0.binds (ps := ["value"]) fun _ _ _ _ _ _ us hl => match us, hl with | [_], _ => rfl
  have m0 := PySem.W.mg_of X G a0
  have F1 := fun_mk (st := s_is_whole_tuple) l1 c1 k1
  have b1 := F1.binds (ps := ["value", "length"]) fun _ _ _ _ _ _ us hl => match us, hl with | [_, _], _ => rfl
  have m1 := PySem.W.mg_of X G a1
  have F2 := fun_mk (st := s_is_bar) l2 c2 k2
  have b2 := F2.binds (ps := ["value"]) fun _ _ _ _ _ _ us hl => match us, hl with | [_], _ => rfl
  have m2 := PySem.W.mg_of X G a2
  have F3 := fun_mk (st := s_require_bar) l3 c3 k3
  have b3 := F3.binds (ps := ["value"]) fun _ _ _ _ _ _ us hl => match us, hl with | [_], _ => rfl
  have m3 := PySem.W.mg_of X G a3
  have F4 := fun_mk (st := s_require_bar_from) l4 c4 k4
  have b4 := F4.binds (ps := ["value", "lowest"]) fun _ _ _ _ _ _ us hl => match us, hl with | [_, _], _ => rfl
  have m4 := PySem.W.mg_of X G a4
  have F5 := fun_mk (st := s_require_whole) l5 c5 k5
  have b5 := F5.binds (ps := ["value"]) fun _ _ _ _ _ _ us hl => match us, hl with | [_], _ => rfl
  have m5 := PySem.W.mg_of X G a5
  have F6 := fun_mk (st := s_require_number) l6 c6 k6
  have b6 := F6.binds (ps := ["value", "lowest", "highest"]) fun _ _ _ _ _ _ us hl => match us, hl with | [_, _, _], _ => rfl
  have m6 := PySem.W.mg_of X G a6
  have F7 := fun_mk (st := s_common_divisor) l7 c7 k7
  have b7 := F7.binds (ps := ["one", "other"]) fun _ _ _ _ _ _ us hl => match us, hl with | [_, _], _ => rfl
  have m7 := PySem.W.mg_of X G a7
  have F8 := fun_mk (st := s_root_of) l8 c8 k8
  have b8 := F8.binds (ps := ["number"]) fun _ _ _ _ _ _ us hl => match us, hl with | [_], _ => rfl
  have m8 := PySem.W.mg_of X G a8
  have F9 := fun_mk (st := s_prime_factors) l9 c9 k9
  have b9 := F9.binds (ps := ["number"]) fun _ _ _ _ _ _ us hl => match us, hl with | [_], _ => rfl
  have m9 := PySem.W.mg_of X G a9
  have F10 := fun_mk (st := s_power_by) l10 c10 k10
  have b10 := F10.binds (ps := ["base", "exponent", "divisor"]) fun _ _ _ _ _ _ us hl => match us, hl with | [_, _, _], _ => rfl
  have m10 := PySem.W.mg_of X G a10
  have F11 := fun_mk (st := s_leaves_square) l11 c11 k11
  have b11 := F11.binds (ps := ["number", "prime"]) fun _ _ _ _ _ _ us hl => match us, hl with | [_, _], _ => rfl
  have m11 := PySem.W.mg_of X G a11
  have F12 := fun_mk (st := s_bar_of_numbers) l12 c12 k12
  have b12 := F12.binds (ps := ["a", "b", "c"]) fun _ _ _ _ _ _ us hl => match us, hl with | [_, _, _], _ => rfl
  have m12 := PySem.W.mg_of X G a12
  have F13 := fun_mk (st := s_is_form) l13 c13 k13
  have b13 := F13.binds (ps := ["value"]) fun _ _ _ _ _ _ us hl => match us, hl with | [_], _ => rfl
  have m13 := PySem.W.mg_of X G a13
  have F14 := fun_mk (st := s_require_form) l14 c14 k14
  have b14 := F14.binds (ps := ["value"]) fun _ _ _ _ _ _ us hl => match us, hl with | [_], _ => rfl
  have m14 := PySem.W.mg_of X G a14
  have F15 := fun_mk (st := s_bar_of) l15 c15 k15
  have b15 := F15.binds (ps := ["form"]) fun _ _ _ _ _ _ us hl => match us, hl with | [_], _ => rfl
  have m15 := PySem.W.mg_of X G a15
  have F16 := fun_mk (st := s_is_bare) l16 c16 k16
  have b16 := F16.binds (ps := ["form"]) fun _ _ _ _ _ _ us hl => match us, hl with | [_], _ => rfl
  have m16 := PySem.W.mg_of X G a16
  have F17 := fun_mk (st := s_sent) l17 c17 k17
  have b17 := F17.binds (ps := ["turning", "place"]) fun _ _ _ _ _ _ us hl => match us, hl with | [_, _], _ => rfl
  have m17 := PySem.W.mg_of X G a17
  have F18 := fun_mk (st := s_is_least) l18 c18 k18
  have b18 := F18.binds (ps := ["form"]) fun _ _ _ _ _ _ us hl => match us, hl with | [_], _ => rfl
  have m18 := PySem.W.mg_of X G a18
  have F19 := fun_mk (st := s_stepped) l19 c19 k19
  have b19 := F19.binds (ps := ["form", "step"]) fun _ _ _ _ _ _ us hl => match us, hl with | [_, _], _ => rfl
  have m19 := PySem.W.mg_of X G a19
  have F20 := fun_mk (st := s_behind_step) l20 c20 k20
  have b20 := F20.binds (ps := ["turning", "step"]) fun _ _ _ _ _ _ us hl => match us, hl with | [_, _], _ => rfl
  have m20 := PySem.W.mg_of X G a20
  have F21 := fun_mk (st := s_swapped) l21 c21 k21
  have b21 := F21.binds (ps := ["form"]) fun _ _ _ _ _ _ us hl => match us, hl with | [_], _ => rfl
  have m21 := PySem.W.mg_of X G a21
  have F22 := fun_mk (st := s_behind_swap) l22 c22 k22
  have b22 := F22.binds (ps := ["turning"]) fun _ _ _ _ _ _ us hl => match us, hl with | [_], _ => rfl
  have m22 := PySem.W.mg_of X G a22
  have F23 := fun_mk (st := s_step_to_middle) l23 c23 k23
  have b23 := F23.binds (ps := ["form"]) fun _ _ _ _ _ _ us hl => match us, hl with | [_], _ => rfl
  have m23 := PySem.W.mg_of X G a23
  have F24 := fun_mk (st := s_least_of) l24 c24 k24
  have b24 := F24.binds (ps := ["form"]) fun _ _ _ _ _ _ us hl => match us, hl with | [_], _ => rfl
  have m24 := PySem.W.mg_of X G a24
  have F25 := fun_mk (st := s_least_forms_from) l25 c25 k25
  have b25 := F25.binds (ps := ["bar", "a"]) fun _ _ _ _ _ _ us hl => match us, hl with | [_, _], _ => rfl
  have m25 := PySem.W.mg_of X G a25
  have F26 := fun_mk (st := s_least_forms) l26 c26 k26
  have b26 := F26.binds (ps := ["bar"]) fun _ _ _ _ _ _ us hl => match us, hl with | [_], _ => rfl
  have m26 := PySem.W.mg_of X G a26
  have F27 := fun_mk (st := s_classes) l27 c27 k27
  have b27 := F27.binds (ps := ["bar"]) fun _ _ _ _ _ _ us hl => match us, hl with | [_], _ => rfl
  have m27 := PySem.W.mg_of X G a27
  have F28 := fun_mk (st := s_greatest_row) l28 c28 k28
  have b28 := F28.binds (ps := ["bound", "bar"]) fun _ _ _ _ _ _ us hl => match us, hl with | [_, _], _ => rfl
  have m28 := PySem.W.mg_of X G a28
  have F29 := fun_mk (st := s_places_in_row) l29 c29 k29
  have b29 := F29.binds (ps := ["form", "y", "square"]) fun _ _ _ _ _ _ us hl => match us, hl with | [_, _, _], _ => rfl
  have m29 := PySem.W.mg_of X G a29
  have F30 := fun_mk (st := s_places_of_least) l30 c30 k30
  have b30 := F30.binds (ps := ["form", "number"]) fun _ _ _ _ _ _ us hl => match us, hl with | [_, _], _ => rfl
  have m30 := PySem.W.mg_of X G a30
  have F31 := fun_mk (st := s_places) l31 c31 k31
  have b31 := F31.binds (ps := ["form", "number"]) fun _ _ _ _ _ _ us hl => match us, hl with | [_, _], _ => rfl
  have m31 := PySem.W.mg_of X G a31
  have F32 := fun_mk (st := s_ways) l32 c32 k32
  have b32 := F32.binds (ps := ["bar", "number"]) fun _ _ _ _ _ _ us hl => match us, hl with | [_, _], _ => rfl
  have m32 := PySem.W.mg_of X G a32
  have F33 := fun_mk (st := s_side_by_prime) l33 c33 k33
  have b33 := F33.binds (ps := ["bar", "prime"]) fun _ _ _ _ _ _ us hl => match us, hl with | [_, _], _ => rfl
  have m33 := PySem.W.mg_of X G a33
  have F34 := fun_mk (st := s_side_by) l34 c34 k34
  have b34 := F34.binds (ps := ["bar", "divisor"]) fun _ _ _ _ _ _ us hl => match us, hl with | [_, _], _ => rfl
  have m34 := PySem.W.mg_of X G a34
  have F35 := fun_mk (st := s_ways_of_one) l35 c35 k35
  have b35 := F35.binds (ps := ["bar"]) fun _ _ _ _ _ _ us hl => match us, hl with | [_], _ => rfl
  have m35 := PySem.W.mg_of X G a35
  have F36 := fun_mk (st := s_ways_sum) l36 c36 k36
  have b36 := F36.binds (ps := ["bar", "number"]) fun _ _ _ _ _ _ us hl => match us, hl with | [_, _], _ => rfl
  have m36 := PySem.W.mg_of X G a36
  have F37 := fun_mk (st := s_law_ints) l37 c37 k37
  have b37 := F37.binds (ps := ["_law_found", "_law_size"]) fun _ _ _ _ _ _ us hl => match us, hl with | [_, _], _ => rfl
  have m37 := PySem.W.mg_of X G a37
  have F38 := fun_mk (st := s_law_cell_at) l38 c38 k38
  have b38 := F38.binds (ps := ["_law_script", "_law_k"]) fun _ _ _ _ _ _ us hl => match us, hl with | [_, _], _ => rfl
  have m38 := PySem.W.mg_of X G a38
  have F39 := fun_mk (st := s_law_worth) l39 c39 k39
  have b39 := F39.binds (ps := ["_law_form", "_law_place"]) fun _ _ _ _ _ _ us hl => match us, hl with | [_, _], _ => rfl
  have m39 := PySem.W.mg_of X G a39
  have F40 := fun_mk (st := s_law_divisor) l40 c40 k40
  have b40 := F40.binds (ps := ["_law_one", "_law_other"]) fun _ _ _ _ _ _ us hl => match us, hl with | [_, _], _ => rfl
  have m40 := PySem.W.mg_of X G a40
  have F41 := fun_mk (st := s_law_side) l41 c41 k41
  have b41 := F41.binds (ps := ["_law_bar", "_law_prime"]) fun _ _ _ _ _ _ us hl => match us, hl with | [_, _], _ => rfl
  have m41 := PySem.W.mg_of X G a41
  have F42 := fun_mk (st := s_law_sides) l42 c42 k42
  have b42 := F42.binds (ps := ["_law_bar", "_law_number"]) fun _ _ _ _ _ _ us hl => match us, hl with | [_, _], _ => rfl
  have m42 := PySem.W.mg_of X G a42
  have F43 := fun_mk (st := s_law_many) l43 c43 k43
  have b43 := F43.binds (ps := ["_law_bar", "_law_number"]) fun _ _ _ _ _ _ us hl => match us, hl with | [_, _], _ => rfl
  have m43 := PySem.W.mg_of X G a43
  have F44 := fun_mk (st := s_law_told) l44 c44 k44
  have b44 := F44.binds (ps := ["_law_found", "_law_rows", "_law_number"]) fun _ _ _ _ _ _ us hl => match us, hl with | [_, _, _], _ => rfl
  have m44 := PySem.W.mg_of X G a44
  have F45 := fun_mk (st := s_law) l45 c45 k45
  have b45 := F45.binds (ps := ["_law_script"]) fun _ _ _ _ _ _ us hl => match us, hl with | [_], _ => rfl
  have m45 := PySem.W.mg_of X G a45
  refine ⟨PySem.W.fnOf "law" "law" (defArgs s_law) (defBody s_law) (defScope s_law) .none kV45 dc45 pm45 an45 cd45 ct45, fun s v => .of_eq rfl, fun base _ _ => ?_⟩
  have C_NO_TURN : Con K mg "NO_TURN" (.tup [.int (1 : Int), .int (0 : Int), .int (0 : Int), .int (1 : Int)]) := con_tup (ns := [(1 : Int), (0 : Int), (0 : Int), (1 : Int)]) (PySem.W.mg_of X G caNO_TURN) clNO_TURN (.cons (.cons (.cons (.cons .nil)))) (Nat.le_of_ble_eq_true rfl)
  have C_LOWEST_LISTED_BAR : Con K mg "LOWEST_LISTED_BAR" (.int (-4000 : Int)) := con_int (PySem.W.mg_of X G caLOWEST_LISTED_BAR)
  have C_GREATEST_places : Con K mg "GREATEST_places" (.int (10000 : Int)) := con_int (PySem.W.mg_of X G caGREATEST_places)
  have C_GREATEST_primes : Con K mg "GREATEST_primes" (.int (10000 : Int)) := con_int (PySem.W.mg_of X G caGREATEST_primes)
  have G_is_whole := ok_is_whole (P := l.prog) (w := w) (base := base) T F0 m0 b0
  have G_is_whole_tuple := ok_is_whole_tuple (P := l.prog) (w := w) (base := base) T G_is_whole F1 m1 b1
  have G_is_bar := ok_is_bar (P := l.prog) (w := w) (base := base) G_is_whole F2 m2 b2
  have G_require_bar := ok_require_bar (P := l.prog) (w := w) (base := base) G_is_bar F3 m3 b3
  have G_require_bar_from := ok_require_bar_from (P := l.prog) (w := w) (base := base) G_require_bar F4 m4 b4
  have G_require_whole := ok_require_whole (P := l.prog) (w := w) (base := base) G_is_whole F5 m5 b5
  have G_require_number := ok_require_number (P := l.prog) (w := w) (base := base) G_require_whole F6 m6 b6
  have G_common_divisor := ok_common_divisor (P := l.prog) (w := w) (base := base) T F7 m7 b7
  have G_root_of := ok_root_of (P := l.prog) (w := w) (base := base)  F8 m8 b8
  have G_prime_factors := ok_prime_factors (P := l.prog) (w := w) (base := base)  F9 m9 b9
  have G_power_by := ok_power_by (P := l.prog) (w := w) (base := base)  F10 m10 b10
  have G_leaves_square := ok_leaves_square (P := l.prog) (w := w) (base := base) G_power_by F11 m11 b11
  have G_bar_of_numbers := ok_bar_of_numbers (P := l.prog) (w := w) (base := base)  F12 m12 b12
  have G_is_form := ok_is_form (P := l.prog) (w := w) (base := base) G_is_whole_tuple G_bar_of_numbers F13 m13 b13
  have G_require_form := ok_require_form (P := l.prog) (w := w) (base := base) G_is_form F14 m14 b14
  have G_bar_of := ok_bar_of (P := l.prog) (w := w) (base := base) G_require_form G_bar_of_numbers F15 m15 b15
  have G_is_bare := ok_is_bare (P := l.prog) (w := w) (base := base) G_require_form G_common_divisor F16 m16 b16
  have G_sent := ok_sent (P := l.prog) (w := w) (base := base)  F17 m17 b17
  have G_is_least := ok_is_least (P := l.prog) (w := w) (base := base) G_require_form F18 m18 b18
  have G_stepped := ok_stepped (P := l.prog) (w := w) (base := base)  F19 m19 b19
  have G_behind_step := ok_behind_step (P := l.prog) (w := w) (base := base)  F20 m20 b20
  have G_swapped := ok_swapped (P := l.prog) (w := w) (base := base)  F21 m21 b21
  have G_behind_swap := ok_behind_swap (P := l.prog) (w := w) (base := base)  F22 m22 b22
  have G_step_to_middle := ok_step_to_middle (P := l.prog) (w := w) (base := base)  F23 m23 b23
  have G_least_of := ok_least_of (P := l.prog) (w := w) (base := base) G_require_form G_step_to_middle G_stepped G_behind_step G_swapped G_behind_swap C_NO_TURN F24 m24 b24
  have G_least_forms_from := ok_least_forms_from (P := l.prog) (w := w) (base := base) T G_is_least F25 m25 b25
  have G_least_forms := ok_least_forms (P := l.prog) (w := w) (base := base) G_require_bar_from G_least_forms_from C_LOWEST_LISTED_BAR F26 m26 b26
  have G_classes := ok_classes (P := l.prog) (w := w) (base := base) G_least_forms G_is_bare F27 m27 b27
  have G_greatest_row := ok_greatest_row (P := l.prog) (w := w) (base := base)  F28 m28 b28
  have G_places_in_row := ok_places_in_row (P := l.prog) (w := w) (base := base) T G_root_of F29 m29 b29
  have G_places_of_least := ok_places_of_least (P := l.prog) (w := w) (base := base) T G_bar_of G_greatest_row G_places_in_row F30 m30 b30
  have G_places := ok_places (P := l.prog) (w := w) (base := base) T G_require_form G_require_number G_least_of G_places_of_least G_sent C_GREATEST_places F31 m31 b31
  have G_ways := ok_ways (P := l.prog) (w := w) (base := base) G_require_bar_from G_require_number G_classes G_places C_LOWEST_LISTED_BAR C_GREATEST_primes F32 m32 b32
  have G_side_by_prime := ok_side_by_prime (P := l.prog) (w := w) (base := base) G_leaves_square F33 m33 b33
  have G_side_by := ok_side_by (P := l.prog) (w := w) (base := base) G_prime_factors G_side_by_prime F34 m34 b34
  have G_ways_of_one := ok_ways_of_one (P := l.prog) (w := w) (base := base)  F35 m35 b35
  have G_ways_sum := ok_ways_sum (P := l.prog) (w := w) (base := base) T G_require_bar G_require_number G_common_divisor G_ways_of_one G_side_by C_GREATEST_primes F36 m36 b36
  have G_law_ints := ok_law_ints (P := l.prog) (w := w) (base := base) T F37 m37 b37
  have G_law_cell_at := ok_law_cell_at (P := l.prog) (w := w) (base := base) T F38 m38 b38
  have G_law_worth := ok_law_worth (P := l.prog) (w := w) (base := base)  F39 m39 b39
  have G_law_divisor := ok_law_divisor (P := l.prog) (w := w) (base := base) T F40 m40 b40
  have G_law_side := ok_law_side (P := l.prog) (w := w) (base := base) T F41 m41 b41
  have G_law_sides := ok_law_sides (P := l.prog) (w := w) (base := base) G_law_side F42 m42 b42
  have G_law_many := ok_law_many (P := l.prog) (w := w) (base := base) T G_law_sides F43 m43 b43
  have G_law_told := ok_law_told (P := l.prog) (w := w) (base := base) T G_law_ints G_law_worth F44 m44 b44
  exact ok_law T G_law_cell_at G_law_divisor G_law_ints G_law_told G_law_many G_ways G_ways_sum G_classes G_places F45
end K19
open PySem PySem.W PyProof.Rows
set_option maxRecDepth 100000 in
set_option maxHeartbeats 0 in
theorem PySem.Challenge.cw_formturn_k19_whole_ways_holds : PySem.Challenge.rw_formturn_k19_whole_ways.Holds := by
  w_on; o_law; k_head; (case hw => w_witness2)
  k_fill
  refine FL.walk_ofB (l := PySem.Challenge.rw_formturn_k19_whole_ways) (n := 63) (k := 10) (x := "_law_script") (Pf := CM.p_law) rfl (by decide) rfl ⟨rfl, by decide, by decide⟩ (fun w h Y => PySem.W.kIn_of Y) ?F ?S
  case F =>
    intro w mg fa h KX G hmg
    refine' K19.all_mk KX G hmg ?a0 ?l0 ?c0 ?k0 ?a1 ?l1 ?c1 ?k1 ?a2 ?l2 ?c2 ?k2 ?a3 ?l3 ?c3 ?k3 ?a4 ?l4 ?c4 ?k4 ?a5 ?l5 ?c5 ?k5 ?a6 ?l6 ?c6 ?k6 ?a7 ?l7 ?c7 ?k7 ?a8 ?l8 ?c8 ?k8 ?a9 ?l9 ?c9 ?k9 ?a10 ?l10 ?c10 ?k10 ?a11 ?l11 ?c11 ?k11 ?a12 ?l12 ?c12 ?k12 ?a13 ?l13 ?c13 ?k13 ?a14 ?l14 ?c14 ?k14 ?a15 ?l15 ?c15 ?k15 ?a16 ?l16 ?c16 ?k16 ?a17 ?l17 ?c17 ?k17 ?a18 ?l18 ?c18 ?k18 ?a19 ?l19 ?c19 ?k19 ?a20 ?l20 ?c20 ?k20 ?a21 ?l21 ?c21 ?k21 ?a22 ?l22 ?c22 ?k22 ?a23 ?l23 ?c23 ?k23 ?a24 ?l24 ?c24 ?k24 ?a25 ?l25 ?c25 ?k25 ?a26 ?l26 ?c26 ?k26 ?a27 ?l27 ?c27 ?k27 ?a28 ?l28 ?c28 ?k28 ?a29 ?l29 ?c29 ?k29 ?a30 ?l30 ?c30 ?k30 ?a31 ?l31 ?c31 ?k31 ?a32 ?l32 ?c32 ?k32 ?a33 ?l33 ?c33 ?k33 ?a34 ?l34 ?c34 ?k34 ?a35 ?l35 ?c35 ?k35 ?a36 ?l36 ?c36 ?k36 ?a37 ?l37 ?c37 ?k37 ?a38 ?l38 ?c38 ?k38 ?a39 ?l39 ?c39 ?k39 ?a40 ?l40 ?c40 ?k40 ?a41 ?l41 ?c41 ?k41 ?a42 ?l42 ?c42 ?k42 ?a43 ?l43 ?c43 ?k43 ?a44 ?l44 ?c44 ?k44 ?a45 ?l45 ?c45 ?k45 ?caNO_TURN ?clNO_TURN ?caLOWEST_LISTED_BAR ?caGREATEST_places ?caGREATEST_primes ?z0 ?z1 ?z2 ?z3 ?z4 ?z5 ?z6 ?z7 ?z8 ?z9 ?z10 ?z11 ?z12 ?z13 ?z14 ?z15 ?z16 ?z17 ?z18
    (case a0 => k_is)
    (case l0 => k_is)
    (case c0 => k_is)
    (case k0 => k_is)
    (case a1 => k_is)
    (case l1 => k_is)
    (case c1 => k_is)
    (case k1 => k_is)
    (case a2 => k_is)
    (case l2 => k_is)
    (case c2 => k_is)
    (case k2 => k_is)
    (case a3 => k_is)
    (case l3 => k_is)
    (case c3 => k_is)
    (case k3 => k_is)
    (case a4 => k_is)
    (case l4 => k_is)
    (case c4 => k_is)
    (case k4 => k_is)
    (case a5 => k_is)
    (case l5 => k_is)
    (case c5 => k_is)
    (case k5 => k_is)
    (case a6 => k_is)
    (case l6 => k_is)
    (case c6 => k_is)
    (case k6 => k_is)
    (case a7 => k_is)
    (case l7 => k_is)
    (case c7 => k_is)
    (case k7 => k_is)
    (case a8 => k_is)
    (case l8 => k_is)
    (case c8 => k_is)
    (case k8 => k_is)
    (case a9 => k_is)
    (case l9 => k_is)
    (case c9 => k_is)
    (case k9 => k_is)
    (case a10 => k_is)
    (case l10 => k_is)
    (case c10 => k_is)
    (case k10 => k_is)
    (case a11 => k_is)
    (case l11 => k_is)
    (case c11 => k_is)
    (case k11 => k_is)
    (case a12 => k_is)
    (case l12 => k_is)
    (case c12 => k_is)
    (case k12 => k_is)
    (case a13 => k_is)
    (case l13 => k_is)
    (case c13 => k_is)
    (case k13 => k_is)
    (case a14 => k_is)
    (case l14 => k_is)
    (case c14 => k_is)
    (case k14 => k_is)
    (case a15 => k_is)
    (case l15 => k_is)
    (case c15 => k_is)
    (case k15 => k_is)
    (case a16 => k_is)
    (case l16 => k_is)
    (case c16 => k_is)
    (case k16 => k_is)
    (case a17 => k_is)
    (case l17 => k_is)
    (case c17 => k_is)
    (case k17 => k_is)
    (case a18 => k_is)
    (case l18 => k_is)
    (case c18 => k_is)
    (case k18 => k_is)
    (case a19 => k_is)
    (case l19 => k_is)
    (case c19 => k_is)
    (case k19 => k_is)
    (case a20 => k_is)
    (case l20 => k_is)
    (case c20 => k_is)
    (case k20 => k_is)
    (case a21 => k_is)
    (case l21 => k_is)
    (case c21 => k_is)
    (case k21 => k_is)
    (case a22 => k_is)
    (case l22 => k_is)
    (case c22 => k_is)
    (case k22 => k_is)
    (case a23 => k_is)
    (case l23 => k_is)
    (case c23 => k_is)
    (case k23 => k_is)
    (case a24 => k_is)
    (case l24 => k_is)
    (case c24 => k_is)
    (case k24 => k_is)
    (case a25 => k_is)
    (case l25 => k_is)
    (case c25 => k_is)
    (case k25 => k_is)
    (case a26 => k_is)
    (case l26 => k_is)
    (case c26 => k_is)
    (case k26 => k_is)
    (case a27 => k_is)
    (case l27 => k_is)
    (case c27 => k_is)
    (case k27 => k_is)
    (case a28 => k_is)
    (case l28 => k_is)
    (case c28 => k_is)
    (case k28 => k_is)
    (case a29 => k_is)
    (case l29 => k_is)
    (case c29 => k_is)
    (case k29 => k_is)
    (case a30 => k_is)
    (case l30 => k_is)
    (case c30 => k_is)
    (case k30 => k_is)
    (case a31 => k_is)
    (case l31 => k_is)
    (case c31 => k_is)
    (case k31 => k_is)
    (case a32 => k_is)
    (case l32 => k_is)
    (case c32 => k_is)
    (case k32 => k_is)
    (case a33 => k_is)
    (case l33 => k_is)
    (case c33 => k_is)
    (case k33 => k_is)
    (case a34 => k_is)
    (case l34 => k_is)
    (case c34 => k_is)
    (case k34 => k_is)
    (case a35 => k_is)
    (case l35 => k_is)
    (case c35 => k_is)
    (case k35 => k_is)
    (case a36 => k_is)
    (case l36 => k_is)
    (case c36 => k_is)
    (case k36 => k_is)
    (case a37 => k_is)
    (case l37 => k_is)
    (case c37 => k_is)
    (case k37 => k_is)
    (case a38 => k_is)
    (case l38 => k_is)
    (case c38 => k_is)
    (case k38 => k_is)
    (case a39 => k_is)
    (case l39 => k_is)
    (case c39 => k_is)
    (case k39 => k_is)
    (case a40 => k_is)
    (case l40 => k_is)
    (case c40 => k_is)
    (case k40 => k_is)
    (case a41 => k_is)
    (case l41 => k_is)
    (case c41 => k_is)
    (case k41 => k_is)
    (case a42 => k_is)
    (case l42 => k_is)
    (case c42 => k_is)
    (case k42 => k_is)
    (case a43 => k_is)
    (case l43 => k_is)
    (case c43 => k_is)
    (case k43 => k_is)
    (case a44 => k_is)
    (case l44 => k_is)
    (case c44 => k_is)
    (case k44 => k_is)
    (case a45 => k_is)
    (case l45 => k_is)
    (case c45 => k_is)
    (case k45 => k_is)
    (case caNO_TURN => k_is)
    (case clNO_TURN => k_is)
    (case caLOWEST_LISTED_BAR => k_is)
    (case caGREATEST_places => k_is)
    (case caGREATEST_primes => k_is)
    (case z0 => k_is)
    (case z1 => k_is)
    (case z2 => k_is)
    (case z3 => k_is)
    (case z4 => k_is)
    (case z5 => k_is)
    (case z6 => k_is)
    (case z7 => k_is)
    (case z8 => k_is)
    (case z9 => k_is)
    (case z10 => k_is)
    (case z11 => k_is)
    (case z12 => k_is)
    (case z13 => k_is)
    (case z14 => k_is)
    (case z15 => k_is)
    (case z16 => k_is)
    (case z17 => k_is)
    (case z18 => k_is)
  case S => exact CM.law_sp
#print axioms PySem.Challenge.cw_formturn_k19_whole_ways_holds
