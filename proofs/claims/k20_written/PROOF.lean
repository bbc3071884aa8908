import PyProof.Rows.All
import Wide.All
import OpenK.AllK
import Wide.FinOn
import Lean
import PyProof.EqAt
import PyProof.EqKinds
import PyProof.TupleCall
import PySem.Challenge.RW_formturn_k20_written
set_option Elab.async false
set_option linter.all false
set_option maxRecDepth 100000
namespace L2
open PySem PySem.Spec PyProof.Rows
abbrev Key := Sum Int Str
def keyIs : Key → Value → Bool
  | .inl k, v => Value.isInt k v
  | .inr x, v => Value.isStrOf x v
def keyH (w : World) : Key → Int
  | .inl k => hashInt k
  | .inr x => hashStr w x
theorem keyIs_shape : ∀ {k : Key} {v : Value}, keyIs k v = true → (∃ i t, k = Sum.inl i ∧ v = Value.int i t) ∨ (∃ x t, k = Sum.inr x ∧ v = Value.str x t)
  | .inl i, v, h => by
    obtain ⟨t, e⟩ := Value.isInt_shape (k := i) (v := v) h
    exact .inl ⟨i, t, rfl, e⟩
  | .inr x, v, h => by
    obtain ⟨t, e⟩ := Value.isStrOf_shape (x := x) (v := v) h
    exact .inr ⟨x, t, rfl, e⟩
theorem key_ll (a b : Int) : decide ((Sum.inl a : Key) = Sum.inl b) = (a == b) := by
  by_cases e : a = b
  · subst e; simp
  · have h : ¬ (Sum.inl a : Key) = Sum.inl b := fun q => e (Sum.inl.inj q)
    rw [decide_eq_false h]
    exact (beq_eq_false_iff_ne.mpr e).symm
theorem key_rr (a b : Str) : decide ((Sum.inr a : Key) = Sum.inr b) = decide (a = b) := by
  by_cases e : a = b
  · subst e; simp
  · have h : ¬ (Sum.inr a : Key) = Sum.inr b := fun q => e (Sum.inr.inj q)
    rw [decide_eq_false h, decide_eq_false e]
theorem key_lr (a : Int) (b : Str) : decide ((Sum.inl a : Key) = Sum.inr b) = false := decide_eq_false (fun q => nomatch q)
theorem key_rl (a : Str) (b : Int) : decide ((Sum.inr a : Key) = Sum.inl b) = false := decide_eq_false (fun q => nomatch q)
def mixKind (prog : Program) (w : World) : PySem.KeyKind prog w Key where
  is := keyIs
  hash := keyH w
  inj := fun v a b ha hb => by
    rcases keyIs_shape ha with ⟨i, t, rfl, rfl⟩ | ⟨x, t, rfl, rfl⟩
    · rcases keyIs_shape hb with ⟨j, u, rfl, e⟩ | ⟨y, u, rfl, e⟩
      · injection e with e1 _; rw [e1]
      · exact nomatch e
    · rcases keyIs_shape hb with ⟨j, u, rfl, e⟩ | ⟨y, u, rfl, e⟩
      · exact nomatch e
      · injection e with e1 _; rw [e1]
  byValue := fun k v h => by
    rcases keyIs_shape h with ⟨i, t, rfl, rfl⟩ | ⟨x, t, rfl, rfl⟩ <;> rfl
  pyHash := fun hv h => by
    rcases keyIs_shape hv with ⟨i, t, rfl, rfl⟩ | ⟨x, t, rfl, rfl⟩
    · exact wpAny_pyHash_int h
    · exact wpAny_pyHash_str h
  eqBool := fun hu hv h => by
    rcases keyIs_shape hu with ⟨i, t, rfl, rfl⟩ | ⟨x, t, rfl, rfl⟩
    · rcases keyIs_shape hv with ⟨j, u, rfl, rfl⟩ | ⟨y, u, rfl, rfl⟩
      · rw [key_ll] at h; exact wpAny_eqBool_int h
      · rw [key_lr] at h; exact SeqAt.EqAt.int_str i t y u _ _ _ _ h
    · rcases keyIs_shape hv with ⟨j, u, rfl, rfl⟩ | ⟨y, u, rfl, rfl⟩
      · rw [key_rl] at h; exact SeqAt.EqAt.str_int x t j u _ _ _ _ h
      · rw [key_rr] at h; exact wpAny_eqBool_str h
  «strs» := fun k x t v h => by
    rcases keyIs_shape h with ⟨i, u, rfl, e⟩ | ⟨y, u, rfl, e⟩
    · exact nomatch e
    · injection e with e1 _
      subst e1
      cases v <;> rfl
end L2
namespace L2
open PySem PySem.Spec PyProof.Rows
inductive V where
  | non | bl (b : Bool) | int (i : Int) | str (x : Str) | byt (b : Array UInt8) | flt (b : UInt64) | ref (a : Addr) | ty (n : String)
  deriving DecidableEq
def RelV : V → Value → Prop
  | .non, u => u = Value.none
  | .bl b, u => u = Value.bool b
  | .int i, u => ∃ t, u = Value.int i t
  | .str x, u => ∃ t, u = Value.str x t
  | .byt b, u => ∃ t, u = Value.bytes b t
  | .flt b, u => ∃ t, u = Value.float b t
  | .ref a, u => u = Value.ref a
  | .ty n, u => u = Value.type n
abbrev Vals : List V → List Value → Prop := Paired RelV
theorem Vals.length {xs : List V} {us : List Value} (r : Vals xs us) : xs.length = us.length := Paired.length r
theorem Vals.get : ∀ {xs : List V} {us : List Value} {i : Nat} {x : V}, Vals xs us → xs[i]? = some x → ∃ u, us[i]? = some u ∧ RelV x u
  | _, _, _, _, .nil, e => by simp at e
  | _, _, 0, _, .cons r _, e => by simp at e; subst e; exact ⟨_, rfl, r⟩
  | _, _, i + 1, x, .cons _ t, e => by
    obtain ⟨u, h1, h2⟩ := Vals.get (i := i) (x := x) t (by simpa using e)
    exact ⟨u, by simpa using h1, h2⟩
theorem Vals.append : ∀ {xs ys : List V} {us ws : List Value}, Vals xs us → Vals ys ws → Vals (xs ++ ys) (us ++ ws)
  | _, _, _, _, .nil, s => s
  | _, _, _, _, .cons r t, s => .cons r (Vals.append t s)
theorem Vals.take : ∀ {xs : List V} {us : List Value} (n : Nat), Vals xs us → Vals (xs.take n) (us.take n)
  | _, _, 0, _ => .nil
  | _, _, _ + 1, .nil => .nil
  | _, _, n + 1, .cons r t => .cons r (Vals.take n t)
theorem Vals.drop : ∀ {xs : List V} {us : List Value} (n : Nat), Vals xs us → Vals (xs.drop n) (us.drop n)
  | _, _, 0, r => r
  | _, _, _ + 1, .nil => .nil
  | _, _, n + 1, .cons _ t => Vals.drop n t
def RelO : Option V → Option Value → Prop
  | some v, some u => RelV v u
  | none, none => True
  | _, _ => False
def KV {κ : Type} : List (κ × V) → List (κ × Value) → Prop := Paired fun (p : κ × V) (q : κ × Value) => p.1 = q.1 ∧ RelV p.2 q.2
def kV : Key → V
  | .inl i => .int i
  | .inr x => .str x
inductive HO where
  /-- a list -/
  | lst (xs : List V)
  /-- a tuple (never changes) -/
  | tup (xs : List V)
  /-- a dict whose keys are ints and texts; one whose keys are tuples of ints and texts (the empty one is both) -/
  | dK (kvs : List (Key × V)) | dT (kvs : List (List Key × V))
  /-- a set of ints: its members, its size -/
  | set (S : Int → Bool) (n : Nat)
  /-- an instance of the class at C, its dict at dx, its attributes -/
  | ins (C dx : Addr) (fs : List (Str × V))
  /-- the dict of the instance at x -/
  | own (x : Addr)
  /-- the dict of an exception -/
  | xd (fs : List (Str × V))
  /-- a bound method, f of x -/
  | met (f x : Addr)
  /-- a range object lo, lo + 1, .. below hi -/
  | rng (lo hi : Int)
  /-- a thing that is known to the object (the script; a dict while a loop walks it): read, never written while it is so -/
  | frz (o : Obj) (u : HO)
  /-- a code object's table -/
  | tbl (ps : Array Value)
  /-- any other thing, by what is true of its one object (a def of one's own: SetO a S n := HO.ext fun h => ..) -/
  | ext (φ : Heap → Prop)
abbrev Hp := Addr → Option HO
def upd (H : Hp) (a : Addr) (o : HO) : Hp := fun b => if b = a then some o else H b
theorem upd_same {H : Hp} {a : Addr} {o : HO} : upd H a o a = some o := by unfold upd; rw [if_pos rfl]
theorem upd_ne {H : Hp} {a b : Addr} {o : HO} (h : b ≠ a) : upd H a o b = H b := by unfold upd; rw [if_neg h]
theorem ne_of {H : Hp} {a b : Addr} {o u : HO} (h : H a = some o) (h' : H b = some u) (d : o ≠ u) : a ≠ b := by
  intro e; subst e; rw [h] at h'; exact d (Option.some.inj h')
theorem ne_of_none {H : Hp} {a b : Addr} {o : HO} (h : H a = some o) (h' : H b = none) : a ≠ b := by
  intro e; subst e; rw [h] at h'; cases h'
section
variable (P : Program) (w : World)
def ObjOk (H : Hp) (h : Heap) (a : Addr) : HO → Prop
  | .lst xs => xs.length ≤ sizeLine ∧ ∃ (its : List Value) (n : Nat), Vals xs its ∧ h.get? a = some { cls := .type "list", data := .seq its.toArray n }
  | .tup xs => xs.length ≤ sizeLine ∧ ∃ its : List Value, Vals xs its ∧ IsTup h a its.toArray
  | .dK kvs => kvs.length ≤ sizeLine ∧ (a == sysModules) = false ∧ ∃ vs, KV kvs vs ∧ h.DictOf (mixKind P w) a vs
  | .dT kvs => kvs.length ≤ sizeLine ∧ (a == sysModules) = false ∧ ∃ xs : List (List Key × Addr × Value),
      Paired (fun (p : List Key × V) (q : List Key × Addr × Value) => p.1 = q.1 ∧ H q.2.1 = some (.tup (p.1.map kV)) ∧ RelV p.2 q.2.2) kvs xs ∧
      ∃ o es ep, h.get? a = some o ∧ o.ExactDict ∧ o.data = .dict es ep ∧ es.toList = xs.map (entryOfKey (tupleKind (mixKind P w))) ∧ (xs.map (·.1)).Nodup
  | .set S n => h.SetOf (intKind P w) a S n
  | .ins C dx fs => H dx = some (.own a) ∧ fs.length ≤ 1000 ∧ dx ≠ a ∧ h.get? a = some (PySem.W.instObj C dx) ∧
      ∃ mA, h.Ns1 dx mA ∧ (∀ f, RelO (fs.lookup f) (mA f)) ∧ PySem.Within mA (fs.map (·.1))
  | .own _ => ∃ o, h.get? a = some o
  | .xd fs => ∃ mA, h.Ns1 a mA ∧ ∀ f, RelO (fs.lookup f) (mA f)
  | .rng lo hi => ∃ t u v, h.get? a = some { cls := .type "range", data := .fields #[.int lo t, .int hi u, .int 1 v] }
  | .frz o u => h.get? a = some o ∧ ObjOk H h a u
  | .tbl ps => h.get? a = some { cls := .none, data := .fields ps }
  | .met f x => h.get? a = some (PySem.W.methodObj (.ref f) (.ref x))
  | .ext φ => φ h ∧ (∃ o, h.get? a = some o) ∧ ∀ h1 h2 : Heap, φ h1 → (∀ o, h1.get? a = some o → h2.get? a = some o) → φ h2
def HOk (H : Hp) (h : Heap) : Prop := ∀ a o, H a = some o → ObjOk P w H h a o
end
section
variable {P : Program} {w : World} {H H' : Hp} {h h' : Heap} {a : Addr} {o : HO}
theorem ObjOk.lt (x : ObjOk P w H h a o) : a < h.objs.size := by
  cases o with
  | lst xs => obtain ⟨_, _, _, _, e⟩ := x; exact Heap.lt_size e
  | tup xs => obtain ⟨_, _, _, p⟩ := x; exact p.lt
  | dK kvs => obtain ⟨_, _, _, _, o, _, _, e, _⟩ := x; exact Heap.lt_size e
  | dT kvs => obtain ⟨_, _, _, _, o, _, _, e, _⟩ := x; exact Heap.lt_size e
  | set S n => obtain ⟨o, _, _, _, e, _⟩ := x; exact Heap.lt_size e
  | ins C dx fs => obtain ⟨_, _, _, e, _⟩ := x; exact Heap.lt_size e
  | own y => obtain ⟨_, e⟩ := x; exact Heap.lt_size e
  | xd fs => obtain ⟨_, ⟨_, _, _, e, _⟩, _⟩ := x; exact Heap.lt_size e
  | rng lo hi => obtain ⟨_, _, _, e⟩ := x; exact Heap.lt_size e
  | frz ob u => obtain ⟨e, _⟩ := x; exact Heap.lt_size e
  | tbl ps => exact Heap.lt_size (show h.get? a = some _ from x)
  | met f y => exact Heap.lt_size (show h.get? a = some _ from x)
  | ext φ => obtain ⟨_, ⟨_, e⟩, _⟩ := x; exact Heap.lt_size e
theorem Paired.mapP {α β : Type} {F G : α → β → Prop} : ∀ {l₁ : List α} {l₂ : List β}, Paired F l₁ l₂ → (∀ a b, F a b → G a b) → Paired G l₁ l₂
  | _, _, .nil, _ => .nil
  | _, _, .cons r t, f => .cons (f _ _ r) (Paired.mapP t f)
theorem ObjOk.stay (x : ObjOk P w H h a o) (k : ∀ b u, (b = a ∨ H b = some (.own a)) → h.get? b = some u → h'.get? b = some u)
    (ho : ∀ b, H b = some (.own a) → H' b = some (.own a)) (ht : ∀ b xs, H b = some (.tup xs) → H' b = some (.tup xs)) : ObjOk P w H' h' a o := by
  induction o with
  | lst xs => obtain ⟨z, its, n, r, e⟩ := x; exact ⟨z, its, n, r, k _ _ (.inl rfl) e⟩
  | tup xs => obtain ⟨z, its, r, ob, e, c⟩ := x; exact ⟨z, its, r, ob, k _ _ (.inl rfl) e, c⟩
  | dK kvs => obtain ⟨z, y, vs, r, ob, es, ep, e, c⟩ := x; exact ⟨z, y, vs, r, ob, es, ep, k _ _ (.inl rfl) e, c⟩
  | dT kvs =>
    obtain ⟨z, y, xs, r, ob, es, ep, e, c⟩ := x
    exact ⟨z, y, xs, Paired.mapP r fun p q z => ⟨z.1, ht _ _ z.2.1, z.2.2⟩, ob, es, ep, k _ _ (.inl rfl) e, c⟩
  | set S n => obtain ⟨ob, es, ep, t, e, c⟩ := x; exact ⟨ob, es, ep, t, k _ _ (.inl rfl) e, c⟩
  | ins C dx fs =>
    obtain ⟨d, z, ne, e, mA, ⟨od, es, ep, e2, c⟩, r⟩ := x
    exact ⟨ho _ d, z, ne, k _ _ (.inl rfl) e, mA, ⟨od, es, ep, k _ _ (.inr d) e2, c⟩, r⟩
  | own y => obtain ⟨ob, e⟩ := x; exact ⟨ob, k _ _ (.inl rfl) e⟩
  | xd fs => obtain ⟨mA, ⟨od, es, ep, e, c⟩, r⟩ := x; exact ⟨mA, ⟨od, es, ep, k _ _ (.inl rfl) e, c⟩, r⟩
  | rng lo hi => obtain ⟨t, u, v, e⟩ := x; exact ⟨t, u, v, k _ _ (.inl rfl) e⟩
  | frz ob u ih => obtain ⟨e, q⟩ := x; exact ⟨k _ _ (.inl rfl) e, ih q⟩
  | tbl ps =>
    have e : h.get? a = some { cls := .none, data := .fields ps } := x
    show h'.get? a = some { cls := .none, data := .fields ps }
    exact k a _ (.inl rfl) e
  | met f y =>
    have e : h.get? a = some (PySem.W.methodObj (.ref f) (.ref y)) := x
    show h'.get? a = some (PySem.W.methodObj (.ref f) (.ref y))
    exact k a _ (.inl rfl) e
  | ext φ => obtain ⟨p, ⟨o, e⟩, st⟩ := x; exact ⟨st _ _ p fun o q => k _ _ (.inl rfl) q, ⟨o, k _ _ (.inl rfl) e⟩, st⟩
theorem HOk.lt (x : HOk P w H h) (e : H a = some o) : a < h.objs.size := (x a o e).lt
theorem HOk.fresh (x : HOk P w H h) (e : h.objs.size ≤ a) : H a = none := by
  cases q : H a with
  | none => rfl
  | some u => exact absurd (Nat.lt_of_lt_of_le (x.lt q) e) (Nat.lt_irrefl _)
theorem HOk.kept (x : HOk P w H h) (k : ∀ b u, h.get? b = some u → h'.get? b = some u) : HOk P w H h' := fun a o e =>
  (x a o e).stay (fun b u _ q => k b u q) (fun _ q => q) fun _ _ q => q
theorem HOk.laid (x : HOk P w H h) (k : ∀ b u, h.get? b = some u → h'.get? b = some u) (hp : h.objs.size ≤ a) (new : ObjOk P w (upd H a o) h' a o) : HOk P w (upd H a o) h' := fun b u e => by
  have hn := x.fresh hp
  by_cases hb : b = a
  · subst hb; rw [upd_same] at e; cases e; exact new
  · rw [upd_ne hb] at e
    exact (x b u e).stay (fun c v _ q => k c v q) (fun c q => by rw [upd_ne (ne_of_none q hn)]; exact q) fun c xs q => by rw [upd_ne (ne_of_none q hn)]; exact q
end
def Rd (H : Hp) (a : Addr) (u : HO) : Prop := H a = some u ∨ ∃ o, H a = some (.frz o u)
theorem Rd.ok {P : Program} {w : World} {H : Hp} {h : Heap} {a : Addr} {u : HO} (r : Rd H a u) (x : HOk P w H h) : ObjOk P w H h a u := by
  rcases r with r | ⟨o, r⟩
  · exact x a u r
  · obtain ⟨_, q⟩ := x a _ r
    exact q
def Mut : Option HO → Prop
  | some (.lst _) => True
  | some (.dK _) => True
  | some (.dT _) => True
  | some (.set _ _) => True
  | some (.ins _ _ _) => True
  | some (.ext _) => True
  | _ => False
section
variable {P : Program} {w : World} {H : Hp} {h h' : Heap} {x e : Addr} {o' : HO}
theorem HOk.write (ok : HOk P w H h) (mu : Mut (H x)) (he : e = x ∨ H e = some (.own x)) (k : ∀ b u, b ≠ e → h.get? b = some u → h'.get? b = some u) (heo : ∃ u, h'.get? e = some u)
    (new : ObjOk P w (upd H x o') h' x o') : HOk P w (upd H x o') h' := fun b u q => by
  have nown : ∀ c y, H c = some (.own y) → c ≠ x := fun c y r z => by subst z; rw [r] at mu; exact mu
  have ntup : ∀ c xs, H c = some (.tup xs) → c ≠ x := fun c xs r z => by subst z; rw [r] at mu; exact mu
  by_cases hb : b = x
  · subst hb; rw [upd_same] at q; cases q; exact new
  · rw [upd_ne hb] at q
    by_cases hbe : b = e
    · have q' : H b = some (.own x) := by
        rcases he with z | z
        · exact absurd (hbe.trans z) hb
        · rw [hbe]; exact z
      rw [q] at q'; cases q'
      obtain ⟨v, hv⟩ := heo
      exact ⟨v, by rw [hbe]; exact hv⟩
    · refine (ok b u q).stay (fun c v hc r => k c v ?_ r) (fun c r => by rw [upd_ne (nown c b r)]; exact r) fun c xs r => by rw [upd_ne (ntup c xs r)]; exact r
      rcases hc with rfl | hc
      · exact hbe
      · rintro rfl
        rcases he with z | z
        · exact nown c b hc z
        · rw [hc] at z; cases z; exact hb rfl
end
structure Un (fs ex : List Addr) (H H' : Hp) (h h' : Heap) : Prop where
  keep : ∀ b o, h.get? b = some o → H b = none → b ∉ fs → b ∉ ex → h'.get? b = some o
  slot : ∀ b o, h.get? b = some o → H b = none → b ∈ fs → b ∉ ex → ∃ sl, h'.get? b = some { o with slots := sl }
  free : ∀ b o, h.get? b = some o → H b = none → b ∉ ex → H' b = none
  there : ∀ b o, h.get? b = some o → b ∉ ex → ∃ o', h'.get? b = some o'
  tups : ∀ b xs, H b = some (.tup xs) → H' b = some (.tup xs)
  frzs : ∀ b o u, H b = some (.frz o u) → H' b = some (.frz o u)
  tbls : ∀ b ps, H b = some (.tbl ps) → ∃ more, H' b = some (.tbl (ps ++ more))
section
variable {fs fs' ex ex' : List Addr} {H H1 H2 : Hp} {h h1 h2 h' : Heap} {a x e : Addr} {o : HO}
theorem Un.any (u : Un fs ex H H1 h h1) {b : Addr} {ob : Obj} (q : h.get? b = some ob) (n : H b = none) (hx : b ∉ ex) : ∃ sl, h1.get? b = some { ob with slots := sl } := by
  by_cases hb : b ∈ fs
  · exact u.slot b ob q n hb hx
  · exact ⟨ob.slots, u.keep b ob q n hb hx⟩
theorem Un.kept (k : ∀ b u, h.get? b = some u → h'.get? b = some u) : Un fs ex H H h h' :=
  ⟨fun b ob q _ _ _ => k b ob q, fun b ob q _ _ _ => ⟨ob.slots, k b ob q⟩, fun _ _ _ n _ => n, fun b ob q _ => ⟨ob, k b ob q⟩, fun _ _ q => q, fun _ _ _ q => q, fun _ ps q => ⟨#[], by rw [q]; simp⟩⟩
theorem Un.refl : Un fs ex H H h h := Un.kept fun _ _ q => q
theorem Un.laid (k : ∀ b u, h.get? b = some u → h'.get? b = some u) (hp : h.objs.size ≤ a) (hn : H a = none) : Un fs ex H (upd H a o) h h' where
  keep := fun b u q _ _ _ => k b u q
  slot := fun b u q _ _ _ => ⟨u.slots, k b u q⟩
  free := fun b u q n _ => by rw [upd_ne (Nat.ne_of_lt (Nat.lt_of_lt_of_le (Heap.lt_size q) hp))]; exact n
  there := fun b u q _ => ⟨u, k b u q⟩
  tups := fun b xs q => by rw [upd_ne (ne_of_none q hn)]; exact q
  frzs := fun b u xs q => by rw [upd_ne (ne_of_none q hn)]; exact q
  tbls := fun b ps q => ⟨#[], by rw [upd_ne (ne_of_none q hn), q]; simp⟩
theorem Un.write (mu : Mut (H x)) (he : e = x ∨ H e = some (.own x)) (k : ∀ b u, b ≠ e → h.get? b = some u → h'.get? b = some u) (heo : ∃ u, h'.get? e = some u) : Un fs ex H (upd H x o) h h' := by
  have hx : ∀ b, H b = none → b ≠ x := fun b n z => by subst z; rw [n] at mu; exact mu
  have hb : ∀ b, H b = none → b ≠ e := fun b n z => by
    subst z
    rcases he with r | r
    · exact hx b n r
    · rw [n] at r; cases r
  have hm : ∀ b u, H b = some u → ¬ Mut (some u) → b ≠ x := fun b u q nm z => by subst z; rw [q] at mu; exact nm mu
  refine ⟨fun b u q n _ _ => k b u (hb b n) q, fun b u q n _ _ => ⟨u.slots, k b u (hb b n) q⟩, fun b u q n _ => by rw [upd_ne (hx b n)]; exact n, fun b u q _ => ?_,
    fun b xs q => by rw [upd_ne (hm b _ q fun z => z)]; exact q, fun b u xs q => by rw [upd_ne (hm b _ q fun z => z)]; exact q, fun b ps q => ⟨#[], by rw [upd_ne (hm b _ q fun z => z), q]; simp⟩⟩
  by_cases hbe : b = e
  · subst hbe; exact heo
  · exact ⟨u, k b u hbe q⟩
end
def trk (h : Heap) (H : Hp) : List Addr := (List.range h.objs.size).filter fun a => (H a).isSome
def hidT (h : Heap) (H : Hp) : Heap := PySem.W.hideAll h (trk h H)
theorem hidT_size (h : Heap) (H : Hp) : (hidT h H).objs.size = h.objs.size := PySem.W.hideAll_size _ _
theorem hidT_get {h : Heap} {H : Hp} {b : Addr} {o : Obj} (e : h.get? b = some o) (n : H b = none) : (hidT h H).get? b = some o :=
  PySem.W.hideAll_get _ e fun hm => by
    have q : (H b).isSome = true := (List.mem_filter.mp hm).2
    rw [n] at q; simp at q
theorem of_hidT {h : Heap} {H : Hp} {b : Addr} {o : Obj} (e : (hidT h H).get? b = some o) : h.get? b = some o ∧ H b = none := by
  have e' : h.get? b = some o := PySem.W.of_hideAll (trk h H) e
  refine ⟨e', ?_⟩
  cases q : H b with
  | none => rfl
  | some x =>
    have hm : b ∈ trk h H := List.mem_filter.mpr ⟨List.mem_range.mpr (Heap.lt_size e'), by simp [q]⟩
    have z : (hidT h H).get? b = none := PySem.W.hideAll_none (trk h H) hm
    rw [z] at e; cases e
end L2
namespace L2
open PySem PySem.Spec PyProof.Rows
structure Mod (K : PySem.W.Frag) (mg : Str → Option Value) (base : Heap) : Prop where
  kin : K.In base
  glob : base.Ns mainGlobals mg
  blt : ∃ mb, base.Ns builtinsNs mb ∧ ∀ x : Str, x ≠ "__name__" → mb x = bootBuiltins x
  nolimit : base.NoLimit
structure Cx where
  prog : Program
  w : World
  K : PySem.W.Frag
  mg : Str → Option Value
  base : Heap
  A : Around
  N : List Str
  s₀ : Shared
  H₀ : Hp
  env : Env
  outer : List Env
  stack : List Env
  ex : List Addr
  fn : Str → Bool
  calm : Bool
  pn : List (Addr × Obj)
  xe : Value → Shared → Prop
def frs (l : List Env) : List Addr := l.filterMap (·.frame)
abbrev Cx.fs (X : Cx) : List Addr := frs X.outer
def Vis (sc : Scope) (x : Str) : Prop := sc.names.lookup x = some .local ∨ sc.names.lookup x = some .cell ∨ sc.names.lookup x = some .free
def Loc (sc : Scope) (x : Str) : Prop := sc.names.lookup x = some .local ∨ sc.names.lookup x = some .cell
def Look (env : Env) (h : Heap) (m : Str → Option Value) (x : Str) (u : Value) : Prop :=
  (env.kindOf x = some .local ∧ m x = some u) ∨ ((env.kindOf x = some .cell ∨ env.kindOf x = some .free) ∧ ∃ c, env.cells.lookup x = some c ∧ h.IsCell c (some u))
structure Cx.Ok (X : Cx) : Prop where
  mod : Mod X.K X.mg X.base
  kind : X.env.scope.kind = .function
  glob : X.env.globals = mainGlobals
  blt : X.env.builtins = builtinsNs
  above : X.s₀.heap.objs.size ≤ X.env.locals
  inj : ∀ x y c, X.env.cells.lookup x = some c → X.env.cells.lookup y = some c → x = y
  has : ∀ x, (X.env.kindOf x = some .cell ∨ X.env.kindOf x = some .free) → ∃ c, X.env.cells.lookup x = some c
  cab : ∀ x c, X.fn x = true → X.env.cells.lookup x = some c → X.s₀.heap.objs.size ≤ c
  hd : X.calm = true → X.A.handled = none
  frames : X.A.frames = some X.stack
  stk : X.stack = X.outer ∨ (X.stack = X.env :: X.outer ∧ X.env.frame = some X.env.locals)
  exf : ∀ b ∈ X.ex, b ≠ X.env.locals ∧ ∀ x c, X.env.cells.lookup x = some c → c ≠ b
  bs : ∀ b o, X.base.get? b = some o → X.s₀.heap.get? b = some o ∧ X.H₀ b = none
  bsz : X.base.objs.size ≤ X.s₀.heap.objs.size
  noex : ∀ b o, X.base.get? b = some o → b ∉ X.ex
  exfs : ∀ b ∈ X.ex, b ∉ X.fs
  funs : X.s₀.heap.FunFrames X.base X.outer
  frf : ∀ b ∈ X.fs, X.H₀ b = none
structure Inv (X : Cx) (pins : List (Addr × Obj)) (σ : List (Option V)) (H : Hp) (s : Shared) : Prop where
  ok : X.Ok
  os : s.os = X.s₀.os
  bare : AllBare s.gens
  base : Un X.fs X.ex X.H₀ H X.s₀.heap s.heap
  loc : ∃ m, s.heap.Ns X.env.locals m ∧ ∀ (i : Nat) (x : Str) (v : V), X.N[i]? = some x → σ[i]? = some (some v) → Vis X.env.scope x → ∃ u, RelV v u ∧ Look X.env s.heap m x u
  cell : ∀ x c, X.env.cells.lookup x = some c → ∃ v, s.heap.IsCell c v
  free : H X.env.locals = none
  freeC : ∀ x c, X.env.cells.lookup x = some c → H c = none
  pin : ∀ p ∈ X.pn ++ pins, s.heap.get? p.1 = some p.2 ∧ H p.1 = none ∧ p.1 ≠ X.env.locals ∧ p.1 ∉ X.fs ∧ ∀ v, p.2.data ≠ .cell v
  hok : HOk X.prog X.w H s.heap
  len : σ.length = X.N.length
section
variable {X : Cx} {pins : List (Addr × Obj)} {σ : List (Option V)} {H H' : Hp} {s : Shared} {h' : Heap}
theorem Cx.Ok.nofr (ok : X.Ok) {b : Addr} {o : Obj} (e : X.base.get? b = some o) : b ∉ X.fs := fun hb => by
  have := (ok.funs.mem hb).1
  rw [e] at this; cases this
theorem Inv.bs (I : Inv X pins σ H s) : ∀ b o, X.base.get? b = some o → s.heap.get? b = some o ∧ H b = none := fun b o e =>
  ⟨I.base.keep b o (I.ok.bs b o e).1 (I.ok.bs b o e).2 (I.ok.nofr e) (I.ok.noex b o e), I.base.free b o (I.ok.bs b o e).1 (I.ok.bs b o e).2 (I.ok.noex b o e)⟩
theorem Inv.bk (I : Inv X pins σ H s) : ∀ b o, X.base.get? b = some o → s.heap.get? b = some o := fun b o e => (I.bs b o e).1
theorem Inv.mod (I : Inv X pins σ H s) : Mod X.K X.mg X.base := I.ok.mod
theorem Inv.kIn (I : Inv X pins σ H s) : X.K.In s.heap := I.ok.mod.kin.keeps I.bk
theorem Inv.nolimit (I : Inv X pins σ H s) : s.heap.NoLimit := I.ok.mod.nolimit.keeps I.bk
theorem Inv.lt (I : Inv X pins σ H s) : X.env.locals < s.heap.objs.size := let ⟨_, hn, _⟩ := I.loc; hn.lt
theorem Inv.sz (I : Inv X pins σ H s) : X.s₀.heap.objs.size ≤ s.heap.objs.size := Nat.le_trans I.ok.above (Nat.le_of_lt I.lt)
theorem Inv.nofs (I : Inv X pins σ H s) {a : Addr} (h : s.heap.objs.size ≤ a) : a ∉ X.fs := fun hb => by
  obtain ⟨_, o, ho, _⟩ := I.ok.funs.mem hb
  exact absurd (Nat.lt_of_lt_of_le (Heap.lt_size ho) (Nat.le_trans I.sz h)) (Nat.lt_irrefl _)
theorem Inv.cne (I : Inv X pins σ H s) : ∀ x c, X.env.cells.lookup x = some c → c ≠ X.env.locals := fun x c e z => by
  obtain ⟨v, o, ho, hd⟩ := I.cell x c e
  obtain ⟨m, ⟨o', es, ep, ho', hd', _⟩, _⟩ := I.loc
  rw [z, ho'] at ho; cases ho; rw [hd'] at hd; cases hd
theorem Inv.funs (I : Inv X pins σ H s) : s.heap.FunFrames X.base X.outer := by
  have all : ∀ (l : List Env), (∀ b ∈ frs l, b ∈ X.fs) → X.s₀.heap.FunFrames X.base l → s.heap.FunFrames X.base l := by
    intro l
    induction l with
    | nil => intro _ _; trivial
    | cons env r ih =>
      intro hs hl
      obtain ⟨hk, ⟨L, o, hf, hn, ho, hd⟩, hr⟩ := hl
      have hL : L ∈ X.fs := hs L (by unfold frs; rw [List.filterMap_cons, hf]; exact List.mem_cons_self)
      obtain ⟨sl, e⟩ := I.base.slot L o ho (I.ok.frf L hL) hL fun z => I.ok.exfs L z hL
      exact ⟨hk, ⟨L, _, hf, hn, e, hd⟩, ih (fun b hb => hs b (by unfold frs; rw [List.filterMap_cons, hf]; exact List.mem_cons_of_mem _ hb)) hr⟩
  exact all X.outer (fun _ hb => hb) I.ok.funs
theorem Inv.stack (I : Inv X pins σ H s) : s.heap.FunFrames X.base X.stack := by
  rcases I.ok.stk with e | ⟨e, hf⟩
  · rw [e]; exact I.funs
  · rw [e]
    obtain ⟨m, hn, _⟩ := I.loc
    refine .cons (by rw [I.ok.kind]; decide) hf hn ?_ I.funs
    exact Heap.get?_none_of_le (Nat.le_trans I.ok.bsz I.ok.above)
theorem Inv.stkSub (I : Inv X pins σ H s) : ∀ b ∈ frs X.stack, b ∈ X.env.locals :: X.fs := fun b hb => by
  rcases I.ok.stk with e | ⟨e, hf⟩
  · rw [e] at hb; exact List.mem_cons_of_mem _ hb
  · rw [e] at hb
    unfold frs at hb
    rw [List.filterMap_cons, hf] at hb
    exact hb
theorem Inv.stkFree (I : Inv X pins σ H s) : ∀ b ∈ frs X.stack, H b = none := fun b hb => by
  rcases List.mem_cons.mp (I.stkSub b hb) with e | hb
  · rw [e]; exact I.free
  · obtain ⟨_, o, ho, _⟩ := I.ok.funs.mem hb
    exact I.base.free b o ho (I.ok.frf b hb) fun z => I.ok.exfs b z hb
theorem Inv.step {g' : Array GenState} {t' : Nat} {d' : Drawn} {ch : List Addr} (I : Inv X pins σ H s)
    (hch : ∀ b ∈ ch, (b ∈ X.ex ∨ X.s₀.heap.objs.size ≤ b) ∧ b ≠ X.env.locals ∧ (∀ x c, X.env.cells.lookup x = some c → c ≠ b) ∧ ∀ p ∈ X.pn ++ pins, p.1 ≠ b)
    (keep : ∀ b o, b ≠ X.env.locals → b ∉ X.fs → b ∉ ch → s.heap.get? b = some o → H b = none → h'.get? b = some o)
    (slot : ∀ b o, b ≠ X.env.locals → b ∈ X.fs → b ∉ ch → s.heap.get? b = some o → H b = none → ∃ sl, h'.get? b = some { o with slots := sl }) (free : ∀ b o, b ∉ ch → s.heap.get? b = some o → H b = none → H' b = none)
    (there : ∀ b o, b ∉ ch → s.heap.get? b = some o → ∃ o', h'.get? b = some o')
    (tups : ∀ b xs, H b = some (.tup xs) → H' b = some (.tup xs)) (frzs : ∀ b o u, H b = some (.frz o u) → H' b = some (.frz o u)) (tbls : ∀ b ps, H b = some (.tbl ps) → ∃ more, H' b = some (.tbl (ps ++ more)))
    (ns : ∀ m, s.heap.Ns X.env.locals m → h'.Ns X.env.locals m) (hok : HOk X.prog X.w H' h') (hg : AllBare g') :
    Inv X pins σ H' { s with heap := h', gens := g', drawn := d', toks := t' } := by
  have neL : ∀ b o, X.s₀.heap.get? b = some o → b ≠ X.env.locals := fun b o e => Nat.ne_of_lt (Nat.lt_of_lt_of_le (Heap.lt_size e) I.ok.above)
  have neC : ∀ b o, X.s₀.heap.get? b = some o → b ∉ X.ex → b ∉ ch := fun b o e hx hb => by
    rcases (hch b hb).1 with z | z
    · exact hx z
    · exact absurd (Nat.lt_of_lt_of_le (Heap.lt_size e) z) (Nat.lt_irrefl _)
  have cellK : ∀ x c, X.env.cells.lookup x = some c → ∀ v, s.heap.IsCell c v → h'.IsCell c v := fun x c e v ⟨o, ho, hd⟩ => by
    have nch : c ∉ ch := fun z => (hch c z).2.2.1 x c e rfl
    by_cases hc : c ∈ X.fs
    · obtain ⟨sl, q⟩ := slot c o (I.cne x c e) hc nch ho (I.freeC x c e)
      exact ⟨_, q, hd⟩
    · exact ⟨o, keep c o (I.cne x c e) hc nch ho (I.freeC x c e), hd⟩
  refine ⟨I.ok, I.os, hg, ⟨fun b o e n hb hx => ?_, fun b o e n hb hx => ?_, fun b o e n hx => ?_, fun b o e hx => ?_, fun b xs e => tups b xs (I.base.tups b xs e), fun b o xs e => frzs b o xs (I.base.frzs b o xs e), fun b ps e => ?_⟩, ?_, fun x c e => ?_, ?_, fun x c e => ?_, fun p hp => ?_, hok, I.len⟩
  · exact keep b o (neL b o e) hb (neC b o e hx) (I.base.keep b o e n hb hx) (I.base.free b o e n hx)
  · obtain ⟨sl, e1⟩ := I.base.slot b o e n hb hx
    obtain ⟨sl', e2⟩ := slot b _ (neL b o e) hb (neC b o e hx) e1 (I.base.free b o e n hx)
    exact ⟨sl', e2⟩
  · obtain ⟨o', e1⟩ := I.base.there b o e hx
    exact free b o' (neC b o e hx) e1 (I.base.free b o e n hx)
  · obtain ⟨o', e1⟩ := I.base.there b o e hx
    exact there b o' (neC b o e hx) e1
  · obtain ⟨m1, e1⟩ := I.base.tbls b ps e
    obtain ⟨m2, e2⟩ := tbls b _ e1
    exact ⟨m1 ++ m2, by rw [e2, Array.append_assoc]⟩
  · obtain ⟨m, hn, hl⟩ := I.loc
    refine ⟨m, ns m hn, fun i x v e1 e2 e3 => ?_⟩
    obtain ⟨u, r, l⟩ := hl i x v e1 e2 e3
    refine ⟨u, r, ?_⟩
    rcases l with l | ⟨k, c, e, z⟩
    · exact .inl l
    · exact .inr ⟨k, c, e, cellK x c e _ z⟩
  · obtain ⟨v, z⟩ := I.cell x c e
    exact ⟨v, cellK x c e v z⟩
  · obtain ⟨m, ⟨o, _, _, ho, _⟩, _⟩ := I.loc
    exact free _ o (fun z => (hch _ z).2.1 rfl) ho I.free
  · obtain ⟨v, o, ho, hd⟩ := I.cell x c e
    exact free c o (fun z => (hch c z).2.2.1 x c e rfl) ho (I.freeC x c e)
  · obtain ⟨e, n, ne, nf, d⟩ := I.pin p hp
    have nch : p.1 ∉ ch := fun z => (hch p.1 z).2.2.2 p hp rfl
    exact ⟨keep p.1 p.2 ne nf nch e n, free p.1 p.2 nch e n, ne, nf, d⟩
theorem Inv.un {t' : Nat} (I : Inv X pins σ H s) (u : Un X.fs [] H H' s.heap h') (hok : HOk X.prog X.w H' h') : Inv X pins σ H' { s with heap := h', toks := t' } := by
  obtain ⟨m, ⟨o, es, ep, ho, r⟩, _⟩ := id I.loc
  obtain ⟨sl, hL⟩ := u.any ho I.free (by simp)
  exact I.step (g' := s.gens) (d' := s.drawn) (ch := []) (fun _ z => nomatch z) (fun b o _ hb _ e n => u.keep b o e n hb (by simp)) (fun b o _ hb _ e n => u.slot b o e n hb (by simp)) (fun b o _ e n => u.free b o e n (by simp)) (fun b o _ e => u.there b o e (by simp)) u.tups u.frzs u.tbls (fun m' hm => by
    obtain ⟨o', es', ep', ho', r'⟩ := hm
    rw [ho] at ho'; cases ho'
    exact ⟨_, es', ep', hL, r'⟩) hok I.bare
theorem Inv.call {g' : Array GenState} {t' : Nat} {d' : Drawn} {ch : List Addr} (I : Inv X pins σ H s) (u : Un (frs X.stack) ch H H' s.heap h') (hok : HOk X.prog X.w H' h') (hg : AllBare g')
    (hch : ∀ b ∈ ch, (b ∈ X.ex ∨ X.s₀.heap.objs.size ≤ b) ∧ b ≠ X.env.locals ∧ (∀ x c, X.env.cells.lookup x = some c → c ≠ b) ∧ ∀ p ∈ X.pn ++ pins, p.1 ≠ b) :
    Inv X pins σ H' { s with heap := h', gens := g', drawn := d', toks := t' } := by
  obtain ⟨m, ⟨o, es, ep, ho, r⟩, _⟩ := id I.loc
  obtain ⟨sl, hL⟩ := u.any ho I.free fun z => (hch _ z).2.1 rfl
  exact I.step (ch := ch) hch (fun b o hL hb hc e n => u.keep b o e n (fun z => (List.mem_cons.mp (I.stkSub b z)).elim hL hb) hc) (fun b o _ _ hc e n => u.any e n hc) (fun b o hc e n => u.free b o e n hc) (fun b o hc e => u.there b o e hc) u.tups u.frzs u.tbls (fun m' hm => by
    obtain ⟨o', es', ep', ho', r'⟩ := hm
    rw [ho] at ho'; cases ho'
    exact ⟨_, es', ep', hL, r'⟩) hok hg
theorem Inv.turned {t' : Nat} {it : Addr} (I : Inv X pins σ H s) (k : ∀ b o, b ≠ it → s.heap.get? b = some o → h'.get? b = some o) (hn : H it = none) (hL : it ≠ X.env.locals)
    (h1 : it ∈ X.ex ∨ X.s₀.heap.objs.size ≤ it) (h2 : ∀ x c, X.env.cells.lookup x = some c → c ≠ it) (h3 : ∀ p ∈ X.pn ++ pins, p.1 ≠ it) : Inv X pins σ H { s with heap := h', toks := t' } := by
  have nit : ∀ b u, H b = some u → b ≠ it := fun b u e z => by rw [z, hn] at e; cases e
  refine I.step (g' := s.gens) (d' := s.drawn) (ch := [it]) (fun b hb => ?_) (fun b o _ _ hc e _ => k b o (fun z => hc (by simp [z])) e) (fun b o _ _ hc e _ => ⟨o.slots, k b o (fun z => hc (by simp [z])) e⟩) (fun _ _ _ _ n => n)
    (fun b o hc e => ⟨o, k b o (fun z => hc (by simp [z])) e⟩) (fun _ _ e => e) (fun _ _ _ e => e) (fun b ps e => ⟨#[], by rw [e]; simp⟩) (fun m hm => ?_) (fun b u e => ?_) I.bare
  · have e : b = it := by simpa using hb
    subst e
    exact ⟨h1, hL, h2, h3⟩
  · obtain ⟨o, es, ep, ho, r⟩ := hm
    exact ⟨o, es, ep, k _ o (Ne.symm hL) ho, r⟩
  · refine (I.hok b u e).stay (fun c v hc q => k c v ?_ q) (fun _ q => q) fun _ _ q => q
    rcases hc with z | z
    · rw [z]; exact nit b u e
    · exact nit c _ z
theorem Inv.tok (I : Inv X pins σ H s) (t : Nat) : Inv X pins σ H { s with toks := t } := I.un (h' := s.heap) (t' := t) Un.refl I.hok
theorem Inv.kept {t' : Nat} (I : Inv X pins σ H s) (k : ∀ b u, s.heap.get? b = some u → h'.get? b = some u) : Inv X pins σ H { s with heap := h', toks := t' } := I.un (Un.kept k) (I.hok.kept k)
theorem Inv.laid {a : Addr} {o : HO} {t' : Nat} (I : Inv X pins σ H s) (k : ∀ b u, s.heap.get? b = some u → h'.get? b = some u) (hp : s.heap.objs.size ≤ a) (new : ObjOk X.prog X.w (upd H a o) h' a o) :
    Inv X pins σ (upd H a o) { s with heap := h', toks := t' } := I.un (Un.laid k hp (I.hok.fresh hp)) (I.hok.laid k hp new)
theorem Inv.write {x e : Addr} {o : HO} {t' : Nat} (I : Inv X pins σ H s) (mu : Mut (H x)) (he : e = x ∨ H e = some (.own x)) (k : ∀ b u, b ≠ e → s.heap.get? b = some u → h'.get? b = some u) (heo : ∃ u, h'.get? e = some u)
    (new : ObjOk X.prog X.w (upd H x o) h' x o) : Inv X pins σ (upd H x o) { s with heap := h', toks := t' } := I.un (Un.write mu he k heo) (I.hok.write mu he k heo new)
theorem Inv.pins_of {pins' : List (Addr × Obj)} (I : Inv X pins σ H s) (h : ∀ p ∈ pins', s.heap.get? p.1 = some p.2 ∧ H p.1 = none ∧ p.1 ≠ X.env.locals ∧ p.1 ∉ X.fs ∧ ∀ v, p.2.data ≠ .cell v) : Inv X pins' σ H s :=
  ⟨I.ok, I.os, I.bare, I.base, I.loc, I.cell, I.free, I.freeC, fun p hp => (List.mem_append.mp hp).elim (fun z => I.pin p (List.mem_append_left _ z)) (h p), I.hok, I.len⟩
theorem nodup_ix {N : List Str} (hN : N.Nodup) {i j : Nat} {x : Str} (a : N[i]? = some x) (b : N[j]? = some x) : i = j := by
  obtain ⟨h1, e1⟩ := List.getElem?_eq_some_iff.mp a
  obtain ⟨h2, e2⟩ := List.getElem?_eq_some_iff.mp b
  exact (List.getElem_inj hN).mp (e1.trans e2.symm)
theorem store_ok2 {M : Model} {A : Around} {E : Value → Shared → Prop} {i : Nat} {x : Str} {v : V} {u : Value} {Q : Unit → Shared → Prop} (I : Inv X pins σ H s) (hN : X.N.Nodup) (hi : X.N[i]? = some x) (hx : Loc X.env.scope x) (r : RelV v u)
    (h : ∀ s', Inv X pins (σ.set i (some v)) H s' → (∃ a, Heap.SameBut a s.heap s'.heap ∧ (a = X.env.locals ∨ X.env.cells.lookup x = some a)) → Q () s') (hf : X.fn x = true ∨ X.env.scope.names.lookup x = some .local := by first | exact .inl rfl | exact .inr rfl | assumption) : wpAny M A (storeName X.env x u) Q E s := by
  obtain ⟨m, hn, hl⟩ := id I.loc
  have hcls : (X.env.scope.kind == .class || (X.env.scope.kind == .module && X.env.locals != X.env.globals)) = false := by rw [I.ok.kind]; rfl
  have hiσ : i < σ.length := by rw [I.len]; exact (List.getElem?_eq_some_iff.mp hi).1
  have cne := I.cne
  have tracked : ∀ {a : Addr} {h' : Heap}, (∃ o, s.heap.get? a = some o ∧ H a = none) → Heap.SameBut a s.heap h' → HOk X.prog X.w H h' := fun {a h'} ha hs b ob e => by
    obtain ⟨_, _, hfree⟩ := ha
    refine (I.hok b ob e).stay (fun c w' hc q => (hs.2 c ?_).trans q) (fun _ q => q) fun _ _ q => q
    rintro rfl
    rcases hc with rfl | hc
    · rw [hfree] at e; cases e
    · rw [hfree] at hc; cases hc
  rcases hx with hk | hk
  · refine wpAny_storeName_local hk hn (fun h' hn' hs => ?_) hcls
    obtain ⟨oL, _, _, hoL, _⟩ := id hn
    refine h _ ⟨I.ok, I.os, I.bare, ⟨fun b o e n hb hx => ?_, fun b o e n hb hx => ?_, I.base.free, fun b o e hx => ?_, I.base.tups, I.base.frzs, I.base.tbls⟩, ⟨_, hn', fun j y v' e1 e2 e3 => ?_⟩, fun y c e => ?_, I.free, I.freeC, fun p hp => ?_, tracked ⟨oL, hoL, I.free⟩ hs, by simpa using I.len⟩ ⟨_, hs, .inl rfl⟩
    · exact (hs.2 b (Nat.ne_of_lt (Nat.lt_of_lt_of_le (Heap.lt_size e) I.ok.above))).trans (I.base.keep b o e n hb hx)
    · obtain ⟨sl, e1⟩ := I.base.slot b o e n hb hx
      exact ⟨sl, (hs.2 b (Nat.ne_of_lt (Nat.lt_of_lt_of_le (Heap.lt_size e) I.ok.above))).trans e1⟩
    · obtain ⟨o', e1⟩ := I.base.there b o e hx
      exact ⟨o', (hs.2 b (Nat.ne_of_lt (Nat.lt_of_lt_of_le (Heap.lt_size e) I.ok.above))).trans e1⟩
    · by_cases hj : j = i
      · subst hj
        rw [hi] at e1; cases e1
        rw [List.getElem?_set_self hiσ] at e2
        cases e2
        exact ⟨u, r, .inl ⟨hk, by simp⟩⟩
      · rw [List.getElem?_set_ne (Ne.symm hj)] at e2
        obtain ⟨u', r', q⟩ := hl j y v' e1 e2 e3
        refine ⟨u', r', ?_⟩
        rcases q with ⟨k, e⟩ | ⟨k, c, e, z⟩
        · refine .inl ⟨k, ?_⟩
          have : y ≠ x := fun e => hj (nodup_ix hN e1 (e ▸ hi))
          simp [this, e]
        · exact .inr ⟨k, c, e, z.sameBut hs (cne y c e)⟩
    · obtain ⟨w', z⟩ := I.cell y c e
      exact ⟨w', z.sameBut hs (cne y c e)⟩
    · obtain ⟨e, n, ne, nf, d⟩ := I.pin p hp
      exact ⟨(hs.2 p.1 ne).trans e, n, ne, nf, d⟩
  · have hfn : X.fn x = true := by
      rcases hf with z | z
      · exact z
      · rw [z] at hk; cases hk
    obtain ⟨c, hc⟩ := I.ok.has x (.inl hk)
    obtain ⟨w', z⟩ := I.cell x c hc
    refine wpAny_storeName_cell I.ok.kind hk hc z (fun h' hc' hs => ?_)
    obtain ⟨oc, hoc, hocd⟩ := id z
    refine h { s with heap := h' } ⟨I.ok, I.os, I.bare, ⟨fun b o e n hb hx => ?_, fun b o e n hb hx => ?_, I.base.free, fun b o e hx => ?_, I.base.tups, I.base.frzs, I.base.tbls⟩, ⟨m, hn.sameBut hs (Ne.symm (cne x c hc)), fun j y v' e1 e2 e3 => ?_⟩, fun y c' e => ?_, I.free, I.freeC, fun p hp => ?_, tracked ⟨oc, hoc, I.freeC x c hc⟩ hs, by simpa using I.len⟩ ⟨c, hs, .inr hc⟩
    · exact (hs.2 b (Nat.ne_of_lt (Nat.lt_of_lt_of_le (Heap.lt_size e) (I.ok.cab x c hfn hc)))).trans (I.base.keep b o e n hb hx)
    · obtain ⟨sl, e1⟩ := I.base.slot b o e n hb hx
      exact ⟨sl, (hs.2 b (Nat.ne_of_lt (Nat.lt_of_lt_of_le (Heap.lt_size e) (I.ok.cab x c hfn hc)))).trans e1⟩
    · obtain ⟨o', e1⟩ := I.base.there b o e hx
      exact ⟨o', (hs.2 b (Nat.ne_of_lt (Nat.lt_of_lt_of_le (Heap.lt_size e) (I.ok.cab x c hfn hc)))).trans e1⟩
    · by_cases hj : j = i
      · subst hj
        rw [hi] at e1; cases e1
        rw [List.getElem?_set_self hiσ] at e2
        cases e2
        exact ⟨u, r, .inr ⟨.inl hk, c, hc, hc'⟩⟩
      · rw [List.getElem?_set_ne (Ne.symm hj)] at e2
        obtain ⟨u', r', q⟩ := hl j y v' e1 e2 e3
        refine ⟨u', r', ?_⟩
        rcases q with q | ⟨k, c', e, z'⟩
        · exact .inl q
        · refine .inr ⟨k, c', e, z'.sameBut hs ?_⟩
          rintro rfl
          exact hj (nodup_ix hN e1 (I.ok.inj _ _ _ e hc ▸ hi))
    · by_cases hcc : c' = c
      · subst hcc; exact ⟨_, hc'⟩
      · obtain ⟨w2, z2⟩ := I.cell y c' e
        exact ⟨w2, z2.sameBut hs hcc⟩
    · obtain ⟨e, n, ne, nf, d⟩ := I.pin p hp
      refine ⟨(hs.2 p.1 ?_).trans e, n, ne, nf, d⟩
      intro q
      rw [q, hoc] at e
      have q' : oc = p.2 := Option.some.inj e
      exact d w' (by rw [← q']; exact hocd)
theorem store_ok {M : Model} {A : Around} {E : Value → Shared → Prop} {i : Nat} {x : Str} {v : V} {u : Value} {Q : Unit → Shared → Prop} (I : Inv X pins σ H s) (hN : X.N.Nodup) (hi : X.N[i]? = some x) (hx : Loc X.env.scope x) (r : RelV v u)
    (h : ∀ s', Inv X pins (σ.set i (some v)) H s' → Q () s') (hf : X.fn x = true ∨ X.env.scope.names.lookup x = some .local := by first | exact .inl rfl | exact .inr rfl | assumption) : wpAny M A (storeName X.env x u) Q E s :=
  store_ok2 I hN hi hx r (fun s' I' _ => h s' I') hf
theorem Inv.call' {s' : Shared} {ch : List Addr} (I : Inv X pins σ H s) (ho : s'.os = s.os) (u : Un (frs X.stack) ch H H' s.heap s'.heap) (hok : HOk X.prog X.w H' s'.heap) (hg : AllBare s'.gens)
    (hch : ∀ b ∈ ch, (b ∈ X.ex ∨ X.s₀.heap.objs.size ≤ b) ∧ b ≠ X.env.locals ∧ (∀ x c, X.env.cells.lookup x = some c → c ≠ b) ∧ ∀ p ∈ X.pn ++ pins, p.1 ≠ b) : Inv X pins σ H' s' := by
  obtain ⟨h', g', d', t', o'⟩ := s'
  have e : o' = s.os := ho
  subst e
  exact I.call (g' := g') (t' := t') (d' := d') u hok hg hch
end
abbrev XK := Value → Option Addr → Hp → Prop
abbrev St := List (Option V)
abbrev VK := V → Hp → Prop
abbrev TE := St → Hp → VK → Prop
abbrev TT := St → Hp → (Bool → Hp → Prop) → Prop
abbrev TA := St → Hp → (List V → Hp → Prop) → Prop
structure Ends where
  nx : St → Hp → Prop
  rt : VK
  bk : St → Hp → Prop := fun _ _ => False
  ct : St → Hp → Prop := fun _ _ => False
abbrev TS := Ends → St → Hp → Prop
def EP (X : Cx) (pins : List (Addr × Obj)) (σ : St) (Q : VK) (u : Value) (s' : Shared) : Prop := ∃ v H', Inv X pins σ H' s' ∧ RelV v u ∧ Q v H'
def TP (X : Cx) (pins : List (Addr × Obj)) (σ : St) (Q : Bool → Hp → Prop) (b : Bool) (s' : Shared) : Prop := ∃ H', Inv X pins σ H' s' ∧ Q b H'
def AP (X : Cx) (pins : List (Addr × Obj)) (σ : St) (Q : List V → Hp → Prop) (us : List Value) (s' : Shared) : Prop := ∃ vs H', Inv X pins σ H' s' ∧ Vals vs us ∧ Q vs H'
def SP (X : Cx) (pins : List (Addr × Obj)) (D : Ends) (f : Flow) (s' : Shared) : Prop :=
  match f with
  | .next => ∃ σ' H', Inv X pins σ' H' s' ∧ D.nx σ' H'
  | .brk => ∃ σ' H', Inv X pins σ' H' s' ∧ D.bk σ' H'
  | .cont => ∃ σ' H', Inv X pins σ' H' s' ∧ D.ct σ' H'
  | .ret u => ∃ v σ' H', Inv X pins σ' H' s' ∧ RelV v u ∧ D.rt v H'
def PE (X : Cx) (e : Expr) (t : TE) : Prop :=
  ∀ (pins : List (Addr × Obj)) (s : Shared) (σ : St) (H : Hp) (Q : VK), Inv X pins σ H s → t σ H Q → wpAny (model X.prog X.w) X.A (eval e X.env) (EP X pins σ Q) X.xe s
def PT (X : Cx) (e : Expr) (t : TT) : Prop :=
  ∀ (pins : List (Addr × Obj)) (s : Shared) (σ : St) (H : Hp) (Q : Bool → Hp → Prop), Inv X pins σ H s → t σ H Q → wpAny (model X.prog X.w) X.A (isTrue e X.env (eval e X.env)) (TP X pins σ Q) X.xe s
def PW (X : Cx) (e : Expr) (t : TT) : Prop :=
  ∀ (whole : Sem Value) (pins : List (Addr × Obj)) (s : Shared) (σ : St) (H : Hp) (Q : Bool → Hp → Prop), Inv X pins σ H s → t σ H Q → wpAny (model X.prog X.w) X.A (isTrue e X.env whole) (TP X pins σ Q) X.xe s
theorem PW.pt {X : Cx} {e : Expr} {t : TT} (h : PW X e t) : PT X e t := h _
def PA (X : Cx) (es : List Expr) (t : TA) : Prop :=
  ∀ (pos : Pos) (pins : List (Addr × Obj)) (s : Shared) (σ : St) (H : Hp) (Q : List V → Hp → Prop), Inv X pins σ H s → t σ H Q → wpAny (model X.prog X.w) X.A (spliced (backTo pos (starEach es X.env))) (AP X pins σ Q) X.xe s
def PS (X : Cx) (st : Stmt) (t : TS) : Prop :=
  ∀ (pins : List (Addr × Obj)) (s : Shared) (σ : St) (H : Hp) (D : Ends), Inv X pins σ H s → t D σ H → wpAny (model X.prog X.w) X.A (exec st X.env) (SP X pins D) X.xe s
def PSs (X : Cx) (st : List Stmt) (t : TS) : Prop :=
  ∀ (pins : List (Addr × Obj)) (s : Shared) (σ : St) (H : Hp) (D : Ends), Inv X pins σ H s → t D σ H → wpAny (model X.prog X.w) X.A (execs st X.env) (SP X pins D) X.xe s
theorem thn {α : Type} {t : Sem α} {Q Q' : α → Shared → Prop} {M : Model} {A : Around} {E : Value → Shared → Prop} {s : Shared} (h : wpAny M A t Q E s) (hQ : ∀ a s, Q a s → Q' a s) : wpAny M A t Q' E s := wpAny_mono h hQ fun _ _ x => x
end L2
namespace L2
open PySem PySem.Spec PyProof.Rows
section
variable {X : Cx}
theorem bin {a b : Expr} {ta tb : TE} (ha : PE X a ta) (hb : PE X b tb) {pins : List (Addr × Obj)} {s : Shared} {σ : St} {H : Hp} {R : V → V → Hp → Prop} (I : Inv X pins σ H s) (h : ta σ H fun x H1 => tb σ H1 fun y H2 => R x y H2)
    {α : Type} {Q : α → Shared → Prop} {f : Value → Value → Sem α}
    (hf : ∀ v u s2 x y H2, Inv X pins σ H2 s2 → RelV x v → RelV y u → R x y H2 → wpAny (model X.prog X.w) X.A (f v u) Q X.xe s2) :
    wpAny (model X.prog X.w) X.A (eval a X.env) (fun v s₁ => wpAny (model X.prog X.w) X.A (eval b X.env) (fun u s₂ => wpAny (model X.prog X.w) X.A (f v u) Q X.xe s₂) X.xe s₁) X.xe s := by
  refine thn (ha pins s σ H _ I h) fun v s1 ⟨x, H1, I1, r1, q1⟩ => ?_
  refine thn (hb pins s1 σ H1 _ I1 q1) fun u s2 ⟨y, H2, I2, r2, q2⟩ => ?_
  exact hf v u s2 x y H2 I2 r1 r2 q2
def tVar (i : Nat) : TE := fun σ H Q => ∃ v, σ[i]? = some (some v) ∧ Q v H
def tC (v : V) : TE := fun _ H Q => Q v H
theorem pe_var {i : Nat} {x : Str} {pos : Pos} (hN : X.N[i]? = some x) (hv : Vis X.env.scope x) (hd : (x == ("__debug__" : Str)) = false := by decide) (hcd : (x == ("__classdict__" : Str)) = false := by decide) : PE X (.Name x pos) (tVar i) := by
  intro pins s σ H Q I h
  obtain ⟨v, e, h⟩ := h
  obtain ⟨m, hn, hl⟩ := I.loc
  obtain ⟨u, r, l⟩ := hl i x v hN e hv
  have fin : EP X pins σ Q u s := ⟨v, H, I, r, h⟩
  rcases l with ⟨hk, hm⟩ | ⟨hk, c, hc, hcell⟩
  · exact wpAny_Name (wpAny_loadName_local I.ok.kind hk hn hm fin) hd
  · rcases hk with hk | hk
    · exact wpAny_Name (wpAny_loadName_cell I.ok.kind hk hc hcell fin) hd
    · exact wpAny_Name (wpAny_loadName_free I.ok.kind hk hc hcell fin hcd) hd
theorem pe_int {i j pos} : PE X (.Constant (.int i) j pos) (tC (.int i)) := fun _ _ _ H _ I h => wpAny_Constant_int ⟨.int i, H, I.tok _, ⟨_, rfl⟩, h⟩
theorem pe_bl {b j pos} : PE X (.Constant (.bool b) j pos) (tC (.bl b)) := fun _ _ _ H _ I h => Constant_bool ⟨.bl b, H, I, rfl, h⟩
theorem pe_non {j pos} : PE X (.Constant .none j pos) (tC .non) := fun _ _ _ H _ I h => Constant_none ⟨.non, H, I, rfl, h⟩
theorem pe_str {x j pos} : PE X (.Constant (.str x) j pos) (tC (.str x)) := fun _ _ _ H _ I h => Calls.Constant_str ⟨.str x, H, I.tok _, ⟨_, rfl⟩, h⟩
def Gl (X : Cx) (x : Str) : Prop := X.env.kindOf x = some .globalImplicit
theorem ld_glob {E : Value → Shared → Prop} {pins : List (Addr × Obj)} {s : Shared} {σ : St} {H : Hp} {x : Str} {u : Value} {pos : Pos} {Q : Value → Shared → Prop} (I : Inv X pins σ H s) (hg : Gl X x) (hm : X.mg x = some u) (h : Q u s)
    (hd : (x == ("__debug__" : Str)) = false := by decide) : wpAny (model X.prog X.w) X.A (eval (.Name x pos) X.env) Q E s :=
  Calls.Name_function_global I.ok.kind hg (Calls.loadGlobal_global (by rw [I.ok.glob]; exact I.mod.glob.keeps I.bk) hm h) hd
theorem ld_blt {E : Value → Shared → Prop} {pins : List (Addr × Obj)} {s : Shared} {σ : St} {H : Hp} {x : Str} {u : Value} {pos : Pos} {Q : Value → Shared → Prop} (I : Inv X pins σ H s) (hg : Gl X x) (hm : X.mg x = none) (hv : bootBuiltins x = some u) (h : Q u s)
    (hn : x ≠ "__name__" := by decide) (hd : (x == ("__debug__" : Str)) = false := by decide) : wpAny (model X.prog X.w) X.A (eval (.Name x pos) X.env) Q E s := by
  obtain ⟨mb, h1, h2⟩ := I.mod.blt
  exact Calls.Name_function_global I.ok.kind hg (Calls.loadGlobal_builtin (by rw [I.ok.glob]; exact I.mod.glob.keeps I.bk) hm (by rw [I.ok.blt]; exact h1.keeps I.bk) ((h2 x hn).trans hv) h) hd
theorem pe_glob {x : Str} {v : V} {u : Value} {pos : Pos} (hg : Gl X x) (hm : X.mg x = some u) (r : RelV v u) (hd : (x == ("__debug__" : Str)) = false := by decide) : PE X (.Name x pos) (tC v) :=
  fun _ _ _ H _ I h => ld_glob I hg hm ⟨v, H, I, r, h⟩ hd
theorem pe_bltn {x : Str} {v : V} {u : Value} {pos : Pos} (hg : Gl X x) (hm : X.mg x = none) (hv : bootBuiltins x = some u) (r : RelV v u) (hn : x ≠ "__name__" := by decide) (hd : (x == ("__debug__" : Str)) = false := by decide) : PE X (.Name x pos) (tC v) :=
  fun _ _ _ H _ I h => ld_blt I hg hm hv ⟨v, H, I, r, h⟩ hn hd
variable {a b : Expr} {ta tb : TE} {pos : Pos}
def PC (X : Cx) (op : CmpOp) (a b : Expr) (t : TE) : Prop :=
  ∀ (pins : List (Addr × Obj)) (s : Shared) (σ : St) (H : Hp) (Q : VK), Inv X pins σ H s → t σ H Q →
    wpAny (model X.prog X.w) X.A (eval a X.env) (fun v s₁ => wpAny (model X.prog X.w) X.A (eval b X.env) (fun u s₂ => wpAny (model X.prog X.w) X.A (compareOp op v u) (EP X pins σ Q) X.xe s₂) X.xe s₁) X.xe s
def tB (t : TE) : TT := fun σ H Q => t σ H fun x H1 => ∃ c, x = .bl c ∧ Q c H1
theorem pt_cmp {op : CmpOp} {t : TE} (h : PC X op a b t) (h1 : behindInMarks op b = false := by first | exact nobehind _ (by decide) (by decide) | rfl) : PT X (.Compare a [op] [b] pos) (tB t) := by
  intro pins s σ H Q I hw
  refine wpAny_isTrue_Compare1 (thn (h pins s σ H _ I hw) fun v s1 h1 => thn h1 fun u s2 h2 => thn h2 fun c s3 ⟨x, H1, I1, r1, q1⟩ => ?_) h1
  obtain ⟨d, rfl, q⟩ := q1
  cases r1
  exact wpAny_truthy_bool ⟨H1, I1, q⟩
theorem pt_val {e : Expr} {t : TE} (h : PE X e t) (he : ∀ whole, isTrue e X.env whole = (do let v ← whole; standAt e.pos; holding [v] (truthy v)) := by intro _; rfl) : PT X e (tB t) := by
  intro pins s σ H Q I hw
  refine isTrue_plain (thn (h pins s σ H _ I hw) fun v s1 ⟨x, H1, I1, r1, q1⟩ => ?_) (he _)
  obtain ⟨d, rfl, q⟩ := q1
  cases r1
  exact wpAny_truthy_bool ⟨H1, I1, q⟩
variable {tA tB' : TT} {rest : List Expr}
def tAnd (t u : TT) : TT := fun σ H Q => t σ H fun c H1 => if c = true then u σ H1 Q else Q false H1
def tOr (t u : TT) : TT := fun σ H Q => t σ H fun c H1 => if c = true then Q true H1 else u σ H1 Q
def tNot (t : TT) : TT := fun σ H Q => t σ H fun c H1 => Q (!c) H1
theorem pw_and1 (ha : PT X a tA) : PW X (.BoolOp .And [a] pos) tA := by
  intro wh pins s σ H Q I h
  refine isTrue_and (thn (ha pins s σ H Q I h) fun c s1 e => ?_)
  cases c with
  | true => exact isTrue_and_nil e
  | false => exact e
theorem pw_or1 (ha : PT X a tA) : PW X (.BoolOp .Or [a] pos) tA := by
  intro wh pins s σ H Q I h
  refine isTrue_or (thn (ha pins s σ H Q I h) fun c s1 e => ?_)
  cases c with
  | false => exact isTrue_or_nil e
  | true => exact e
theorem pw_and (ha : PT X a tA) (hb : PW X (.BoolOp .And (b :: rest) pos) tB') : PW X (.BoolOp .And (a :: b :: rest) pos) (tAnd tA tB') := by
  intro wh pins s σ H Q I h
  refine isTrue_and (thn (ha pins s σ H _ I h) fun c s1 ⟨H1, I1, q1⟩ => ?_)
  cases c with
  | true => exact hb wh pins s1 σ H1 Q I1 q1
  | false => exact ⟨H1, I1, q1⟩
theorem pw_or (ha : PT X a tA) (hb : PW X (.BoolOp .Or (b :: rest) pos) tB') : PW X (.BoolOp .Or (a :: b :: rest) pos) (tOr tA tB') := by
  intro wh pins s σ H Q I h
  refine isTrue_or (thn (ha pins s σ H _ I h) fun c s1 ⟨H1, I1, q1⟩ => ?_)
  cases c with
  | true => exact ⟨H1, I1, q1⟩
  | false => exact hb wh pins s1 σ H1 Q I1 q1
theorem pt_not (ha : PT X a tA) : PT X (.UnaryOp .Not a pos) (tNot tA) := by
  intro pins s σ H Q I h
  exact isTrue_not (ha pins s σ H (fun c H1 => Q (!c) H1) I h)
def tAndV (ta tb : TE) : TE := fun σ H Q => ta σ H fun x H1 => ∃ c, x = .bl c ∧ if c = true then tb σ H1 Q else Q (.bl false) H1
def tNotV (ta : TE) : TE := fun σ H Q => ta σ H fun x H1 => ∃ c, x = .bl c ∧ Q (.bl (!c)) H1
theorem pe_one {op} {t : TE} (h : PE X a t) : PE X (.BoolOp op [a] pos) t := fun pins s σ H Q I hw => BoolOp_one (h pins s σ H Q I hw)
theorem pe_and (ha : PE X a ta) (hb : PE X (.BoolOp .And (b :: rest) pos) tb) : PE X (.BoolOp .And (a :: b :: rest) pos) (tAndV ta tb) := by
  intro pins s σ H Q I h
  refine BoolOp_and (thn (ha pins s σ H _ I h) fun v s1 ⟨x, H1, I1, r1, q1⟩ => ?_)
  obtain ⟨c, rfl, q1⟩ := q1
  cases r1
  refine wpAny_truthy_bool ?_
  cases c with
  | true => exact hb pins s1 σ H1 Q I1 q1
  | false => exact ⟨.bl false, H1, I1, rfl, q1⟩
theorem pe_not (ha : PE X a ta) : PE X (.UnaryOp .Not a pos) (tNotV ta) := by
  intro pins s σ H Q I h
  refine UnaryOp_ (thn (ha pins s σ H _ I h) fun v s1 ⟨x, H1, I1, r1, q1⟩ => ?_)
  obtain ⟨c, rfl, q1⟩ := q1
  cases r1
  exact not_of (wpAny_truthy_bool ⟨.bl (!c), H1, I1, rfl, q1⟩)
def tIf (t : TT) (ta tb : TE) : TE := fun σ H Q => t σ H fun c H1 => if c = true then ta σ H1 Q else tb σ H1 Q
theorem pe_ifExp {c : Expr} (hc : PT X c tA) (ha : PE X a ta) (hb : PE X b tb) : PE X (.IfExp c a b pos) (tIf tA ta tb) := by
  intro pins s σ H Q I h
  refine wpAny_IfExp (thn (hc pins s σ H _ I h) fun d s1 ⟨H1, I1, q1⟩ => ?_)
  cases d with
  | true => exact ha pins s1 σ H1 Q I1 q1
  | false => exact hb pins s1 σ H1 Q I1 q1
end
end L2
namespace L2
open PySem PySem.Spec PyProof.Rows
def SqL (K : PySem.W.Frag) (H : Hp) (a : Addr) (xs : List V) : Prop :=
  Rd H a (.lst xs) ∨
    ∃ (o : Obj) (its : Array Value) (n : Nat), K.lookup a = some o ∧ o.cls = .type "list" ∧ o.dict = none ∧ o.data = .seq its n ∧ its.size ≤ sizeLine ∧ Vals xs its.toList
def SqT (K : PySem.W.Frag) (H : Hp) (a : Addr) (xs : List V) : Prop :=
  Rd H a (.tup xs) ∨
    ∃ (o : Obj) (its : Array Value) (n : Nat), K.lookup a = some o ∧ o.cls = .type "tuple" ∧ o.data = .seq its n ∧ its.size ≤ sizeLine ∧ Vals xs its.toList
def absV : Value → Option V
  | .none => some .non
  | .bool b => some (.bl b)
  | .int i _ => some (.int i)
  | .str x _ => some (.str x)
  | .bytes b _ => some (.byt b)
  | .float b _ => some (.flt b)
  | .ref a => some (.ref a)
  | .type n => some (.ty n)
  | _ => none
theorem RelV.abs {x : V} {u : Value} (r : RelV x u) : absV u = some x := by
  cases x with
  | non => cases r; rfl
  | bl _ => cases r; rfl
  | int _ => obtain ⟨t, rfl⟩ := r; rfl
  | str _ => obtain ⟨t, rfl⟩ := r; rfl
  | byt _ => obtain ⟨t, rfl⟩ := r; rfl
  | flt _ => obtain ⟨t, rfl⟩ := r; rfl
  | ref _ => cases r; rfl
  | ty _ => cases r; rfl
theorem RelV.inj {x y : V} {u : Value} (r : RelV x u) (q : RelV y u) : x = y := Option.some.inj (r.abs.symm.trans q.abs)
theorem Vals.inj : ∀ {xs ys : List V} {us : List Value}, Vals xs us → Vals ys us → xs = ys
  | _, _, _, .nil, .nil => rfl
  | _, _, _, .cons r t, .cons r' t' => by rw [r.inj r', Vals.inj t t']
section
variable {X : Cx} {pins : List (Addr × Obj)} {σ : St} {H : Hp} {s : Shared} {a : Addr} {xs ys : List V}
theorem SqL.of {K : PySem.W.Frag} (h : H a = some (.lst xs)) : SqL K H a xs := .inl (.inl h)
theorem SqT.of {K : PySem.W.Frag} (h : H a = some (.tup xs)) : SqT K H a xs := .inl (.inl h)
theorem Inv.list (I : Inv X pins σ H s) (h : SqL X.K H a xs) : ∃ its : List Value, Vals xs its ∧ PlainL s.heap a its.toArray ∧ xs.length ≤ sizeLine := by
  rcases h with h | ⟨o, its, n, hk, hc, hd, hs, hz, r⟩
  · obtain ⟨z, its, n, r, e⟩ := h.ok I.hok
    exact ⟨its, r, ⟨_, n, e, rfl, rfl, rfl⟩, z⟩
  · refine ⟨its.toList, r, ⟨o, n, I.kIn a o hk, hc, hd, by simpa using hs⟩, ?_⟩
    have e := r.length
    simp only [Array.length_toList] at e
    omega
theorem Inv.tuple (I : Inv X pins σ H s) (h : SqT X.K H a xs) : ∃ its : List Value, Vals xs its ∧ IsTup s.heap a its.toArray ∧ xs.length ≤ sizeLine := by
  rcases h with h | ⟨o, its, n, hk, hc, hs, hz, r⟩
  · obtain ⟨z, its, r, p⟩ := h.ok I.hok
    exact ⟨its, r, p, z⟩
  · refine ⟨its.toList, r, ⟨o, I.kIn a o hk, hc, n, by simpa using hs⟩, ?_⟩
    have e := r.length
    simp only [Array.length_toList] at e
    omega
theorem Inv.list_inj (I : Inv X pins σ H s) (h : SqL X.K H a xs) (h' : SqL X.K H a ys) : xs = ys := by
  obtain ⟨its, r, ⟨o, n, e, _, _, d⟩, _⟩ := I.list h
  obtain ⟨its', r', ⟨o', n', e', _, _, d'⟩, _⟩ := I.list h'
  rw [e] at e'; cases e'
  rw [d] at d'
  injection d' with d1 _
  have : its = its' := by simpa using congrArg Array.toList d1
  subst this
  exact r.inj r'
theorem Inv.tuple_inj (I : Inv X pins σ H s) (h : SqT X.K H a xs) (h' : SqT X.K H a ys) : xs = ys := by
  obtain ⟨its, r, ⟨o, e, _, n, d⟩, _⟩ := I.tuple h
  obtain ⟨its', r', ⟨o', e', _, n', d'⟩, _⟩ := I.tuple h'
  rw [e] at e'; cases e'
  rw [d] at d'
  injection d' with d1 _
  have : its = its' := by simpa using congrArg Array.toList d1
  subst this
  exact r.inj r'
end
abbrev Cx.wish (X : Cx) (E : Value → Shared → Prop) : Cx := { X with xe := E }
abbrev Cx.nox (X : Cx) : Cx := X.wish fun _ _ => False
theorem Cx.Ok.wish {X : Cx} (ok : X.Ok) (E : Value → Shared → Prop) : (X.wish E).Ok :=
  ⟨ok.mod, ok.kind, ok.glob, ok.blt, ok.above, ok.inj, ok.has, ok.cab, ok.hd, ok.frames, ok.stk, ok.exf, ok.bs, ok.bsz, ok.noex, ok.exfs, ok.funs, ok.frf⟩
theorem Cx.Ok.unwish {X : Cx} {E : Value → Shared → Prop} (ok : (X.wish E).Ok) : X.Ok :=
  ⟨ok.mod, ok.kind, ok.glob, ok.blt, ok.above, ok.inj, ok.has, ok.cab, ok.hd, ok.frames, ok.stk, ok.exf, ok.bs, ok.bsz, ok.noex, ok.exfs, ok.funs, ok.frf⟩
section
variable {X : Cx} {pins : List (Addr × Obj)} {σ : St} {H : Hp} {s : Shared} {E : Value → Shared → Prop}
theorem Inv.wish (I : Inv X pins σ H s) (E : Value → Shared → Prop) : Inv (X.wish E) pins σ H s := ⟨I.ok.wish E, I.os, I.bare, I.base, I.loc, I.cell, I.free, I.freeC, I.pin, I.hok, I.len⟩
theorem Inv.unwish (I : Inv (X.wish E) pins σ H s) : Inv X pins σ H s := ⟨I.ok.unwish, I.os, I.bare, I.base, I.loc, I.cell, I.free, I.freeC, I.pin, I.hok, I.len⟩
theorem SP.unwish {D : Ends} {f : Flow} {s' : Shared} (h : SP (X.wish E) pins D f s') : SP X pins D f s' := by
  cases f with
  | next => obtain ⟨σ', H', I, q⟩ := h; exact ⟨σ', H', I.unwish, q⟩
  | brk => obtain ⟨σ', H', I, q⟩ := h; exact ⟨σ', H', I.unwish, q⟩
  | cont => obtain ⟨σ', H', I, q⟩ := h; exact ⟨σ', H', I.unwish, q⟩
  | ret u => obtain ⟨v, σ', H', I, r, q⟩ := h; exact ⟨v, σ', H', I.unwish, r, q⟩
theorem PSs.nox {st : List Stmt} {t : TS} (h : PSs X.nox st t) : PSs X st t := fun pins s σ H D I hw =>
  wpAny_mono (h pins s σ H D (I.wish _) hw) (fun _ _ q => q.unwish) fun _ _ z => False.elim z
end
section
variable {X : Cx} {st : Stmt} {rest : List Stmt} {t u : TS} {e : Expr} {te : TE} {pos : Pos}
def tNext : TS := fun D σ H => D.nx σ H
def tSeq (t u : TS) : TS := fun D σ H => t { D with nx := u D } σ H
theorem pss_nil : PSs X [] tNext := fun _ _ σ H _ I h => wpAny_execs_nil ⟨σ, H, I, h⟩
theorem pss_cons (h1 : PS X st t) (h2 : PSs X rest u) : PSs X (st :: rest) (tSeq t u) := by
  intro pins s σ H D I h
  refine wpAny_execs_cons (thn (h1 pins s σ H { D with nx := u D } I h) fun f s1 q => ?_)
  cases f with
  | next =>
    obtain ⟨σ', H', I', q⟩ := q
    exact h2 pins s1 σ' H' D I' q
  | ret v => exact q
  | brk => exact q
  | cont => exact q
theorem Inv.quiet {pins : List (Addr × Obj)} {σ : St} {H : Hp} {s : Shared} (I : Inv X pins σ H s) : interactive X.env = false := by simp [interactive, I.ok.kind]
def tDrop (te : TE) : TS := fun D σ H => te σ H fun _ H1 => D.nx σ H1
theorem ps_expr (he : PE X e te) (hs : swapsWith e none pos.line X.env = pure false := by rfl) : PS X (.Expr e pos) (tDrop te) := by
  intro pins s σ H D I h
  exact wpAny_Expr_any (thn (he pins s σ H _ I h) fun v s1 ⟨x, H1, I1, r1, q1⟩ => ⟨σ, H1, I1, q1⟩) I.quiet hs
def tRet (te : TE) : TS := fun D σ H => te σ H D.rt
theorem ps_ret (he : PE X e te) : PS X (.Return (some e) pos) (tRet te) := by
  intro pins s σ H D I h
  exact wpAny_Return_some (thn (he pins s σ H _ I h) fun v s1 ⟨x, H1, I1, r1, q1⟩ => ⟨x, σ, H1, I1, r1, q1⟩)
def tIfS (c : TT) (t u : TS) : TS := fun D σ H => c σ H fun b H1 => if b = true then t D σ H1 else u D σ H1
theorem ps_if {c : Expr} {a b : List Stmt} {tc : TT} (hc : PT X c tc) (ha : PSs X a t) (hb : PSs X b u) : PS X (.If c a b pos) (tIfS tc t u) := by
  intro pins s σ H D I h
  refine wpAny_If (thn (hc pins s σ H _ I h) fun d s1 ⟨H1, I1, q1⟩ => ?_)
  cases d with
  | true => exact ha pins s1 σ H1 D I1 q1
  | false => exact hb pins s1 σ H1 D I1 q1
def tNever : TS := fun _ _ _ => False
theorem pss_never {sts : List Stmt} : PSs X sts tNever := fun _ _ _ _ _ _ h => h.elim
end
abbrev TG := V → St → Hp → (St → Hp → Prop) → Prop
def PG (X : Cx) (target : Expr) (t : TG) : Prop :=
  ∀ (pins : List (Addr × Obj)) (s : Shared) (σ : St) (H : Hp) (v : V) (u : Value) (Q : St → Hp → Prop), Inv X pins σ H s → RelV v u → t v σ H Q →
    wpAny (model X.prog X.w) X.A (assign target X.env u) (fun _ s' => ∃ σ' H', Inv X pins σ' H' s' ∧ Q σ' H') X.xe s
section
variable {X : Cx} {pos : Pos}
def gName (i : Nat) : TG := fun v σ H Q => Q (σ.set i (some v)) H
theorem pg_name {i : Nat} {x : Str} (hN : X.N.Nodup) (hi : X.N[i]? = some x) (hx : Loc X.env.scope x) (hf : X.fn x = true ∨ X.env.scope.names.lookup x = some .local := by first | exact .inl rfl | exact .inr rfl | assumption) : PG X (.Name x pos) (gName i) := by
  intro pins s σ H v u Q I r h
  exact wpAny_assign_Name (store_ok I hN hi hx r (fun s' I' => ⟨_, H, I', h⟩) hf)
def tAsg (te : TE) (g : TG) : TS := fun D σ H => te σ H fun x H1 => g x σ H1 D.nx
theorem ps_set {i : Nat} {x : Str} {e : Expr} {te : TE} {pos' : Pos} (hN : X.N.Nodup) (hi : X.N[i]? = some x) (hx : Loc X.env.scope x) (he : PE X e te) (hs : swapsWith e (some (.Name x pos')) pos.line X.env = pure false := by rfl) (hf : X.fn x = true ∨ X.env.scope.names.lookup x = some .local := by first | exact .inl rfl | exact .inr rfl | assumption) :
    PS X (.Assign [.Name x pos'] e pos) (tAsg te (gName i)) := by
  intro pins s σ H D I h
  refine wpAny_Assign_Name (thn (he pins s σ H _ I h) fun v s1 ⟨y, H1, I1, r1, q1⟩ => ?_) hs
  exact store_ok I1 hN hi hx r1 (fun s2 I2 => ⟨_, H1, I2, q1⟩) hf
end
section
variable {X : Cx} {pos : Pos}
def tWhile (c : TT) (tb : TS) : TS := fun D σ H => ∃ W : Nat → St → Hp → Prop, (∃ m, W m σ H) ∧ ∀ m σ H, W m σ H →
  c σ H fun b H1 => if b = true then ∃ N : St → Hp → Prop, (∀ σ' H', N σ' H' → ∃ m', m' < m ∧ W m' σ' H') ∧ tb { D with nx := N, ct := N, bk := D.nx } σ H1 else D.nx σ H1
theorem ps_while {c : Expr} {body : List Stmt} {tc : TT} {tb : TS} (hp : PassesOwn (model X.prog X.w) X.A X.env X.xe) (hc : PT X c tc) (hb : PSs X body tb) : PS X (.While c body [] pos) (tWhile tc tb) := by
  intro pins s σ H D I h
  obtain ⟨W, ⟨m0, w0⟩, turn⟩ := h
  refine wpAny_While (codeAny_whileLoop (fun n s' => ∃ σ' H', Inv X pins σ' H' s' ∧ W n σ' H') ?_ m0 ⟨σ, H, I, w0⟩)
  rintro n s1 ⟨σ1, H1, I1, w1⟩
  refine wpAny_passesOwn hp (thn (hc pins s1 σ1 H1 _ I1 (turn n σ1 H1 w1)) fun b s2 ⟨H2, I2, q2⟩ => ?_)
  cases b with
  | true =>
    obtain ⟨N, hN, q2⟩ := q2
    rw [if_pos rfl]
    refine wpAny_passesOwn hp (thn (hb pins s2 σ1 H2 _ I2 q2) fun f s3 q3 => ?_)
    cases f with
    | next =>
      obtain ⟨σ3, H3, I3, n3⟩ := q3
      obtain ⟨m', hm, w3⟩ := hN σ3 H3 n3
      exact ⟨m', hm, σ3, H3, I3, w3⟩
    | cont =>
      obtain ⟨σ3, H3, I3, n3⟩ := q3
      obtain ⟨m', hm, w3⟩ := hN σ3 H3 n3
      exact ⟨m', hm, σ3, H3, I3, w3⟩
    | brk => exact q3
    | ret v => exact q3
  | false =>
    rw [if_neg Bool.false_ne_true]
    exact wpAny_execs_nil ⟨σ1, H2, I2, q2⟩
end
structure It where
  go : Nat → Hp → Prop
  yld : Nat → Hp → V → Hp → Prop
  stop : Nat → Hp → Prop
def FpOk (X : Cx) (pins : List (Addr × Obj)) (H : Hp) (b : Addr) : Prop :=
  H b = none ∧ b ≠ X.env.locals ∧ b ∉ X.fs ∧ (b ∈ X.ex ∨ X.s₀.heap.objs.size ≤ b) ∧ (∀ x c, X.env.cells.lookup x = some c → c ≠ b) ∧ ∀ p ∈ X.pn ++ pins, p.1 ≠ b
theorem Inv.fpOk {X : Cx} {pins : List (Addr × Obj)} {σ : St} {H H' : Hp} {s : Shared} {b : Addr} (I : Inv X pins σ H s) (hb : s.heap.objs.size ≤ b) (hn : H' b = none) : FpOk X pins H' b := by
  refine ⟨hn, Nat.ne_of_gt (Nat.lt_of_lt_of_le I.lt hb), I.nofs hb, .inr (Nat.le_trans I.sz hb), fun x c e z => ?_, fun p hp z => ?_⟩
  · obtain ⟨v, q⟩ := I.cell x c e
    exact absurd (Nat.lt_of_lt_of_le q.lt (by rw [z]; exact hb)) (Nat.lt_irrefl _)
  · exact absurd (Nat.lt_of_lt_of_le (Heap.lt_size (I.pin p hp).1) (by rw [z]; exact hb)) (Nat.lt_irrefl _)
structure Turn (P : Program) (w : World) (K : PySem.W.Frag) (tg : Expr) (J : It) (fp : List Addr) (it : Addr) (tn : Nat → Heap → Prop) : Prop where
  mem : it ∈ fp
  obj : ∀ i h, tn i h → ∀ b ∈ fp, ∃ o, h.get? b = some o ∧ ∀ v, o.data ≠ .cell v
  keep : ∀ i h h', tn i h → (∀ b ∈ fp, ∀ o, h.get? b = some o → h'.get? b = some o) → tn i h'
  item : ∀ (X : Cx), X.prog = P → X.w = w → X.K = K → X.calm = true → ∀ (i : Nat) (pins : List (Addr × Obj)) (s : Shared) (σ : St) (H : Hp) (E : Value → Shared → Prop), Inv X pins σ H s → (∀ b ∈ fp, FpOk X pins H b) → tn i s.heap → J.go i H →
    wpAny (model P w) X.A (pyNext (.ref it)) (fun r s1 => ∃ u, r = some u ∧
      wpAny (model P w) X.A (letOwnedTupleGo tg (.ref it) u) (fun _ s2 => ∃ x H', Inv X pins σ H' s2 ∧ RelV x u ∧ J.yld i H x H' ∧ tn (i + 1) s2.heap ∧ ∀ b ∈ fp, H' b = none) E s1) E s
  done : ∀ (X : Cx), X.prog = P → X.w = w → X.K = K → X.calm = true → ∀ (i : Nat) (pins : List (Addr × Obj)) (s : Shared) (σ : St) (H : Hp) (E : Value → Shared → Prop), Inv X pins σ H s → (∀ b ∈ fp, FpOk X pins H b) → tn i s.heap → J.stop i H →
    wpAny (model P w) X.A (pyNext (.ref it)) (fun r s1 => r = none ∧ Inv X pins σ H s1) E s
  self : ∀ (A : Around) (i : Nat) (s : Shared) (Q : Value → Shared → Prop) (E : Value → Shared → Prop), tn i s.heap → Q (.ref it) s → wpAny (model P w) A (pyIter (.ref it)) Q E s
abbrev TI := St → Hp → (It → Hp → Prop) → Prop
def PIE (X : Cx) (pins : List (Addr × Obj)) (σ : St) (tg : Expr) (R : It → Hp → Prop) (itv : Value) (s2 : Shared) : Prop :=
  ∃ (it : Addr) (fp : List Addr) (tn : Nat → Heap → Prop) (J : It) (H' : Hp), itv = .ref it ∧ Inv X pins σ H' s2 ∧ Turn X.prog X.w X.K tg J fp it tn ∧ tn 0 s2.heap ∧ (∀ b ∈ fp, FpOk X pins H' b) ∧ R J H'
def PI (X : Cx) (tg iter : Expr) (wi : TI) : Prop :=
  ∀ (pins : List (Addr × Obj)) (s : Shared) (σ : St) (H : Hp) (R : It → Hp → Prop), Inv X pins σ H s → wi σ H R →
    wpAny (model X.prog X.w) X.A (eval iter X.env) (fun v s1 => wpAny (model X.prog X.w) X.A (pyIter v) (PIE X pins σ tg R) X.xe s1) X.xe s
theorem go_of {M : Model} {A : Around} {E : Value → Shared → Prop} {s : Shared} {tg : Expr} {it : Addr} {u : Value} {o : Obj} {n : String} {vs : Array Value} {Q : Unit → Shared → Prop} (ho : s.heap.get? it = some o) (hc : o.cls = .type n) (hd : o.data = .fields vs)
    (hn : ["enumerate", "zip", "dict_itemiterator", "dict_reverseitemiterator", "odict_iterator", "itertools.zip_longest", "itertools.pairwise"].contains n = false) (hQ : Q () s) : wpAny M A (letOwnedTupleGo tg (.ref it) u) Q E s := by
  unfold letOwnedTupleGo
  cases tg <;> first
    | exact wpAny_pure hQ
    | (cases u <;> first
        | exact wpAny_pure hQ
        | (refine wpAny_bind (wpAny_load ho ?_)
           rw [hc, hd]
           show wpAny M A (if (["enumerate", "zip", "dict_itemiterator", "dict_reverseitemiterator", "odict_iterator", "itertools.zip_longest", "itertools.pairwise"].contains n && vs[0]? == some (rawInt _)) = true then _ else _) Q E s
           rw [if_neg (by intro h; rw [hn, Bool.false_and] at h; cases h)]
           exact wpAny_pure hQ))
def Itl (K : PySem.W.Frag) (a : Addr) : It :=
  ⟨fun i H => ∃ xs x, SqL K H a xs ∧ xs[i]? = some x, fun i H x H' => H' = H ∧ ∀ xs, SqL K H a xs → xs[i]? = some x, fun i H => ∃ xs, SqL K H a xs ∧ xs.length ≤ i⟩
def Itt (K : PySem.W.Frag) (a : Addr) : It :=
  ⟨fun i H => ∃ xs x, SqT K H a xs ∧ xs[i]? = some x, fun i H x H' => H' = H ∧ ∀ xs, SqT K H a xs → xs[i]? = some x, fun i H => ∃ xs, SqT K H a xs ∧ xs.length ≤ i⟩
theorem turn_list {P : Program} {w : World} {K : PySem.W.Frag} {tg : Expr} (a it : Addr) : Turn P w K tg (Itl K a) [it] it (fun i h => h.IsListIter it a i) where
  mem := by simp
  obj := fun i h st b hb => by
    have e : b = it := by simpa using hb
    subst e
    obtain ⟨o, e, c, d⟩ := st
    exact ⟨o, e, fun v z => by rw [d] at z; cases z⟩
  keep := fun i h h' st k => st.at fun o e => k it (by simp) o e
  item := by
    intro X hP hw hK hc i pins s σ H E I hf st hg
    subst hP hw hK
    obtain ⟨xs, x, hq, hx⟩ := hg
    obtain ⟨its, rv, p, hz⟩ := I.list hq
    obtain ⟨u, hu, ru⟩ := rv.get hx
    obtain ⟨f0, f1, f2, f3, f4, f5⟩ := hf it (by simp)
    refine wpAny_pyNext_list_item st p.isList (x := u) (by simpa using hu) fun h' st' sb => ?_
    have I1 : Inv X pins σ H { s with heap := h' } := I.turned (t' := s.toks) (fun b o hb e => (sb.2 b hb).trans e) f0 f1 f3 f4 f5
    obtain ⟨o, e, c, d⟩ := id st'
    exact ⟨u, rfl, go_of (s := { s with heap := h' }) e c d (by decide) ⟨x, H, I1, ru, ⟨rfl, fun ys hy => by rw [I.list_inj hy hq]; exact hx⟩, st', fun b hb => (hf b hb).1⟩⟩
  done := by
    intro X hP hw hK hc i pins s σ H E I hf st hg
    subst hP hw hK
    obtain ⟨xs, hq, hx⟩ := hg
    obtain ⟨its, rv, p, hz⟩ := I.list hq
    obtain ⟨f0, f1, f2, f3, f4, f5⟩ := hf it (by simp)
    have hl := rv.length
    exact wpAny_pyNext_list_end (I.ok.hd hc) st p.isList (by simp; omega) fun h' eb => ⟨rfl, I.turned (t' := s.toks) (fun b o hb e => eb b o hb e) f0 f1 f3 f4 f5⟩
  self := fun _ _ _ _ _ st h => wpAny_pyIter_listiter st h
theorem turn_tuple {P : Program} {w : World} {K : PySem.W.Frag} {tg : Expr} (a it : Addr) : Turn P w K tg (Itt K a) [it] it (fun i h => h.IsTupleIter it a i) where
  mem := by simp
  obj := fun i h st b hb => by
    have e : b = it := by simpa using hb
    subst e
    obtain ⟨o, e, c, d⟩ := st
    exact ⟨o, e, fun v z => by rw [d] at z; cases z⟩
  keep := fun i h h' st k => st.at fun o e => k it (by simp) o e
  item := by
    intro X hP hw hK hc i pins s σ H E I hf st hg
    subst hP hw hK
    obtain ⟨xs, x, hq, hx⟩ := hg
    obtain ⟨its, rv, p, hz⟩ := I.tuple hq
    obtain ⟨u, hu, ru⟩ := rv.get hx
    obtain ⟨f0, f1, f2, f3, f4, f5⟩ := hf it (by simp)
    refine wpAny_pyNext_tuple_item st (show s.heap.IsTuple a its.toArray from p) (x := u) (by simpa using hu) fun h' st' sb => ?_
    have I1 : Inv X pins σ H { s with heap := h' } := I.turned (t' := s.toks) (fun b o hb e => (sb.2 b hb).trans e) f0 f1 f3 f4 f5
    obtain ⟨o, e, c, d⟩ := id st'
    exact ⟨u, rfl, go_of (s := { s with heap := h' }) e c d (by decide) ⟨x, H, I1, ru, ⟨rfl, fun ys hy => by rw [I.tuple_inj hy hq]; exact hx⟩, st', fun b hb => (hf b hb).1⟩⟩
  done := by
    intro X hP hw hK hc i pins s σ H E I hf st hg
    subst hP hw hK
    obtain ⟨xs, hq, hx⟩ := hg
    obtain ⟨its, rv, p, hz⟩ := I.tuple hq
    obtain ⟨f0, f1, f2, f3, f4, f5⟩ := hf it (by simp)
    have hl := rv.length
    exact wpAny_pyNext_tuple_end (I.ok.hd hc) st (show s.heap.IsTuple a its.toArray from p) (by simp; omega) fun h' eb => ⟨rfl, I.turned (t' := s.toks) (fun b o hb e => eb b o hb e) f0 f1 f3 f4 f5⟩
  self := fun _ _ _ _ _ st h => wpAny_pyIter_tupleiter st h
end L2
namespace L2
open PySem PySem.Spec PyProof.Rows
section
variable {X : Cx} {tg : Expr}
def iList (K : PySem.W.Frag) (tl : TE) : TI := fun σ H R => tl σ H fun x H1 => ∃ a, x = .ref a ∧ (∃ xs, SqL K H1 a xs) ∧ R (Itl K a) H1
def iTup (K : PySem.W.Frag) (tl : TE) : TI := fun σ H R => tl σ H fun x H1 => ∃ a, x = .ref a ∧ (∃ xs, SqT K H1 a xs) ∧ R (Itt K a) H1
theorem pi_list {l : Expr} {tl : TE} (hl : PE X l tl) : PI X tg l (iList X.K tl) := by
  intro pins s σ H R I h
  refine thn (hl pins s σ H _ I h) fun v s1 ⟨x, H1, I1, r1, q1⟩ => ?_
  obtain ⟨a, e, ⟨xs, hq⟩, q⟩ := q1
  subst e
  cases r1
  obtain ⟨its, rv, p, hz⟩ := I1.list hq
  refine wpAny_pyIter_list p.isList ?_
  refine ⟨s1.heap.objs.size, [s1.heap.objs.size], _, _, H1, rfl, I1.kept (t' := s1.toks) fun b o e => Heap.get?_push_of_some _ e, turn_list a _, ⟨_, Heap.get?_push_size _ rfl, rfl, rfl⟩, fun b hb => ?_, q⟩
  have e : b = s1.heap.objs.size := by simpa using hb
  subst e
  exact I1.fpOk (Nat.le_refl _) (I1.hok.fresh (Nat.le_refl _))
theorem pi_tup {l : Expr} {tl : TE} (hl : PE X l tl) : PI X tg l (iTup X.K tl) := by
  intro pins s σ H R I h
  refine thn (hl pins s σ H _ I h) fun v s1 ⟨x, H1, I1, r1, q1⟩ => ?_
  obtain ⟨a, e, ⟨xs, hq⟩, q⟩ := q1
  subst e
  cases r1
  obtain ⟨its, rv, p, hz⟩ := I1.tuple hq
  refine wpAny_pyIter_tuple (show s1.heap.IsTuple a its.toArray from p) ?_
  refine ⟨s1.heap.objs.size, [s1.heap.objs.size], _, _, H1, rfl, I1.kept (t' := s1.toks) fun b o e => Heap.get?_push_of_some _ e, turn_tuple a _, ⟨_, Heap.get?_push_size _ rfl, rfl, rfl⟩, fun b hb => ?_, q⟩
  have e : b = s1.heap.objs.size := by simpa using hb
  subst e
  exact I1.fpOk (Nat.le_refl _) (I1.hok.fresh (Nat.le_refl _))
def tFor (wi : TI) (g : TG) (tb : TS) : TS := fun D σ H => wi σ H fun J H1 => ∃ W : Nat → Nat → St → Hp → Prop, (∃ m, W 0 m σ H1) ∧ ∀ i m σ H, W i m σ H →
  (J.stop i H ∧ D.nx σ H) ∨ (J.go i H ∧ ∃ N : St → Hp → Prop, (∀ σ' H', N σ' H' → ∃ m', m' < m ∧ W (i + 1) m' σ' H') ∧ ∀ x H', J.yld i H x H' → g x σ H' fun σ2 H2 => tb { D with nx := N, ct := N, bk := D.nx } σ2 H2)
def pinsAt (fp : List Addr) (h : Heap) : List (Addr × Obj) := fp.filterMap fun b => (h.get? b).map fun o => (b, o)
theorem mem_pinsAt {fp : List Addr} {h : Heap} {b : Addr} {o : Obj} (hb : b ∈ fp) (e : h.get? b = some o) : (b, o) ∈ pinsAt fp h := List.mem_filterMap.mpr ⟨b, hb, by rw [e]; rfl⟩
theorem of_pinsAt {fp : List Addr} {h : Heap} {p : Addr × Obj} (hp : p ∈ pinsAt fp h) : p.1 ∈ fp ∧ h.get? p.1 = some p.2 := by
  obtain ⟨b, hb, e⟩ := List.mem_filterMap.mp hp
  cases q : h.get? b with
  | none => rw [q] at e; cases e
  | some o =>
    rw [q] at e
    have e' : (b, o) = p := Option.some.inj e
    subst e'
    exact ⟨hb, q⟩
theorem Inv.pinned {pins : List (Addr × Obj)} {σ : St} {H : Hp} {s : Shared} {fp : List Addr} (I : Inv X pins σ H s) (hf : ∀ b ∈ fp, FpOk X pins H b) (ho : ∀ b ∈ fp, ∃ o, s.heap.get? b = some o ∧ ∀ v, o.data ≠ .cell v) : Inv X (pins ++ pinsAt fp s.heap) σ H s :=
  I.pins_of fun p hp => (List.mem_append.mp hp).elim (fun z => I.pin p (List.mem_append_right _ z)) fun z => by
    obtain ⟨hb, e⟩ := of_pinsAt z
    obtain ⟨f0, f1, f2, _⟩ := hf p.1 hb
    obtain ⟨o, e', d⟩ := ho p.1 hb
    rw [e] at e'; cases e'
    exact ⟨e, f0, f1, f2, d⟩
theorem Inv.unpinned {pins pl : List (Addr × Obj)} {σ : St} {H : Hp} {s : Shared} (I : Inv X (pins ++ pl) σ H s) : Inv X pins σ H s := I.pins_of fun p hp => I.pin p (List.mem_append_right _ (List.mem_append_left _ hp))
theorem ps_for {iter : Expr} {body : List Stmt} {wi : TI} {g : TG} {tb : TS} {pos : Pos} (hp : PassesOwn (model X.prog X.w) X.A X.env X.xe) (hc : X.calm = true) (hi : PI X tg iter wi) (hg : PG X tg g) (hb : PSs X body tb)
    (hs : ∀ x, foldedSetIterable iter X.env x = pure x := by intro _; rfl) : PS X (.For tg iter body [] pos) (tFor wi g tb) := by
  intro pins s σ H D I h
  refine wpAny_For (thn (hi pins s σ H _ I h) fun v s1 h1 => thn h1 fun itv s2 h2 => ?_) hs
  obtain ⟨it, fp, tn, J, H2, e, I2, T, st2, f2, W, ⟨m0, w0⟩, turn⟩ := h2
  subst e
  -- what stays true of the iterator's objects through the loop
  have stat : ∀ {H' : Hp}, (∀ b ∈ fp, H' b = none) → ∀ b ∈ fp, FpOk X pins H' b := fun hn b hb => ⟨hn b hb, (f2 b hb).2⟩
  refine codeAny_forLoop_any (fun n s' => ∃ i σ' H', Inv X pins σ' H' s' ∧ tn i s'.heap ∧ (∀ b ∈ fp, H' b = none) ∧ W i n σ' H') ?_ m0 ⟨0, σ, H2, I2, st2, fun b hb => (f2 b hb).1, w0⟩
  rintro n s3 ⟨i, σ3, H3, I3, st3, fr3, w3⟩
  rcases turn i n σ3 H3 w3 with ⟨stop, qn⟩ | ⟨go, N, hN, step⟩
  · refine wpAny_passesOwn hp (thn (T.done X rfl rfl rfl hc i pins s3 σ3 H3 X.xe I3 (stat fr3) st3 stop) fun r s4 ⟨hr, I4⟩ => ?_)
    subst hr
    exact wpAny_execs_nil ⟨σ3, H3, I4, qn⟩
  · refine wpAny_passesOwn hp (thn (T.item X rfl rfl rfl hc i pins s3 σ3 H3 X.xe I3 (stat fr3) st3 go) fun r s4 ⟨u, hr, h4⟩ => ?_)
    subst hr
    refine wpAny_passesOwn hp (thn h4 fun _ s5 ⟨x, H5, I5, r5, y5, st5, fr5⟩ => ?_)
    have I5' := I5.pinned (stat fr5) (T.obj _ _ st5)
    refine wpAny_passesOwn hp (thn (hg _ s5 σ3 H5 x u _ I5' r5 (step x H5 y5)) fun _ s6 ⟨σ6, H6, I6, q6⟩ => ?_)
    refine wpAny_passesOwn hp (thn (hb _ s6 σ6 H6 _ I6 q6) fun f s7 q7 => ?_)
    have again : ∀ {σ7 : St} {H7 : Hp}, Inv X (pins ++ pinsAt fp s5.heap) σ7 H7 s7 → N σ7 H7 → ∃ m, m < n ∧ ∃ i σ' H', Inv X pins σ' H' s7 ∧ tn i s7.heap ∧ (∀ b ∈ fp, H' b = none) ∧ W i m σ' H' := fun {σ7 H7} I7 n7 => by
      obtain ⟨m', hm, w7⟩ := hN σ7 H7 n7
      refine ⟨m', hm, i + 1, σ7, H7, I7.unpinned, T.keep _ _ _ st5 fun b hb o e => (I7.pin (b, o) (List.mem_append_right _ (List.mem_append_right _ (mem_pinsAt hb e)))).1, fun b hb => ?_, w7⟩
      obtain ⟨o, e, d⟩ := T.obj _ _ st5 b hb
      exact (I7.pin (b, o) (List.mem_append_right _ (List.mem_append_right _ (mem_pinsAt hb e)))).2.1
    cases f with
    | next => obtain ⟨σ7, H7, I7, n7⟩ := q7; exact again I7 n7
    | cont => obtain ⟨σ7, H7, I7, n7⟩ := q7; exact again I7 n7
    | brk => obtain ⟨σ7, H7, I7, q7⟩ := q7; exact ⟨σ7, H7, I7.unpinned, q7⟩
    | ret v => obtain ⟨x7, σ7, H7, I7, r7, q7⟩ := q7; exact ⟨x7, σ7, H7, I7.unpinned, r7, q7⟩
end
end L2
namespace L2
open PySem PySem.Spec PyProof.Rows
abbrev R2 := V → V → Hp → VK → Prop
def OpR (X : Cx) (f : Value → Value → Sem Value) (r : R2) : Prop :=
  ∀ (pins : List (Addr × Obj)) (s : Shared) (σ : St) (H : Hp) (x y : V) (v u : Value) (Q : VK), Inv X pins σ H s → RelV x v → RelV y u → r x y H Q →
    wpAny (model X.prog X.w) X.A (f v u) (EP X pins σ Q) X.xe s
def UnR (X : Cx) (f : Value → Sem Value) (r : V → Hp → VK → Prop) : Prop :=
  ∀ (pins : List (Addr × Obj)) (s : Shared) (σ : St) (H : Hp) (x : V) (v : Value) (Q : VK), Inv X pins σ H s → RelV x v → r x H Q →
    wpAny (model X.prog X.w) X.A (f v) (EP X pins σ Q) X.xe s
def CallR (X : Cx) (f : Value) (r : List V → Hp → VK → Prop) : Prop :=
  ∀ (pins : List (Addr × Obj)) (s : Shared) (σ : St) (H : Hp) (xs : List V) (us : List Value) (Q : VK), Inv X pins σ H s → Vals xs us → r xs H Q →
    wpAny (model X.prog X.w) X.A (call f us) (EP X pins σ Q) X.xe s
def TruR (X : Cx) (r : V → Hp → (Bool → Hp → Prop) → Prop) : Prop :=
  ∀ (pins : List (Addr × Obj)) (s : Shared) (σ : St) (H : Hp) (x : V) (v : Value) (Q : Bool → Hp → Prop), Inv X pins σ H s → RelV x v → r x H Q →
    wpAny (model X.prog X.w) X.A (truthy v) (TP X pins σ Q) X.xe s
def tOp (r : R2) (ta tb : TE) : TE := fun σ H Q => ta σ H fun x H1 => tb σ H1 fun y H2 => r x y H2 Q
def tUn (r : V → Hp → VK → Prop) (ta : TE) : TE := fun σ H Q => ta σ H fun x H1 => r x H1 Q
def rI (C : Int → Int → Prop) (g : Int → Int → V) : R2 := fun x y H Q => ∃ i j, x = .int i ∧ y = .int j ∧ C i j ∧ Q (g i j) H
def rI0 (g : Int → Int → V) : R2 := fun x y H Q => ∃ i j, x = .int i ∧ y = .int j ∧ Q (g i j) H
def rU (g : Int → V) : V → Hp → VK → Prop := fun x H Q => ∃ i, x = .int i ∧ Q (g i) H
section
variable {X : Cx} {a b c : Expr} {ta tb tc : TE} {pos : Pos}
theorem binT (ha : PE X a ta) (hb : PE X b tb) {pins : List (Addr × Obj)} {s : Shared} {σ : St} {H : Hp} {R : V → V → Hp → Prop} (I : Inv X pins σ H s)
    (h : ta σ H fun x H1 => tb σ H1 fun y H2 => R x y H2) {Q : Value → Shared → Prop} {f : Value → Value → Sem Value}
    (hf : ∀ v u s2 x y H2, Inv X pins σ H2 s2 → RelV x v → RelV y u → R x y H2 → wpAny (model X.prog X.w) X.A (f v u) Q X.xe s2) :
    wpAny (model X.prog X.w) X.A (eval a X.env) (fun v s₁ => wpAny (model X.prog X.w) X.A (eval b X.env) (fun u s₂ => wpAny (model X.prog X.w) X.A (f v u) Q X.xe s₂) X.xe s₁) X.xe s := by
  refine thn (ha pins s σ H _ I h) fun v s1 ⟨x, H1, I1, r1, q1⟩ => ?_
  refine thn (hb pins s1 σ H1 _ I1 q1) fun u s2 ⟨y, H2, I2, r2, q2⟩ => ?_
  exact hf v u s2 x y H2 I2 r1 r2 q2
theorem pe_op {op : Operator} {r : R2} (ho : OpR X (binaryOp op) r) (ha : PE X a ta) (hb : PE X b tb) : PE X (.BinOp a op b pos) (tOp r ta tb) := by
  intro pins s σ H Q I h
  exact wpAny_BinOp (binT ha hb I h fun v u s2 x y H2 I2 rx ry q => ho pins s2 σ H2 x y v u Q I2 rx ry q)
theorem pe_un {op : UnaryOp} {r : V → Hp → VK → Prop} (ho : UnR X (unaryOp op) r) (ha : PE X a ta) : PE X (.UnaryOp op a pos) (tUn r ta) := by
  intro pins s σ H Q I h
  exact UnaryOp_ (thn (ha pins s σ H _ I h) fun v s1 ⟨x, H1, I1, r1, q1⟩ => ho pins s1 σ H1 x v Q I1 r1 q1)
theorem opI {f : Value → Value → Sem Value} {C : Int → Int → Prop} {g : Int → Int → Int}
    (rule : ∀ (i j : Int) (t u : Tok) (s : Shared) (Q : Value → Shared → Prop) (E : Value → Shared → Prop), C i j → Q (.int (g i j) s.toks) { s with toks := s.toks + 1 } → wpAny (model X.prog X.w) X.A (f (.int i t) (.int j u)) Q E s) :
    OpR X f (rI C fun i j => .int (g i j)) := by
  intro pins s σ H x y v u Q I rx ry h
  obtain ⟨i, j, rfl, rfl, hc, q⟩ := h
  obtain ⟨t, rfl⟩ := rx
  obtain ⟨t', rfl⟩ := ry
  exact rule i j t t' s _ _ hc ⟨.int (g i j), H, I.tok _, ⟨_, rfl⟩, q⟩
theorem opI0 {f : Value → Value → Sem Value} {g : Int → Int → Int}
    (rule : ∀ (i j : Int) (t u : Tok) (s : Shared) (Q : Value → Shared → Prop) (E : Value → Shared → Prop), Q (.int (g i j) s.toks) { s with toks := s.toks + 1 } → wpAny (model X.prog X.w) X.A (f (.int i t) (.int j u)) Q E s) :
    OpR X f (rI0 fun i j => .int (g i j)) := by
  intro pins s σ H x y v u Q I rx ry h
  obtain ⟨i, j, rfl, rfl, q⟩ := h
  obtain ⟨t, rfl⟩ := rx
  obtain ⟨t', rfl⟩ := ry
  exact rule i j t t' s _ _ ⟨.int (g i j), H, I.tok _, ⟨_, rfl⟩, q⟩
theorem opB0 {f : Value → Value → Sem Value} {g : Int → Int → Bool}
    (rule : ∀ (i j : Int) (t u : Tok) (s : Shared) (Q : Value → Shared → Prop) (E : Value → Shared → Prop), Q (.bool (g i j)) s → wpAny (model X.prog X.w) X.A (f (.int i t) (.int j u)) Q E s) :
    OpR X f (rI0 fun i j => .bl (g i j)) := by
  intro pins s σ H x y v u Q I rx ry h
  obtain ⟨i, j, rfl, rfl, q⟩ := h
  obtain ⟨t, rfl⟩ := rx
  obtain ⟨t', rfl⟩ := ry
  exact rule i j t t' s _ _ ⟨.bl (g i j), H, I, rfl, q⟩
theorem op_add : OpR X (binaryOp .Add) (rI0 fun i j => .int (i + j)) := opI0 fun _ _ _ _ _ _ _ q => add_int q
theorem op_sub : OpR X (binaryOp .Sub) (rI0 fun i j => .int (i - j)) := opI0 fun _ _ _ _ _ _ _ q => sub_int q
theorem op_mod : OpR X (binaryOp .Mod) (rI (fun _ j => 0 < j) fun i j => .int (i % j)) := opI fun i j _ _ _ _ _ hc q => by
  have h1 : (0 : Int) < j := hc
  exact mod_int' (by omega) (by rw [Int.fmod_eq_emod_of_nonneg i (by omega)]; exact q)
theorem unI {f : Value → Sem Value} {g : Int → Int}
    (rule : ∀ (i : Int) (t : Tok) (s : Shared) (Q : Value → Shared → Prop) (E : Value → Shared → Prop), Q (.int (g i) s.toks) { s with toks := s.toks + 1 } → wpAny (model X.prog X.w) X.A (f (.int i t)) Q E s) :
    UnR X f (rU fun i => .int (g i)) := by
  intro pins s σ H x v Q I rx h
  obtain ⟨i, rfl, q⟩ := h
  obtain ⟨t, rfl⟩ := rx
  exact rule i t s _ _ ⟨.int (g i), H, I.tok _, ⟨_, rfl⟩, q⟩
theorem un_neg : UnR X (unaryOp .USub) (rU fun i => .int (-i)) := unI fun _ _ _ _ _ q => neg_int q
end
def scal : V → V → Bool
  | .non, .non => true | .non, .int _ => true | .int _, .non => true | .non, .bl _ => true | .bl _, .non => true | .non, .str _ => true | .str _, .non => true
  | .int _, .int _ => true | .bl _, .bl _ => true | .str _, .str _ => true | .byt _, .byt _ => true
  | .int _, .str _ => true | .str _, .int _ => true | .bl _, .str _ => true | .str _, .bl _ => true
  | _, _ => false
def rEq : R2 := fun x y H Q => scal x y = true ∧ Q (.bl (decide (x = y))) H
def rNe : R2 := fun x y H Q => scal x y = true ∧ Q (.bl (!decide (x = y))) H
theorem dec_int {i j : Int} : decide (V.int i = V.int j) = (i == j) := by
  rw [Bool.eq_iff_iff]
  simp
theorem dec_bl {i j : Bool} : decide (V.bl i = V.bl j) = (i == j) := by
  rw [Bool.eq_iff_iff]
  simp
theorem dec_str {i j : Str} : decide (V.str i = V.str j) = (i == j) := by
  rw [Bool.eq_iff_iff]
  simp
theorem dec_byt {i j : Array UInt8} : decide (V.byt i = V.byt j) = (i.toList == j.toList) := by
  rw [Bool.eq_iff_iff]
  cases i
  cases j
  simp
section
variable {X : Cx} {a b c : Expr} {ta tb tc : TE} {pos : Pos}
theorem fin_bl {pins : List (Addr × Obj)} {σ : St} {H : Hp} {s : Shared} {Q : VK} {k k' : Bool} (I : Inv X pins σ H s) (q : Q (.bl k) H) (e : k = k') : EP X pins σ Q (.bool k') s := by
  subst e
  exact ⟨.bl k, H, I, rfl, q⟩
theorem op_eq : OpR X (compareOp .Eq) rEq := by
  intro pins s σ H x y v u Q I rx ry h
  obtain ⟨hs, q⟩ := h
  cases x with
  | non =>
    cases rx
    cases y with
    | non => cases ry; exact PySem.EqNone.eq_none_none (fin_bl I q (by simp))
    | bl j => cases ry; exact PySem.EqNone.eq_none_bool (fin_bl I q (by simp))
    | int j => obtain ⟨t', rfl⟩ := ry; exact PySem.EqNone.eq_none_int (fin_bl I q (by simp))
    | str j => obtain ⟨t', rfl⟩ := ry; exact PySem.EqNone.eq_none_str (fin_bl I q (by simp))
    | _ => exact absurd (show false = true from hs) Bool.false_ne_true
  | bl i =>
    cases rx
    cases y with
    | non => cases ry; exact PySem.EqNone.eq_bool_none (fin_bl I q (by simp))
    | bl j => cases ry; exact eq_bool (fin_bl I q dec_bl)
    | str j => obtain ⟨t', rfl⟩ := ry; exact PySem.EqMixed.eq_bool_str (fin_bl I q (by simp))
    | _ => exact absurd (show false = true from hs) Bool.false_ne_true
  | int i =>
    obtain ⟨t, rfl⟩ := rx
    cases y with
    | non => cases ry; exact PySem.EqNone.eq_int_none (fin_bl I q (by simp))
    | int j => obtain ⟨t', rfl⟩ := ry; exact eq_int (fin_bl I q dec_int)
    | str j => obtain ⟨t', rfl⟩ := ry; exact PySem.EqMixed.eq_int_str (fin_bl I q (by simp))
    | _ => exact absurd (show false = true from hs) Bool.false_ne_true
  | str i =>
    obtain ⟨t, rfl⟩ := rx
    cases y with
    | non => cases ry; exact PySem.EqNone.eq_str_none (fin_bl I q (by simp))
    | bl j => cases ry; exact PySem.EqMixed.eq_str_bool (fin_bl I q (by simp))
    | int j => obtain ⟨t', rfl⟩ := ry; exact PySem.EqMixed.eq_str_int (fin_bl I q (by simp))
    | str j => obtain ⟨t', rfl⟩ := ry; exact eq_str (fin_bl I q dec_str)
    | _ => exact absurd (show false = true from hs) Bool.false_ne_true
  | byt i =>
    obtain ⟨t, rfl⟩ := rx
    cases y with
    | byt j => obtain ⟨t', rfl⟩ := ry; exact PySem.W.eq_bytes (fin_bl I q dec_byt)
    | _ => exact absurd (show false = true from hs) Bool.false_ne_true
  | _ => cases y <;> exact absurd (show false = true from hs) Bool.false_ne_true
theorem op_ne : OpR X (compareOp .NotEq) rNe := by
  intro pins s σ H x y v u Q I rx ry h
  obtain ⟨hs, q⟩ := h
  cases x with
  | non =>
    cases rx
    cases y with
    | non => cases ry; exact PySem.EqNone.ne_none_none (fin_bl I q (by simp))
    | bl j => cases ry; exact PySem.EqNone.ne_none_bool (fin_bl I q (by simp))
    | int j => obtain ⟨t', rfl⟩ := ry; exact PySem.EqNone.ne_none_int (fin_bl I q (by simp))
    | str j => obtain ⟨t', rfl⟩ := ry; exact PySem.EqNone.ne_none_str (fin_bl I q (by simp))
    | _ => exact absurd (show false = true from hs) Bool.false_ne_true
  | bl i =>
    cases rx
    cases y with
    | non => cases ry; exact PySem.EqNone.ne_bool_none (fin_bl I q (by simp))
    | bl j => cases ry; exact ne_bool (fin_bl I q (congrArg not dec_bl))
    | str j => obtain ⟨t', rfl⟩ := ry; exact PySem.EqMixed.ne_bool_str (fin_bl I q (by simp))
    | _ => exact absurd (show false = true from hs) Bool.false_ne_true
  | int i =>
    obtain ⟨t, rfl⟩ := rx
    cases y with
    | non => cases ry; exact PySem.EqNone.ne_int_none (fin_bl I q (by simp))
    | int j => obtain ⟨t', rfl⟩ := ry; exact ne_int (fin_bl I q (congrArg not dec_int))
    | str j => obtain ⟨t', rfl⟩ := ry; exact PySem.EqMixed.ne_int_str (fin_bl I q (by simp))
    | _ => exact absurd (show false = true from hs) Bool.false_ne_true
  | str i =>
    obtain ⟨t, rfl⟩ := rx
    cases y with
    | non => cases ry; exact PySem.EqNone.ne_str_none (fin_bl I q (by simp))
    | bl j => cases ry; exact PySem.EqMixed.ne_str_bool (fin_bl I q (by simp))
    | int j => obtain ⟨t', rfl⟩ := ry; exact PySem.EqMixed.ne_str_int (fin_bl I q (by simp))
    | str j => obtain ⟨t', rfl⟩ := ry; exact ne_str (fin_bl I q (congrArg not dec_str))
    | _ => exact absurd (show false = true from hs) Bool.false_ne_true
  | byt i =>
    obtain ⟨t, rfl⟩ := rx
    cases y with
    | byt j => obtain ⟨t', rfl⟩ := ry; exact PySem.W.ne_bytes (fin_bl I q (congrArg not dec_byt))
    | _ => exact absurd (show false = true from hs) Bool.false_ne_true
  | _ => cases y <;> exact absurd (show false = true from hs) Bool.false_ne_true
theorem op_lt : OpR X (compareOp .Lt) (rI0 fun i j => .bl (decide (i < j))) := opB0 fun _ _ _ _ _ _ _ q => lt_int q
theorem op_le : OpR X (compareOp .LtE) (rI0 fun i j => .bl (decide (i ≤ j))) := opB0 fun _ _ _ _ _ _ _ q => le_int q
theorem op_gt : OpR X (compareOp .Gt) (rI0 fun i j => .bl (decide (j < i))) := opB0 fun _ _ _ _ _ _ _ q => gt_int q
theorem op_ge : OpR X (compareOp .GtE) (rI0 fun i j => .bl (decide (j ≤ i))) := opB0 fun _ _ _ _ _ _ _ q => ge_int q
theorem op_isN : OpR X (compareOp .Is) (fun x y H Q => y = .non ∧ Q (.bl (decide (x = .non))) H) := by
  intro pins s σ H x y v u Q I rx ry h
  obtain ⟨rfl, q⟩ := h
  cases ry
  refine is_none_gen (fin_bl I q ?_)
  cases x <;> first
    | (cases rx; rfl)
    | (obtain ⟨t, rfl⟩ := rx; rfl)
theorem nomark (b : Expr) {op : CmpOp} (h : op ≠ .In := by decide) (h2 : op ≠ .NotIn := by decide) : behindInMarks op b = false := by
  have e1 : (op == CmpOp.In) = false := by cases op <;> first | rfl | exact absurd rfl h
  have e2 : (op == CmpOp.NotIn) = false := by cases op <;> first | rfl | exact absurd rfl h2
  cases b <;> simp [behindInMarks, e1, e2]
theorem pe_cmpR {op : CmpOp} {r : R2} (ho : OpR X (compareOp op) r) (ha : PE X a ta) (hb : PE X b tb) (hm : behindInMarks op b = false) : PE X (.Compare a [op] [b] pos) (tOp r ta tb) := by
  intro pins s σ H Q I h
  exact wpAny_Compare1 (binT ha hb I h fun v u s2 x y H2 I2 rx ry q => ho pins s2 σ H2 x y v u Q I2 rx ry q) hm
def tTest (t : TE) : TT := fun σ H Q => t σ H fun x H' => ∃ k, x = .bl k ∧ Q k H'
theorem pt_cmpR {op : CmpOp} {r : R2} (ho : OpR X (compareOp op) r) (ha : PE X a ta) (hb : PE X b tb) (hm : behindInMarks op b = false) : PT X (.Compare a [op] [b] pos) (tTest (tOp r ta tb)) := by
  intro pins s σ H Q I h
  refine wpAny_isTrue_Compare1 (thn (ha pins s σ H _ I h) fun v s1 ⟨x, H1, I1, r1, q1⟩ => thn (hb pins s1 σ H1 _ I1 q1) fun u s2 ⟨y, H2, I2, r2, q2⟩ =>
    thn (ho pins s2 σ H2 x y v u _ I2 r1 r2 q2) fun c s3 ⟨z, H3, I3, r3, k, e, q3⟩ => ?_) hm
  subst e
  cases r3
  exact wpAny_truthy_bool ⟨H3, I3, q3⟩
def TruV (K : PySem.W.Frag) (x : V) (H : Hp) (k : Bool) : Prop :=
  match x with
  | .non => k = false
  | .bl b => k = b
  | .int i => k = (i != 0)
  | .str y => y.length ≤ sizeLine ∧ k = ((y.length : Int) != 0)
  | .byt y => y.size ≤ sizeLine ∧ k = ((y.size : Int) != 0)
  | .ref p => (∃ xs, SqL K H p xs ∧ k = !xs.isEmpty) ∨ (∃ xs, SqT K H p xs ∧ k = !xs.isEmpty) ∨ ∃ kvs, H p = some (.dK kvs) ∧ k = !kvs.isEmpty
  | _ => False
theorem isEmpty_kv {κ : Type} {kvs : List (κ × V)} {vs : List (κ × Value)} (r : KV kvs vs) : (!vs.isEmpty) = !kvs.isEmpty := by
  cases r <;> rfl
theorem isEmpty_of {xs : List V} {its : List Value} (r : Vals xs its) : (!its.toArray.isEmpty) = !xs.isEmpty := by
  cases r <;> simp
theorem line63 : (sizeLine : Nat) < 2 ^ 63 := by rw [sizeLine_eq]; decide
theorem tru_ok : TruR X (fun x H Q => ∃ k, TruV X.K x H k ∧ Q k H) := by
  intro pins s σ H x v Q I rx h
  obtain ⟨k, e, q⟩ := h
  have hl := line63
  have hs : sizeLine = 16777216 := sizeLine_eq
  cases x with
  | non =>
    cases rx
    have e' : k = false := e
    subst e'
    exact truthy_none ⟨H, I, q⟩
  | bl b =>
    cases rx
    have e' : k = b := e
    subst e'
    exact wpAny_truthy_bool ⟨H, I, q⟩
  | int i =>
    obtain ⟨t, rfl⟩ := rx
    have e' : k = (i != 0) := e
    subst e'
    exact PySem.P.truthy_int ⟨H, I, q⟩
  | str y =>
    obtain ⟨t, rfl⟩ := rx
    obtain ⟨hy, e'⟩ : y.length ≤ sizeLine ∧ k = ((y.length : Int) != 0) := e
    subst e'
    exact PySem.P.truthy_str (by omega) ⟨H, I.tok _, q⟩
  | byt y =>
    obtain ⟨t, rfl⟩ := rx
    obtain ⟨hy, e'⟩ : y.size ≤ sizeLine ∧ k = ((y.size : Int) != 0) := e
    subst e'
    exact PySem.W.truthy_bytes (by omega) ⟨H, I.tok _, q⟩
  | ref p =>
    cases rx
    have e' : (∃ xs, SqL X.K H p xs ∧ k = !xs.isEmpty) ∨ (∃ xs, SqT X.K H p xs ∧ k = !xs.isEmpty) ∨ ∃ kvs, H p = some (.dK kvs) ∧ k = !kvs.isEmpty := e
    rcases e' with ⟨xs, hx, e'⟩ | ⟨xs, hx, e'⟩ | ⟨kvs, hx, e'⟩
    · subst e'
      obtain ⟨its, r, pl, hz⟩ := I.list hx
      have hlen := r.length
      exact wpAny_truthy_list pl.isList (by simp only [List.size_toArray]; omega) ⟨H, I.tok _, by rw [isEmpty_of r]; exact q⟩
    · subst e'
      obtain ⟨its, r, pl, hz⟩ := I.tuple hx
      have hlen := r.length
      exact truthy_tuple pl (by simp only [List.size_toArray]; omega) ⟨H, I.tok _, by rw [isEmpty_of r]; exact q⟩
    · subst e'
      obtain ⟨hz, hS, vs, r, m⟩ : kvs.length ≤ sizeLine ∧ (p == sysModules) = false ∧ ∃ vs, KV kvs vs ∧ s.heap.DictOf (mixKind X.prog X.w) p vs := I.hok p _ hx
      have hlen : kvs.length = vs.length := Paired.length r
      exact wpAny_truthy_dict hS m (by omega) ⟨H, I.tok _, by rw [isEmpty_kv r]; exact q⟩
  | _ => exact (show False from e).elim
theorem op_add_str : OpR X (binaryOp .Add) (fun x y H Q => ∃ i j, x = .str i ∧ y = .str j ∧ i.length + j.length ≤ sizeLine ∧ Q (.str (i ++ j)) H) := by
  intro pins s σ H x y v u Q I rx ry h
  obtain ⟨i, j, rfl, rfl, hz, q⟩ := h
  obtain ⟨t, rfl⟩ := rx
  obtain ⟨t', rfl⟩ := ry
  exact add_str (fun t' tk => ⟨.str (i ++ j), H, I.tok _, ⟨_, rfl⟩, q⟩) hz
theorem vals1 {x : V} {us : List Value} (r : Vals [x] us) : ∃ u, us = [u] ∧ RelV x u := by
  cases r with
  | cons r1 r2 => cases r2; exact ⟨_, rfl, r1⟩
theorem vals2 {x y : V} {us : List Value} (r : Vals [x, y] us) : ∃ u w', us = [u, w'] ∧ RelV x u ∧ RelV y w' := by
  cases r with
  | cons r1 r2 =>
    cases r2 with
    | cons r3 r4 => cases r4; exact ⟨_, _, rfl, r1, r3⟩
theorem call_abs : CallR X (.builtin "abs") (fun xs H Q => ∃ i, xs = [.int i] ∧ Q (.int (if i < 0 then -i else i)) H) := by
  intro pins s σ H xs us Q I r h
  obtain ⟨i, rfl, q⟩ := h
  obtain ⟨u, rfl, t, rfl⟩ := vals1 r
  exact call_abs_int fun u tk => ⟨.int (if i < 0 then -i else i), H, I.tok _, ⟨_, rfl⟩, q⟩
theorem call_str_int : CallR X (.type "str") (fun xs H Q => ∃ i, xs = [.int i] ∧ i.natAbs.log2 < 1920 ∧ Q (.str (toString i)) H) := by
  intro pins s σ H xs us Q I r h
  obtain ⟨i, rfl, hz, q⟩ := h
  obtain ⟨u, rfl, t, rfl⟩ := vals1 r
  exact PySem.P.str_of_int hz ⟨.str _, H, I.tok _, ⟨_, rfl⟩, q⟩
def LenV (K : PySem.W.Frag) (x : V) (H : Hp) (n : Nat) : Prop :=
  match x with
  | .str y => y.length ≤ sizeLine ∧ n = y.length
  | .byt y => y.size ≤ sizeLine ∧ n = y.size
  | .ref p => (∃ xs, SqL K H p xs ∧ n = xs.length) ∨ ∃ xs, SqT K H p xs ∧ n = xs.length
  | _ => False
theorem call_len : CallR X (.builtin "len") (fun xs H Q => ∃ x n, xs = [x] ∧ LenV X.K x H n ∧ Q (.int n) H) := by
  intro pins s σ H xs us Q I r h
  obtain ⟨x, n, rfl, e, q⟩ := h
  obtain ⟨u, rfl, rx⟩ := vals1 r
  have hl := line63
  have hs : sizeLine = 16777216 := sizeLine_eq
  cases x with
  | str y =>
    obtain ⟨t, rfl⟩ := rx
    obtain ⟨hy, e'⟩ : y.length ≤ sizeLine ∧ n = y.length := e
    subst e'
    exact len_str (by omega) ⟨.int _, H, I.tok _, ⟨_, rfl⟩, q⟩
  | byt y =>
    obtain ⟨t, rfl⟩ := rx
    obtain ⟨hy, e'⟩ : y.size ≤ sizeLine ∧ n = y.size := e
    subst e'
    exact PySem.W.len_bytes (by omega) ⟨.int _, H, I.tok _, ⟨_, rfl⟩, q⟩
  | ref p =>
    cases rx
    have e' : (∃ xs, SqL X.K H p xs ∧ n = xs.length) ∨ ∃ xs, SqT X.K H p xs ∧ n = xs.length := e
    rcases e' with ⟨xs, hx, e'⟩ | ⟨xs, hx, e'⟩
    · subst e'
      obtain ⟨its, r', pl, hz⟩ := I.list hx
      have hlen := r'.length
      exact Calls.call_len_list pl.isList (by simp only [List.size_toArray]; omega) ⟨.int xs.length, H, I.tok _, ⟨_, by simp only [List.size_toArray]; rw [hlen]⟩, q⟩
    · subst e'
      obtain ⟨its, r', pl, hz⟩ := I.tuple hx
      have hlen := r'.length
      exact len_tuple pl (by simp only [List.size_toArray]; omega) ⟨.int xs.length, H, I.tok _, ⟨_, by simp only [List.size_toArray]; rw [hlen]⟩, q⟩
  | _ => exact (show False from e).elim
end
end L2
namespace L2
open PySem PySem.Spec PyProof.Rows
structure ObjM (h : Heap) (x dx C : Addr) (mA : Str → Option Value) : Prop where
  obj : h.get? x = some (PySem.W.instObj C dx)
  ns : h.Ns1 dx mA
  ne : dx ≠ x
theorem lookIn_ns {h : Heap} {dx : Addr} {mA : Str → Option Value} (n : h.Ns1 dx mA) : ∃ od, h.get? dx = some od ∧ ∀ name, PySem.W.lookIn name od = some (mA name) := by
  obtain ⟨o, es, ep, ho, hd, hk, _, hm⟩ := n
  refine ⟨o, ho, fun name => ?_⟩
  have e := hm name
  unfold nsFind findBy at e
  rw [← Array.find?_toList] at e
  unfold PySem.W.lookIn
  rw [hd]
  dsimp only
  split
  · rename_i y q
    rw [q] at e
    exact congrArg some e
  · rename_i q
    rw [q] at e
    have a : es.toList.any (·.refKey) = false := by
      rw [List.any_eq_false]
      intro y hy
      obtain ⟨z, t, hkey⟩ := hk y (Array.mem_toList_iff.mp hy)
      simp [DictEntry.refKey, hkey]
    have a' : ¬ es.toList.any (·.refKey) = true := by rw [a]; exact Bool.false_ne_true
    rw [if_neg a']
    exact congrArg some e
theorem ObjM.look {h : Heap} {x dx C : Addr} {mA : Str → Option Value} (I : ObjM h x dx C mA) : ∃ od, PySem.W.InstAt h x (PySem.W.instObj C dx) C (some od) ∧ ∀ name, PySem.W.lookIn name od = some (mA name) :=
  let ⟨od, ho, hl⟩ := lookIn_ns I.ns
  ⟨od, ⟨I.obj, rfl, rfl, ho⟩, hl⟩
section
variable {prog : Program} {w : World} {A : Around} {E : Value → Shared → Prop} {s : Shared} {K : PySem.W.Frag} {x dx C f : Addr} {mA : Str → Option Value} {name : Str} {v : Value}
end
section
variable {P : Program} {w : World} {H H' : Hp} {h h' : Heap} {a C dx : Addr} {fs fs' : List (Str × V)}
theorem ins_get (hok : HOk P w H h) (e : H a = some (.ins C dx fs)) : ∃ mA, ObjM h a dx C mA ∧ (∀ f, RelO (fs.lookup f) (mA f)) ∧ PySem.Within mA (fs.map (·.1)) ∧ fs.length ≤ 1000 ∧ H dx = some (.own a) := by
  obtain ⟨d, z, ne, ob, mA, n, r, q⟩ := (show ObjOk P w H h a (.ins C dx fs) from hok a _ e)
  exact ⟨mA, ⟨ob, n, ne⟩, r, q, z, d⟩
end
structure Cls (K : PySem.W.Frag) (C : Addr) : Prop where
  pg : PySem.W.plainGet K C Str.empty = true
  hd : PySem.W.hasDictIn K C = true
  po : PySem.W.plainOver K C = true
  sa : PySem.W.findIn K (.ref C) "__setattr__" = some (some (.builtin "object.__setattr__"))
theorem Cls.get {K : PySem.W.Frag} {C : Addr} (c : Cls K C) (f : Str) : PySem.W.plainGet K C f = true := c.pg
section
variable {X : Cx} {pins : List (Addr × Obj)} {σ : St} {H : Hp} {s : Shared} {a C dx : Addr} {fs : List (Str × V)} {f : Str} {v : V} {A : Around} {E : Value → Shared → Prop}
end
section
variable {X : Cx} {o e value : Expr} {f : Str} {pos pos' tpos : Pos} {ta tv : TE}
end
section
variable {X : Cx} {pins : List (Addr × Obj)} {σ : St} {H : Hp} {s : Shared} {A : Around} {E : Value → Shared → Prop} {Q : Value → Shared → Prop} {c : Value} {b : Bool}
inductive TyOf (K : PySem.W.Frag) (H : Hp) : V → Value → Prop where
  | non : TyOf K H .non (.type "NoneType")
  | bl (x : Bool) : TyOf K H (.bl x) (.type "bool")
  | int (i : Int) : TyOf K H (.int i) (.type "int")
  | str (x : Str) : TyOf K H (.str x) (.type "str")
  | flt (x : UInt64) : TyOf K H (.flt x) (.type "float")
  | lst {a : Addr} {xs : List V} (e : H a = some (.lst xs)) : TyOf K H (.ref a) (.type "list")
  | frz {a : Addr} {o : Obj} {xs : List V} (e : H a = some (.frz o (.lst xs))) : TyOf K H (.ref a) (.type "list")
  | tup {a : Addr} {xs : List V} (e : H a = some (.tup xs)) : TyOf K H (.ref a) (.type "tuple")
  | dK {a : Addr} {kvs : List (Key × V)} (e : H a = some (.dK kvs)) : TyOf K H (.ref a) (.type "dict")
  | dT {a : Addr} {kvs : List (List Key × V)} (e : H a = some (.dT kvs)) : TyOf K H (.ref a) (.type "dict")
  | ins {a C dx : Addr} {fs : List (Str × V)} (e : H a = some (.ins C dx fs)) (cl : Cls K C) (ha : PySem.W.findIn K (.ref C) "__class__" = some (some (.builtin "object.__class__")))
      (hn : PySem.W.specialIn K (.builtin "object.__class__") "__get__" = some (some (.builtin "getset_descriptor.__get__"))) (htk : PySem.W.takesIn K (.builtin "object.__class__") = some true)
      (hm : PySem.W.mroIn K C (.type "object") = some true) : TyOf K H (.ref a) (.ref C)
theorem isinst_ok {x : V} {u t : Value} (I : Inv X pins σ H s) (rx : RelV x u) (ty : TyOf X.K H x t) (e : PySem.W.kitOne X.K t c = some b) (h : ∀ tk, Q (.bool b) { s with toks := tk }) :
    wpAny (model X.prog X.w) A (call (.builtin "isinstance") [u, c]) Q E s := by
  cases ty with
  | non => cases (show u = Value.none from rx); exact PySem.W.kia_one PySem.W.kitx_none I.kIn True.intro e (fun z => nomatch z) h
  | bl y => cases (show u = Value.bool y from rx); exact PySem.W.kia_one PySem.W.kitx_bool I.kIn True.intro e (fun z => nomatch z) h
  | int i => obtain ⟨t, q⟩ := (show ∃ t, u = Value.int i t from rx); cases q; exact PySem.W.kia_one PySem.W.kitx_int I.kIn True.intro e (fun z => nomatch z) h
  | str y => obtain ⟨t, q⟩ := (show ∃ t, u = Value.str y t from rx); cases q; exact PySem.W.kia_one PySem.W.kitx_str I.kIn True.intro e (fun z => nomatch z) h
  | flt y => obtain ⟨t, q⟩ := (show ∃ t, u = Value.float y t from rx); cases q; exact PySem.W.kia_one PySem.W.kitx_float I.kIn True.intro e (fun z => nomatch z) h
  | @lst a xs ea =>
    cases (show u = Value.ref a from rx)
    obtain ⟨_, _, n, _, h1⟩ := (show ObjOk X.prog X.w H s.heap a (.lst xs) from I.hok a _ ea)
    exact PySem.W.kia_one PySem.W.kitx_list I.kIn ⟨_, h1, rfl⟩ e (fun z => nomatch z) h
  | @frz a ob xs ea =>
    cases (show u = Value.ref a from rx)
    obtain ⟨_, _, _, n, _, h1⟩ := (show ObjOk X.prog X.w H s.heap a (.frz ob (.lst xs)) from I.hok a _ ea)
    exact PySem.W.kia_one PySem.W.kitx_list I.kIn ⟨_, h1, rfl⟩ e (fun z => nomatch z) h
  | @tup a xs ea =>
    cases (show u = Value.ref a from rx)
    obtain ⟨_, _, _, p⟩ := (show ObjOk X.prog X.w H s.heap a (.tup xs) from I.hok a _ ea)
    obtain ⟨o, h1, h2, _⟩ := p
    exact PySem.W.kia_one PySem.W.kitx_tuple I.kIn ⟨o, h1, h2⟩ e (fun z => nomatch z) h
  | @dK a kvs ea =>
    cases (show u = Value.ref a from rx)
    obtain ⟨_, _, vs, _, p⟩ := (show ObjOk X.prog X.w H s.heap a (.dK kvs) from I.hok a _ ea)
    obtain ⟨o, es, ep, h1, h2, _⟩ := p
    exact PySem.W.kia_one PySem.W.kitx_dict I.kIn ⟨o, h1, h2.1⟩ e (fun z => nomatch z) h
  | @dT a kvs ea =>
    cases (show u = Value.ref a from rx)
    obtain ⟨_, _, xs, _, o, es, ep, h1, h2, _⟩ := (show ObjOk X.prog X.w H s.heap a (.dT kvs) from I.hok a _ ea)
    exact PySem.W.kia_one PySem.W.kitx_dict I.kIn ⟨o, h1, h2.1⟩ e (fun z => nomatch z) h
  | @ins a C dx fs ea cl ha hn htk hm =>
    cases (show u = Value.ref a from rx)
    obtain ⟨mA, O, _⟩ := ins_get I.hok ea
    obtain ⟨od, J, _⟩ := O.look
    exact PySem.W.kia_one (PySem.W.kitx_own (cl.get _) cl.hd ha hn htk hm) I.kIn J e (fun z => nomatch z) h
end
end L2
namespace L2
open PySem PySem.Spec PyProof.Rows
structure Room (k : Nat) (A : Around) : Prop where
  hd : A.handled = none
  dp : A.depth + 3 * k + 5 < recursionLimit
  un : A.units + 16 * k + 200 < cLine
theorem Room.mono {j k : Nat} {A : Around} (r : Room k A) (h : j ≤ k) : Room j A := ⟨r.hd, by have := r.dp; omega, by have := r.un; omega⟩
theorem Room.deeper {k : Nat} {A : Around} (r : Room (k + 1) A) (env : Env) : Room k (A.deeper env) :=
  ⟨r.hd, by have := r.dp; show A.depth + 1 + 3 * k + 5 < _; omega, by have := r.un; show A.units + 3 + 16 * k + 200 < _; omega⟩
theorem Room.depth {k : Nat} {A : Around} (r : Room k A) : A.depth < recursionLimit := by have := r.dp; omega
theorem Room.units {k : Nat} {A : Around} (r : Room k A) : A.units + 64 < cLine := by have := r.un; omega
def tNil : TA := fun _ H Q => Q [] H
def tCons (ta : TE) (tr : TA) : TA := fun σ H Q => ta σ H fun x H1 => tr σ H1 fun xs H2 => Q (x :: xs) H2
section
variable {X : Cx} {e : Expr} {es : List Expr} {te : TE} {t : TA} {pos : Pos}
theorem pa_nil : PA X [] tNil := fun _ _ _ _ H Q I h => Calls.spliced_nil ⟨[], H, I, .nil, h⟩
theorem pa_cons (ha : PE X e te) (hr : PA X es t) (hs : starEach (e :: es) X.env = (false, eval e X.env) :: starEach es X.env := by rfl) : PA X (e :: es) (tCons te t) := by
  intro pos pins s σ H Q I h
  rw [hs]
  show wpAny _ _ (spliced ((false, eval e X.env) :: backTo pos (starEach es X.env))) _ _ s
  refine Calls.spliced_cons (thn (ha pins s σ H _ I h) fun u s1 ⟨x, H1, I1, r1, q1⟩ => ?_)
  exact thn (hr pos pins s1 σ H1 _ I1 q1) fun us s2 ⟨xs, H2, I2, r2, q2⟩ => ⟨x :: xs, H2, I2, .cons r1 r2, q2⟩
def tTup (t : TA) : TE := fun σ H Q => t σ H fun xs H1 => xs.length ≤ sizeLine ∧ ∀ p, H1 p = none → Q (.ref p) (upd H1 p (.tup xs))
def tLst (t : TA) : TE := fun σ H Q => t σ H fun xs H1 => xs.length ≤ sizeLine ∧ ∀ p, H1 p = none → Q (.ref p) (upd H1 p (.lst xs))
theorem pe_tup {x1} (h : PA X es t) : PE X (.Tuple es x1 pos) (tTup t) := by
  intro pins s σ H Q I hq
  refine wpAny_Tuple_spliced (thn (h pos pins s σ H _ I hq) fun us s1 ⟨xs, H1, I1, r, z, q⟩ => ⟨by rw [← r.length]; exact z, ?_⟩)
  have hf : H1 s1.heap.objs.size = none := I1.hok.fresh (Nat.le_refl _)
  refine ⟨.ref s1.heap.objs.size, upd H1 s1.heap.objs.size (.tup xs), I1.laid (t' := s1.toks) (fun b u e => Heap.get?_push_of_some _ e) (Nat.le_refl _) ?_, rfl, q _ hf⟩
  exact ⟨z, us, r, ⟨_, Heap.get?_push_size _ rfl, rfl, _, rfl⟩⟩
theorem pe_lst (h : PA X es t) : PE X (.List es pos) (tLst t) := by
  intro pins s σ H Q I hq
  refine wpAny_List_spliced (thn (h pos pins s σ H _ I hq) fun us s1 ⟨xs, H1, I1, r, z, q⟩ => ⟨by rw [← r.length]; exact z, ?_⟩)
  have hf : H1 s1.heap.objs.size = none := I1.hok.fresh (Nat.le_refl _)
  refine ⟨.ref s1.heap.objs.size, upd H1 s1.heap.objs.size (.lst xs), I1.laid (t' := s1.toks) (fun b u e => Heap.get?_push_of_some _ e) (Nat.le_refl _) ?_, rfl, q _ hf⟩
  exact ⟨z, us, 0, r, Heap.get?_push_size _ rfl⟩
end
abbrev Sp := List V → Hp → VK → XK → Prop
abbrev CXT := List Env → Hp → Shared → XK → Value → Shared → Prop
structure Env0 (P : Program) (w : World) (K : PySem.W.Frag) (mg : Str → Option Value) (base : Heap) (A : Around) (outer : List Env) (s : Shared) (H : Hp) : Prop where
  frames : A.frames = some outer
  mod : Mod K mg base
  bs : ∀ b o, base.get? b = some o → s.heap.get? b = some o ∧ H b = none
  bsz : base.objs.size ≤ s.heap.objs.size
  funs : s.heap.FunFrames base outer
  frf : ∀ b ∈ frs outer, H b = none
  hok : HOk P w H s.heap
  bare : AllBare s.gens
def CE (outer : List Env) (P : Program) (w : World) (H : Hp) (s : Shared) (Q : VK) (u : Value) (s' : Shared) : Prop :=
  ∃ v H', s'.os = s.os ∧ AllBare s'.gens ∧ Un (frs outer) [] H H' s.heap s'.heap ∧ HOk P w H' s'.heap ∧ RelV v u ∧ Q v H'
def CR (CX : CXT) (outer : List Env) (P : Program) (w : World) (H : Hp) (s : Shared) (Q : VK) (E : XK) (r : Result) (s' : Shared) : Prop :=
  match r with
  | .ok (.ret u) => CE outer P w H s Q u s'
  | .ok _ => False
  | .error e => CX outer H s E e s'
structure FnOk (P : Program) (w : World) (K : PySem.W.Frag) (mg : Str → Option Value) (base : Heap) (CX : CXT) (k : Nat) (f : Addr) (fd : FuncData) (ps : List Str) (sp : Sp) : Prop where
  len : ∀ vs H Q E, sp vs H Q E → vs.length = ps.length
  run : ∀ (A : Around) (outer : List Env) (s : Shared) (H : Hp) (args : Args) (us : List Value) (vs : List V) (Q : VK) (E : XK), Room k A → Env0 P w K mg base A outer s H → BindsTo s fd args (ps.zip us) → Vals vs us → sp vs H Q E →
    codeAny (model P w) A (.call (.ref f) args) (CR CX outer P w H s Q E) s
section
variable {X : Cx} {pins : List (Addr × Obj)} {σ : St} {H : Hp} {s s' : Shared}
theorem Inv.env0 (I : Inv X pins σ H s) : Env0 X.prog X.w X.K X.mg X.base X.A X.stack s H :=
  ⟨I.ok.frames, I.ok.mod, I.bs, Nat.le_trans I.ok.bsz I.sz, I.stack, I.stkFree, I.hok, I.bare⟩
theorem Inv.after {Q : VK} {u : Value} (I : Inv X pins σ H s) (h : CE X.stack X.prog X.w H s Q u s') : EP X pins σ Q u s' := by
  obtain ⟨v, H', os, bare, un, hok, r, q⟩ := h
  obtain ⟨hh, g, d, t, os'⟩ := s'
  obtain rfl : os' = s.os := os
  exact ⟨v, H', I.call (h' := hh) (g' := g) (d' := d) (t' := t) (ch := []) un hok bare (fun b z => absurd z (by simp)), r, q⟩
end
def tCall (sp : Sp) (dvs : List V) (E : XK) (t : TA) : TE := fun σ H Q => t σ H fun vs H1 => sp (vs ++ dvs) H1 Q E
def Binds (K : PySem.W.Frag) (fd : FuncData) (ps : List Str) (ds : List Value) : Prop :=
  ∀ (s : Shared) (us : List Value), K.In s.heap → (us ++ ds).length = ps.length → BindsTo s fd ⟨us, []⟩ (ps.zip (us ++ ds))
theorem Binds.all {K : PySem.W.Frag} {fd : FuncData} {ps : List Str} (h : ∀ us : List Value, us.length = ps.length → bindArgs fd ⟨us, []⟩ = pure (ps.zip us)) : Binds K fd ps [] := fun s us _ hl => by
  rw [List.append_nil] at hl ⊢
  exact .of_eq (h us hl)
def Passes (CX : CXT) (X : Cx) (E : XK) : Prop := ∀ (pins : List (Addr × Obj)) (σ : St) (H : Hp) (s : Shared) (e : Value) (s' : Shared), Inv X pins σ H s → CX X.stack H s E e s' → X.xe e s'
section
variable {X : Cx} {CX : CXT} {k : Nat} {f C : Addr} {fd : FuncData} {ps : List Str} {sp : Sp} {dvs : List V} {ds : List Value} {E : XK} {x m : Str} {p pos apos : Pos} {e o : Expr} {es : List Expr} {ta : TE} {t : TA}
theorem run_fn {pins : List (Addr × Obj)} {σ : St} {H : Hp} {s : Shared} {Q : VK} {us : List Value} {vs : List V} (F : FnOk X.prog X.w X.K X.mg X.base CX k f fd ps sp) (hr : Room k X.A) (hb : Binds X.K fd ps ds) (hd : Vals dvs ds) (hx : Passes CX X E)
    (I : Inv X pins σ H s) (r : Vals vs us) (h : sp (vs ++ dvs) H Q E) : wpAny (model X.prog X.w) X.A (call (.ref f) us) (EP X pins σ Q) X.xe s := by
  have r2 : Vals (vs ++ dvs) (us ++ ds) := r.append hd
  have hl : (us ++ ds).length = ps.length := by rw [← r2.length]; exact F.len _ _ _ _ h
  refine wpAny_call (codeAny_mono (F.run X.A X.stack s H ⟨us, []⟩ (us ++ ds) (vs ++ dvs) Q E hr I.env0 (hb s us I.kIn hl) r2 h) fun r s' hq => ?_)
  cases r with
  | error e => exact hx pins σ H s e s' I hq
  | ok fl =>
    cases fl with
    | ret u => exact I.after hq
    | next => exact False.elim hq
    | brk => exact False.elim hq
    | cont => exact False.elim hq
theorem pe_call (F : FnOk X.prog X.w X.K X.mg X.base CX k f fd ps sp) (hr : Room k X.A) (hg : Gl X x) (hm : X.mg x = some (.ref f)) (hk : PySem.W.keepIn X.K (.ref f) = true) (hb : Binds X.K fd ps ds) (hd : Vals dvs ds) (hx : Passes CX X E)
    (ha : PA X (e :: es) t) (hdb : (x == ("__debug__" : Str)) = false := by decide) (he : starEach (e :: es) X.env = (false, eval e X.env) :: starEach es X.env := by rfl) (hpl : (backTo pos (starEach es X.env)).any (·.1) = false := by rfl) :
    PE X (.Call (.Name x p) (e :: es) [] pos) (tCall sp dvs E t) := by
  intro pins s σ H Q I h
  refine wpAny_Call_Name_kw (ld_glob I hg hm ?_ hdb)
  refine PySem.W.callWith_K (h₀ := X.base) I.ok.mod.kin hk (thn (ha pos pins s σ H _ I h) fun us s1 ⟨vs, H1, I1, r, q⟩ => ⟨I1.kIn, ?_⟩) he hpl
  exact run_fn F hr hb hd hx I1 r q
end
section
variable {X : Cx} {CX : CXT} {k : Nat} {f C : Addr} {fd : FuncData} {ps ks : List Str} {sp : Sp} {E : XK} {x m : Str} {p pos apos kpos : Pos} {e o : Expr} {es : List Expr} {kws : List Keyword} {te ta : TE} {t tk : TA} {nm : Option Str}
variable {g : List Value → List Value → List Value} {gV : List V → List V → List V}
end
structure FnScope (N P : List Str) (sc : Scope) : Prop where
  kind : sc.kind = .function
  co : sc.isCoroutine = false
  gen : sc.isGenerator = false
  nd : N.Nodup
  pre : N.take P.length = P
  par : ∀ x ∈ P, sc.names.lookup x = some .local ∨ sc.names.lookup x = some .cell
  nofree : ∀ y ∈ sc.names, y.2 ≠ .free
theorem bindL_out {kindOf : Str → Option NameKind} {x : Str} : ∀ {binds : List (Str × Value)} {m : Str → Option Value}, (∀ v, (x, v) ∉ binds) → bindL kindOf binds m x = m x
  | [], _, _ => rfl
  | (n, v) :: r, m, h => by
    unfold bindL
    rw [bindL_out fun w hw => h w (List.mem_cons_of_mem _ hw)]
    split
    · have : x ≠ n := by rintro rfl; exact h v List.mem_cons_self
      simp [this]
    · rfl
theorem bindC_out {kindOf : Str → Option NameKind} {x : Str} : ∀ {binds : List (Str × Value)} {m : Str → Option Value}, (∀ v, (x, v) ∉ binds) → bindC kindOf binds m x = m x
  | [], _, _ => rfl
  | (n, v) :: r, m, h => by
    unfold bindC
    rw [bindC_out fun w hw => h w (List.mem_cons_of_mem _ hw)]
    split
    · rfl
    · have : x ≠ n := by rintro rfl; exact h v List.mem_cons_self
      simp [this]
theorem bindL_get {kindOf : Str → Option NameKind} {x : Str} {v : Value} : ∀ {P : List Str} {vs : List Value} {i : Nat} {m : Str → Option Value}, P.Nodup → P[i]? = some x → vs[i]? = some v → kindOf x = some .local →
    bindL kindOf (P.zip vs) m x = some v
  | [], _, _, _, _, h, _, _ => by simp at h
  | _ :: _, [], _, _, _, _, h, _ => by simp at h
  | p :: P, w :: vs, 0, m, nd, h1, h2, hk => by
    simp at h1 h2; subst h1; subst h2
    show bindL kindOf ((p, w) :: P.zip vs) m p = _
    unfold bindL
    rw [bindL_out fun v hv => (List.nodup_cons.mp nd).1 (List.of_mem_zip hv).1, if_pos hk]
    simp
  | p :: P, w :: vs, i + 1, m, nd, h1, h2, hk => by
    show bindL kindOf ((p, w) :: P.zip vs) m x = _
    unfold bindL
    exact bindL_get (i := i) (List.nodup_cons.mp nd).2 (by simpa using h1) (by simpa using h2) hk
theorem bindC_get {kindOf : Str → Option NameKind} {x : Str} {v : Value} : ∀ {P : List Str} {vs : List Value} {i : Nat} {m : Str → Option Value}, P.Nodup → P[i]? = some x → vs[i]? = some v → kindOf x ≠ some .local →
    bindC kindOf (P.zip vs) m x = some v
  | [], _, _, _, _, h, _, _ => by simp at h
  | _ :: _, [], _, _, _, _, h, _ => by simp at h
  | p :: P, w :: vs, 0, m, nd, h1, h2, hk => by
    simp at h1 h2; subst h1; subst h2
    show bindC kindOf ((p, w) :: P.zip vs) m p = _
    unfold bindC
    rw [bindC_out fun v hv => (List.nodup_cons.mp nd).1 (List.of_mem_zip hv).1, if_neg hk]
    simp
  | p :: P, w :: vs, i + 1, m, nd, h1, h2, hk => by
    show bindC kindOf ((p, w) :: P.zip vs) m x = _
    unfold bindC
    exact bindC_get (i := i) (List.nodup_cons.mp nd).2 (by simpa using h1) (by simpa using h2) hk
def start (N : List Str) (vs : List V) : St := vs.map some ++ List.replicate (N.length - vs.length) none
def cxOf (CX : CXT) (P : Program) (w : World) (K : PySem.W.Frag) (mg : Str → Option Value) (base : Heap) (N : List Str) (qual : Str) (scope : Scope) (f : Addr) (cd : Value) (A : Around) (outer : List Env) (s : Shared) (H : Hp) (E : XK) : Cx where
  prog := P
  w := w
  K := K
  mg := mg
  base := base
  A := A.deeper (envOfC qual scope s.heap.objs.size f cd)
  N := N
  s₀ := s
  H₀ := H
  env := envOfC qual scope s.heap.objs.size f cd
  outer := outer
  stack := envOfC qual scope s.heap.objs.size f cd :: outer
  ex := []
  calm := true
  fn := fun _ => true
  pn := []
  xe := fun e s' => wpAny (model P w) (A.deeper (envOfC qual scope s.heap.objs.size f cd)) (leaving (envOfC qual scope s.heap.objs.size f cd) e) (fun _ s'' => CX outer H s E e s'') (fun e' s'' => CX outer H s E e' s'') s'
theorem cell_has {sc : Scope} {n : Nat} {x : Str} (h : sc.names.lookup x = some .cell) : ∃ c, (cellsFrom n sc.names []).lookup x = some c := by
  have q := PySem.W.cellsFrom_some sc.names n [] (.inl h)
  exact Option.isSome_iff_exists.mp q
theorem inv_start {CX : CXT} {P : Program} {w : World} {K : PySem.W.Frag} {mg : Str → Option Value} {base : Heap} {N ps : List Str} {qual : Str} {scope : Scope} {f : Addr} {cd : Value} {A : Around} {outer : List Env} {s s1 : Shared} {H : Hp} {E : XK} {us : List Value} {vs : List V}
    (S : FnScope N ps scope) (hd : A.handled = none) (e0 : Env0 P w K mg base A outer s H) (hl : vs.length = ps.length) (r : Vals vs us)
    (x : InCallC s s.heap.objs.size (bindL (envOfC qual scope s.heap.objs.size f cd).kindOf (ps.zip us) fun _ => none) (cellsFrom (s.heap.objs.size + 1) scope.names []) (bindC (envOfC qual scope s.heap.objs.size f cd).kindOf (ps.zip us) fun _ => none) s1) :
    Inv (cxOf CX P w K mg base N qual scope f cd A outer s H E) [] (start N vs) H s1 := by
  have hpl : ps.length ≤ N.length := by have := congrArg List.length S.pre; rw [List.length_take] at this; omega
  obtain ⟨h1, tk, rfl, hk⟩ := x.done
  have noA : ∀ b : Addr, b ∉ (cxOf CX P w K mg base N qual scope f cd A outer s H E).ex := fun b z => absurd (show b ∈ ([] : List Addr) from z) (by simp)
  refine ⟨⟨e0.mod, S.kind, rfl, rfl, Nat.le_refl _, fun y z c h1 h2 => ?_, fun y hy => ?_, fun y c _ h => ?_, fun _ => hd, Around.frames_deeper e0.frames, .inr ⟨rfl, rfl⟩, fun b z => absurd z (noA b), e0.bs, e0.bsz, fun b _ _ => noA b, fun b z => absurd z (noA b), e0.funs, e0.frf⟩,
    rfl, e0.bare, Un.kept hk, ⟨_, x.toInCall.ns, fun i y v h1 h2 h3 => ?_⟩, fun y c h => ⟨_, x.cell y c h⟩, e0.hok.fresh (Nat.le_refl _), fun y c h => ?_, fun p hp => absurd (show p ∈ ([] : List (Addr × Obj)) from hp) (by simp), e0.hok.kept hk, ?_⟩
  · exact name_of_addr x.apart (PySem.mem_of_lookup h1) (PySem.mem_of_lookup h2)
  · have hy : scope.names.lookup y = some .cell ∨ scope.names.lookup y = some .free := hy
    rcases hy with hy | hy
    · exact cell_has hy
    · exact absurd rfl (S.nofree _ (PySem.mem_of_lookup hy))
  · exact Nat.le_of_lt (x.above y c (PySem.mem_of_lookup h))
  · have hi : i < vs.length := by
      unfold start at h2
      by_cases hi : i < vs.length
      · exact hi
      · rw [List.getElem?_append_right (by simpa using hi)] at h2
        rw [List.getElem?_replicate] at h2
        split at h2 <;> cases h2
    have ha : vs[i]? = some v := by
      unfold start at h2
      rw [List.getElem?_append_left (by simpa using hi), List.getElem?_map] at h2
      cases e : vs[i]? with
      | none => rw [e] at h2; cases h2
      | some a => rw [e] at h2; cases h2; rfl
    obtain ⟨u, hu, rv⟩ := r.get ha
    have hp : ps[i]? = some y := by
      rw [← S.pre, List.getElem?_take_of_lt (by omega)]; exact h1
    have ndP : ps.Nodup := by rw [← S.pre]; exact S.nd.sublist (List.take_sublist _ _)
    refine ⟨u, rv, ?_⟩
    rcases S.par y (List.mem_of_getElem? hp) with k | k
    · exact .inl ⟨k, bindL_get ndP hp hu k⟩
    · obtain ⟨c, e⟩ := cell_has (n := s.heap.objs.size + 1) k
      refine .inr ⟨.inl k, c, e, ?_⟩
      have q := x.cell y c e
      rw [bindC_get ndP hp hu (by show scope.names.lookup y ≠ _; rw [k]; decide)] at q
      exact q
  · exact e0.hok.fresh (Nat.le_of_lt (x.above y c (PySem.mem_of_lookup h)))
  · unfold start
    show _ = N.length
    rw [List.length_append, List.length_map, List.length_replicate]
    omega
theorem fn_of {CX : CXT} {P : Program} {w : World} {K : PySem.W.Frag} {mg : Str → Option Value} {base : Heap} {k : Nat} {f : Addr} {name qual : Str} {params : Arguments} {body : List Stmt} {scope : Scope} {dV kV doc pm cdv ct oc : Value} {an od : Option Addr}
    {osl : Array (Option Value)} {N ps : List Str} {sp : Sp} (lk : K.lookup f = some ⟨oc, od, .func (PySem.W.fnOf name qual params body scope dV kV doc pm an cdv ct), osl⟩) (hcd : PySem.W.codeIn K cdv qual = true) (S : FnScope N ps scope)
    (len : ∀ vs H Q E, sp vs H Q E → vs.length = ps.length)
    (hbody : ∀ (A : Around) (outer : List Env) (s : Shared) (H : Hp) (vs : List V) (Q : VK) (E : XK), Room k (A.deeper (envOfC qual scope s.heap.objs.size f cdv)) → sp vs H Q E →
      ∃ t, PSs (cxOf CX P w K mg base N qual scope f cdv A outer s H E) body t ∧ t { nx := fun _ H' => Q .non H', rt := Q } (start N vs) H) :
    FnOk P w K mg base CX (k + 1) f (PySem.W.fnOf name qual params body scope dV kV doc pm an cdv ct) ps sp := by
  refine ⟨len, fun A outer s H args us vs Q E hr e0 hb r hsp => ?_⟩
  have hl := len _ _ _ _ hsp
  have KX : K.In s.heap := e0.mod.kin.keeps fun b o e => (e0.bs b o e).1
  have lim : s.heap.NoLimit := e0.mod.nolimit.keeps fun b o e => (e0.bs b o e).1
  have hkind : ∀ y ∈ ps.zip us, scope.names.lookup y.1 = some .local ∨ (scope.names.lookup y.1 = some .cell ∧ ((cellsFrom (s.heap.objs.size + 1) scope.names []).lookup y.1).isSome = true) := fun ⟨n, v⟩ hy => by
    rcases S.par n (List.of_mem_zip hy).1 with q | q
    · exact .inl q
    · exact .inr ⟨q, PySem.W.cellsFrom_some _ _ _ (.inl q)⟩
  refine codeAny_call_function hr.depth (KX _ _ lk) rfl S.co S.gen rfl (PySem.W.codeRec_of KX hcd) (hb _ _ _ _ ?_)
  refine wpAny_newFunctionEnv_cells S.kind hkind fun env he s1 x => ?_
  subst he
  refine ⟨lim.keeps x.toInCall.keep, codeAny_func ?_⟩
  obtain ⟨t, ht, hq⟩ := hbody A outer s H vs Q E (hr.deeper _) hsp
  have I : Inv (cxOf CX P w K mg base N qual scope f cdv A outer s H E) [] (start N vs) H s1 := inv_start S hr.hd e0 hl r x
  refine wpAny_mono (ht [] s1 (start N vs) H _ I hq) (fun fl s' hs => ?_) fun e s' hs => hs
  have fin : ∀ {σ' : St} {H' : Hp} {v : V} {u : Value}, Inv (cxOf CX P w K mg base N qual scope f cdv A outer s H E) [] σ' H' s' → RelV v u → Q v H' → CE outer P w H s Q u s' :=
    fun {σ' H' v u} J rv q => ⟨v, H', J.os, J.bare, J.base, J.hok, rv, q⟩
  cases fl with
  | ret u =>
    obtain ⟨v, σ', H', J, rv, q⟩ := hs
    exact fin J rv q
  | next =>
    obtain ⟨σ', H', J, q⟩ := hs
    exact fin (v := V.non) (u := Value.none) J rfl q
  | brk =>
    obtain ⟨_, _, _, q⟩ := hs
    exact False.elim q
  | cont =>
    obtain ⟨_, _, _, q⟩ := hs
    exact False.elim q
end L2
namespace L2
open PySem PySem.Spec PyProof.Rows
section
variable {X : Cx} {x : Str} {p pos : Pos} {e : Expr} {es : List Expr} {t : TA} {id T : String} {r : List V → Hp → VK → Prop}
def tCB (r : List V → Hp → VK → Prop) (t : TA) : TE := fun σ H Q => t σ H fun vs H1 => r vs H1 Q
theorem pe_callB (hc : CallR X (.builtin id) r) (hg : Gl X x) (hm : X.mg x = none) (hv : bootBuiltins x = some (.builtin id)) (ha : PA X (e :: es) t) (hn : x ≠ "__name__" := by decide) (hdb : (x == ("__debug__" : Str)) = false := by decide)
    (he : starEach (e :: es) X.env = (false, eval e X.env) :: starEach es X.env := by rfl) (hpl : (backTo pos (starEach es X.env)).any (·.1) = false := by rfl) : PE X (.Call (.Name x p) (e :: es) [] pos) (tCB r t) := by
  intro pins s σ H Q I h
  refine wpAny_Call_Name_kw (ld_blt I hg hm hv ?_ hn hdb)
  exact PyProof.Rows.callWith_builtin1 (thn (ha pos pins s σ H _ I h) fun us s1 ⟨vs, H1, I1, r1, q1⟩ => hc pins s1 σ H1 vs us Q I1 r1 q1) he hpl
theorem pe_callTy (hc : CallR X (.type T) r) (hg : Gl X x) (hm : X.mg x = none) (hv : bootBuiltins x = some (.type T)) (ha : PA X (e :: es) t) (hn : x ≠ "__name__" := by decide) (hdb : (x == ("__debug__" : Str)) = false := by decide)
    (he : starEach (e :: es) X.env = (false, eval e X.env) :: starEach es X.env := by rfl) (hpl : (backTo pos (starEach es X.env)).any (·.1) = false := by rfl) : PE X (.Call (.Name x p) (e :: es) [] pos) (tCB r t) := by
  intro pins s σ H Q I h
  refine wpAny_Call_Name_kw (ld_blt I hg hm hv ?_ hn hdb)
  exact PyProof.Rows.callWith_type1 (thn (ha pos pins s σ H _ I h) fun us s1 ⟨vs, H1, I1, r1, q1⟩ => hc pins s1 σ H1 vs us Q I1 r1 q1) he hpl
end
end L2
namespace HT
open PySem PyProof.Rows
section
open PySem.SeqAt
open PySem.AutoSeq1 (wpAny_loadPart')
open PySem.MeetsSeq PySem.MeetsSeq2 PySem.MeetsSeq3
end
section
variable {prog : Program} {w : World} {A : Around} {E : Value → Shared → Prop} {s : Shared}
def sIx (n d : Nat) : Option Int → Nat
  | none => d
  | some v => if v < 0 then (v + (n : Int)).toNat else min v.toNat n
end
end HT
namespace L2
open PySem PySem.Spec PyProof.Rows
abbrev TO := St → Hp → (Option Int → Hp → Prop) → Prop
def PO (X : Cx) (e : Option Expr) (t : TO) : Prop :=
  ∀ (pins : List (Addr × Obj)) (s : Shared) (σ : St) (H : Hp) (Q : Option Int → Hp → Prop), Inv X pins σ H s → t σ H Q →
    wpAny (model X.prog X.w) X.A (evalPart e X.env) (fun u s' => ∃ o H', Inv X pins σ H' s' ∧ IsPart u o ∧ Q o H') X.xe s
def tNoPart : TO := fun _ H Q => Q none H
def tPart (t : TE) : TO := fun σ H Q => t σ H fun x H1 => ∃ i, x = .int i ∧ Q (some i) H1
section
variable {X : Cx} {e : Expr} {te : TE} {lo hi : Option Expr} {tl th : TO} {pos p2 : Pos}
theorem po_none : PO X none tNoPart := by
  intro pins s σ H Q I h
  rw [evalPart_none]
  exact wpAny_pure ⟨none, H, I, .none, h⟩
theorem po_some (h : PE X e te) : PO X (some e) (tPart te) := by
  intro pins s σ H Q I hw
  rw [evalPart_some]
  refine thn (h pins s σ H _ I hw) fun u s1 ⟨x, H1, I1, r1, q1⟩ => ?_
  obtain ⟨i, rfl, q⟩ := q1
  obtain ⟨t, rfl⟩ := r1
  exact ⟨some i, H1, I1, .int i t, q⟩
def SlR (X : Cx) (r : V → Option Int → Option Int → Hp → VK → Prop) : Prop :=
  ∀ (pins : List (Addr × Obj)) (s : Shared) (σ : St) (H : Hp) (x : V) (v vl vu : Value) (lo hi : Option Int) (sl : Addr) (Q : VK), Inv X pins σ H s → RelV x v → s.heap.IsSliceOf sl vl vu .none → IsPart vl lo → IsPart vu hi → r x lo hi H Q →
    ∃ T id, typeLookup (.type T) "__getitem__" = pure (some (.builtin id)) ∧ s.TypeIs v T ∧ wpAny (model X.prog X.w) X.A (getItem v (.ref sl)) (EP X pins σ Q) X.xe s
def tSl (r : V → Option Int → Option Int → Hp → VK → Prop) (te : TE) (tl th : TO) : TE := fun σ H Q => te σ H fun x H1 => tl σ H1 fun l H2 => th σ H2 fun u H3 => r x l u H3 Q
theorem pe_slice {r : V → Option Int → Option Int → Hp → VK → Prop} (hr : SlR X r) (he : PE X e te) (hl : PO X lo tl) (hu : PO X hi th) : PE X (.Subscript e (.Slice lo hi none p2) pos) (tSl r te tl th) := by
  intro pins s σ H Q I h
  refine Subscript_ (thn (he pins s σ H _ I h) fun v s1 ⟨x, H1, I1, r1, q1⟩ => ?_)
  refine wpAny_Slice (thn (hl pins s1 σ H1 _ I1 q1) fun vl s2 ⟨l, H2, I2, pl, q2⟩ => thn (hu pins s2 σ H2 _ I2 q2) fun vu s3 ⟨u, H3, I3, pu, q3⟩ => ?_)
  rw [evalPart_none]
  refine wpAny_pure ?_
  have I4 : Inv X pins σ H3 { s3 with heap := s3.heap.push { cls := .type "slice", data := .fields #[vl, vu, .none] } } := I3.kept (t' := s3.toks) fun b ob q => Heap.get?_push_of_some _ q
  obtain ⟨T, id, hT, ht, hg⟩ := hr pins { s3 with heap := s3.heap.push { cls := .type "slice", data := .fields #[vl, vu, .none] } } σ H3 x v vl vu l u s3.heap.objs.size Q I4 r1 (Heap.IsSliceOf.new ..) pl pu q3
  show wpAny (model X.prog X.w) X.A (subscriptTail e (.Slice lo hi none p2) v (.ref s3.heap.objs.size)) (EP X pins σ Q) X.xe { s3 with heap := s3.heap.push { cls := .type "slice", data := .fields #[vl, vu, .none] } }
  exact tail_any (ops := [.ref s3.heap.objs.size, v]) ht hT hg (by with_unfolding_all rfl)
def cutV (xs : List V) (lo hi : Option Int) : List V := (xs.drop (HT.sIx xs.length 0 lo)).take (HT.sIx xs.length xs.length hi - HT.sIx xs.length 0 lo)
theorem cutV_length (xs : List V) (lo hi : Option Int) : (cutV xs lo hi).length ≤ xs.length := by
  unfold cutV
  rw [List.length_take, List.length_drop]
  omega
end
end L2
namespace L2
open PySem PySem.Spec PyProof.Rows
def ixN (n : Nat) (i : Int) : Option Nat := if 0 ≤ i then (if i < n then some i.toNat else none) else if -(n : Int) ≤ i then some (i + n).toNat else none
def atI {α : Type} (xs : List α) (i : Int) : Option α := (ixN xs.length i).bind fun j => xs[j]?
theorem ixN_seq {n : Nat} {i : Int} {j : Nat} (h : ixN n i = some j) : seqIndex? i n = some j ∧ j < n ∧ -(n : Int) ≤ i ∧ i < n := by
  unfold ixN at h
  by_cases h0 : 0 ≤ i
  · rw [if_pos h0] at h
    by_cases h1 : i < n
    · rw [if_pos h1] at h
      have e : i.toNat = j := Option.some.inj h
      exact ⟨by rw [seqIndex_of h0 h1, e], by omega, by omega, h1⟩
    · rw [if_neg h1] at h; cases h
  · rw [if_neg h0] at h
    by_cases h1 : -(n : Int) ≤ i
    · rw [if_pos h1] at h
      have e : (i + n).toNat = j := Option.some.inj h
      exact ⟨by rw [seqIndex_neg (by omega) h1, e], by omega, h1, by omega⟩
    · rw [if_neg h1] at h; cases h
theorem atI_get {α : Type} {xs : List α} {i : Int} {v : α} (h : atI xs i = some v) : ∃ j, seqIndex? i xs.length = some j ∧ xs[j]? = some v ∧ j < xs.length ∧ -(xs.length : Int) ≤ i ∧ i < xs.length := by
  unfold atI at h
  cases e : ixN xs.length i with
  | none => rw [e] at h; cases h
  | some j =>
    rw [e] at h
    obtain ⟨h1, h2, h3, h4⟩ := ixN_seq e
    exact ⟨j, h1, h, h2, h3, h4⟩
theorem atI_nat {α : Type} {xs : List α} {j : Nat} {v : α} (h : xs[j]? = some v) : atI xs (j : Int) = some v := by
  have hj : j < xs.length := (List.getElem?_eq_some_iff.mp h).1
  have e : ixN xs.length (j : Int) = some j := by
    unfold ixN
    rw [if_pos (by omega), if_pos (by omega)]; simp
  unfold atI; rw [e]; exact h
theorem atI_last {α : Type} (xs : List α) (v : α) : atI (xs ++ [v]) (-1) = some v := by
  have hl : (xs ++ [v]).length = xs.length + 1 := by simp
  have e : ixN (xs ++ [v]).length (-1) = some xs.length := by
    unfold ixN
    rw [hl, if_neg (by decide), if_pos (by omega)]
    congr 1
    omega
  unfold atI
  rw [e]
  show (xs ++ [v])[xs.length]? = some v
  simp
def PlainIx (b : Expr) : Prop := ∀ o i, subscripted b false o i = operate [o, i] (getItem o i)
def IxR (X : Cx) (r : R2) : Prop :=
  ∀ (value slice : Expr) (pins : List (Addr × Obj)) (s : Shared) (σ : St) (H : Hp) (x y : V) (v u : Value) (Q : VK), Inv X pins σ H s → RelV x v → RelV y u → r x y H Q →
    subscripted slice false v u = operate [v, u] (getItem v u) → wpAny (model X.prog X.w) X.A (subscriptTail value slice v u) (EP X pins σ Q) X.xe s
def MtR (X : Cx) (id : String) (r : V → List V → Hp → VK → Prop) : Prop :=
  ∀ (pins : List (Addr × Obj)) (s : Shared) (σ : St) (H : Hp) (x : V) (xs : List V) (v : Value) (us : List Value) (Q : VK), Inv X pins σ H s → RelV x v → Vals xs us → r x xs H Q →
    wpAny (model X.prog X.w) X.A (call (.builtin id) (v :: us)) (EP X pins σ Q) X.xe s
section
variable {X : Cx} {a b : Expr} {ta tb : TE} {pos : Pos}
theorem pe_ix {r : R2} (hr : IxR X r) (ha : PE X a ta) (hb : PE X b tb) (hs : PlainIx b) : PE X (.Subscript a b pos) (tOp r ta tb) := by
  intro pins s σ H Q I h
  exact Subscript_ (binT ha hb I h fun v u s2 x y H2 I2 rx ry q => hr a b pins s2 σ H2 x y v u Q I2 rx ry q (hs _ _))
def rIxL (K : PySem.W.Frag) : R2 := fun x y H Q => ∃ p xs i v, x = .ref p ∧ y = .int i ∧ SqL K H p xs ∧ atI xs i = some v ∧ Q v H
def rIxT (K : PySem.W.Frag) : R2 := fun x y H Q => ∃ p xs i v, x = .ref p ∧ y = .int i ∧ SqT K H p xs ∧ atI xs i = some v ∧ Q v H
def rIxS : R2 := fun x y H Q => ∃ z i c, x = .str z ∧ y = .int i ∧ z.length ≤ sizeLine ∧ atI z.cps.toList i = some c ∧ Q (.str ⟨#[c]⟩) H
theorem ix_list : IxR X (rIxL X.K) := by
  intro value slice pins s σ H x y v u Q I rx ry h hs
  obtain ⟨p, xs, i, z, rfl, rfl, hq, he, q⟩ := h
  cases rx
  obtain ⟨t, rfl⟩ := ry
  obtain ⟨its, r, pl, hz⟩ := I.list hq
  obtain ⟨j, h1, h2, h3, h4, h5⟩ := atI_get he
  obtain ⟨w, ew, rw'⟩ := r.get h2
  have hl := r.length
  have hn := line63
  have fin : EP X pins σ Q w s := ⟨z, H, I, rw', q⟩
  by_cases h0 : 0 ≤ i
  · have hj : i.toNat = j := by
      rw [seqIndex_of h0 h5] at h1
      exact Option.some.inj h1
    exact item_listR pl.isList h0 (by omega) (by rw [hj]; simpa using ew) fin hs
  · have hj : (i + (its.toArray.size : Int)).toNat = j := by
      rw [seqIndex_neg (by omega) h4] at h1
      rw [List.size_toArray, ← hl]
      exact Option.some.inj h1
    exact subscriptTail_builtinR (x := w) pl.isList.typeIs slot_list_getitem.lookup
      (wpAny_getItem_list_neg (Q := fun r s' => r = w ∧ EP X pins σ Q r s') pl.isList (by omega) (by rw [List.size_toArray] <;> omega) (by omega) (by rw [hj]; simpa using ew) ⟨rfl, fin⟩) hs
theorem ix_tup : IxR X (rIxT X.K) := by
  intro value slice pins s σ H x y v u Q I rx ry h hs
  obtain ⟨p, xs, i, z, rfl, rfl, hq, he, q⟩ := h
  cases rx
  obtain ⟨t, rfl⟩ := ry
  obtain ⟨its, r, pl, hz⟩ := I.tuple hq
  obtain ⟨j, h1, h2, h3, h4, h5⟩ := atI_get he
  obtain ⟨w, ew, rw'⟩ := r.get h2
  have hl := r.length
  have hn := line63
  have fin : EP X pins σ Q w s := ⟨z, H, I, rw', q⟩
  exact subscriptTail_builtinR (x := w) pl.typeIs slot_tuple_getitem.lookup
    (getItem_tuple (j := j) (Q := fun r s' => r = w ∧ EP X pins σ Q r s') pl (by omega) (by omega) (by rw [List.size_toArray, ← hl]; exact h1) (by simpa using ew) ⟨rfl, fin⟩) hs
theorem ix_str : IxR X rIxS := by
  intro value slice pins s σ H x y v u Q I rx ry h hs
  obtain ⟨z, i, c, rfl, rfl, hz, he, q⟩ := h
  obtain ⟨t, rfl⟩ := rx
  obtain ⟨t', rfl⟩ := ry
  obtain ⟨j, h1, h2, h3, h4, h5⟩ := atI_get he
  have hl : z.cps.toList.length = z.length := by simp [Str.length]
  rw [hl] at h1 h4 h5
  have hn := line63
  exact tail_any (typeIs_str s z t) slot_str_getitem.lookup (getItem_str (c := c) (by
    have e1 : decide (i < -(2 ^ 63 : Int)) = false := decide_eq_false (by omega)
    have e2 : decide (i ≥ 2 ^ 63) = false := decide_eq_false (by omega)
    rw [e1, e2, Bool.or_false]) (by rw [h1]; simpa using h2) ⟨.str ⟨#[c]⟩, H, I.tok _, ⟨_, rfl⟩, q⟩) hs
theorem slice_bounds (lo hi : Option Int) (n : Nat) : (sliceBounds lo hi none n).1 = ((HT.sIx n 0 lo : Nat) : Int) ∧ (sliceBounds lo hi none n).2.1 = ((HT.sIx n n hi : Nat) : Int) ∧ (sliceBounds lo hi none n).2.2 = 1 := by
  refine ⟨?_, ?_, rfl⟩
  · cases lo with
    | none => simp [sliceBounds, HT.sIx]
    | some i =>
      simp only [sliceBounds, HT.sIx, Option.getD_none, show (1 : Int) > 0 by decide, if_true]
      by_cases h : i < 0
      · simp only [h, if_true] <;> omega
      · simp only [h, if_false] <;> omega
  · cases hi with
    | none => simp [sliceBounds, HT.sIx]
    | some i =>
      simp only [sliceBounds, HT.sIx, Option.getD_none, show (1 : Int) > 0 by decide, if_true]
      by_cases h : i < 0
      · simp only [h, if_true] <;> omega
      · simp only [h, if_false] <;> omega
theorem slicePick_cut (its : List Value) (lo hi : Option Int) : slicePick its.toArray lo hi none = ((its.drop (HT.sIx its.length 0 lo)).take (HT.sIx its.length its.length hi - HT.sIx its.length 0 lo)).toArray := by
  obtain ⟨h1, h2, h3⟩ := slice_bounds lo hi its.toArray.size
  unfold slicePick
  rw [h1, h2, h3]
  simp only [sliceRange_one, pick_run, List.size_toArray] <;> rfl
def rSlL (K : PySem.W.Frag) : V → Option Int → Option Int → Hp → VK → Prop := fun x lo hi H Q => ∃ a xs, x = .ref a ∧ SqL K H a xs ∧ ∀ p, H p = none → Q (.ref p) (upd H p (.lst (cutV xs lo hi)))
theorem sl_list : SlR X (rSlL X.K) := by
  intro pins s σ H x v vl vu lo hi sl Q I rx hs pl pu h
  obtain ⟨a, xs, rfl, hx, q⟩ := h
  cases rx
  obtain ⟨its, r, ht, hz⟩ := I.list hx
  have hlen := r.length
  refine ⟨"list", _, slot_list_getitem.lookup, ht.isList.typeIs, ?_⟩
  refine wpAny_getItem_list_slice ht.isList hs pl pu .none (by simp) ?_ (by rw [List.size_toArray] <;> omega)
  rw [slicePick_cut, ← hlen]
  refine ⟨.ref s.heap.objs.size, _, I.laid (t' := s.toks) (o := .lst (cutV xs lo hi)) (fun b ob q => Heap.get?_push_of_some _ q) (Nat.le_refl _) ?_, rfl, q _ (I.hok.fresh (Nat.le_refl _))⟩
  exact ⟨Nat.le_trans (cutV_length xs lo hi) hz, _, 0, (r.drop (HT.sIx xs.length 0 lo)).take (HT.sIx xs.length xs.length hi - HT.sIx xs.length 0 lo), Heap.get?_push_size _ rfl⟩
def flatV : V → Bool
  | .non => true
  | .bl _ => true
  | .int _ => true
  | .str _ => true
  | _ => false
def eqV : V → V → Bool
  | .non, .non => true
  | .bl a, .bl b => a == b
  | .bl a, .int b => (if a then 1 else 0) == b
  | .int a, .bl b => a == (if b then 1 else 0)
  | .int a, .int b => a == b
  | .str a, .str b => a == b
  | _, _ => false
theorem eqAt_V {A : Around} {s : Shared} {y x : V} {u v : Value} (ry : RelV y u) (rx : RelV x v) (fy : flatV y = true) (fx : flatV x = true) : SeqAt.EqAt A s u v (eqV y x) := by
  cases y with
  | non =>
    cases ry
    cases x with
    | non => cases rx; exact SeqAt.EqAt.same _
    | bl b => cases rx; exact SeqAt.EqAt.none_bool b
    | int b => obtain ⟨t, rfl⟩ := rx; exact SeqAt.EqAt.none_int b t
    | str b => obtain ⟨t, rfl⟩ := rx; exact SeqAt.EqAt.none_str b t
    | _ => exact absurd (show false = true from fx) Bool.false_ne_true
  | bl a =>
    cases ry
    cases x with
    | non => cases rx; exact SeqAt.EqAt.bool_none a
    | bl b => cases rx; exact SeqAt.EqAt.bool_bool a b
    | int b => obtain ⟨t, rfl⟩ := rx; exact SeqAt.EqAt.bool_int a b t
    | str b => obtain ⟨t, rfl⟩ := rx; exact SeqAt.EqAt.bool_str a b t
    | _ => exact absurd (show false = true from fx) Bool.false_ne_true
  | int a =>
    obtain ⟨t', rfl⟩ := ry
    cases x with
    | non => cases rx; exact SeqAt.EqAt.int_none a t'
    | bl b => cases rx; exact SeqAt.EqAt.int_bool a t' b
    | int b => obtain ⟨t, rfl⟩ := rx; exact SeqAt.EqAt.int_int a t' b t
    | str b => obtain ⟨t, rfl⟩ := rx; exact SeqAt.EqAt.int_str a t' b t
    | _ => exact absurd (show false = true from fx) Bool.false_ne_true
  | str a =>
    obtain ⟨t', rfl⟩ := ry
    cases x with
    | non => cases rx; exact SeqAt.EqAt.str_none a t'
    | bl b => cases rx; exact SeqAt.EqAt.str_bool a t' b
    | int b => obtain ⟨t, rfl⟩ := rx; exact SeqAt.EqAt.str_int a t' b t
    | str b => obtain ⟨t, rfl⟩ := rx; exact SeqAt.EqAt.str_str a t' b t
    | _ => exact absurd (show false = true from fx) Bool.false_ne_true
  | _ => exact absurd (show false = true from fy) Bool.false_ne_true
theorem call_tuple_of : CallR X (.type "tuple") (fun xs H Q => ∃ p ys, xs = [.ref p] ∧ ((SqL X.K H p ys ∧ ∀ l, H l = none → Q (.ref l) (upd H l (.tup ys))) ∨ (SqT X.K H p ys ∧ Q (.ref p) H))) := by
  intro pins s σ H xs us Q I r h
  obtain ⟨p, ys, rfl, h⟩ := h
  obtain ⟨u, rfl, rx⟩ := vals1 r
  cases rx
  rcases h with ⟨hq, q⟩ | ⟨hq, q⟩
  · obtain ⟨its, r', pl, hz⟩ := I.list hq
    have hlen := r'.length
    refine call_tuple_list pl.isList (fun h' kp => ?_) (by simp only [List.size_toArray] <;> omega)
    have I1 : Inv X pins σ H { s with heap := h' } := I.kept (t' := s.toks) kp
    have I2 : Inv X pins σ (upd H h'.objs.size (.tup ys)) { s with heap := h'.push { cls := .type "tuple", data := .seq its.toArray } } :=
      I1.laid (t' := s.toks) (fun b o e => Heap.get?_push_of_some _ e) (Nat.le_refl _) (show ObjOk X.prog X.w _ _ _ (.tup ys) from ⟨hz, its, r', IsTup.new _ _⟩)
    exact ⟨.ref h'.objs.size, _, I2, rfl, q _ (I1.hok.fresh (Nat.le_refl _))⟩
  · obtain ⟨its, r', pl, hz⟩ := I.tuple hq
    exact call_tuple_same pl ⟨.ref p, H, I, rfl, q⟩
def tyV (K : PySem.W.Frag) (T : String) (x : V) (H : Hp) : Prop := match x with
  | .str _ => T = "str"
  | .int _ => T = "int"
  | .ref p => (T = "list" ∧ ∃ xs, SqL K H p xs) ∨ (T = "tuple" ∧ ∃ o, K.lookup p = some o ∧ o.cls = .type "tuple" ∧ o.dict = none) ∨
      (T = "dict" ∧ ((∃ kvs, H p = some (.dK kvs)) ∨ ∃ kvs, H p = some (.dT kvs))) ∨ (T = "set" ∧ ∃ S n, H p = some (.set S n))
  | _ => False
theorem tyV_is {pins : List (Addr × Obj)} {σ : St} {H : Hp} {s : Shared} {T : String} {x : V} {v : Value} (I : Inv X pins σ H s) (r : RelV x v) (ty : tyV X.K T x H) :
    s.TypeIs v T ∧ ∀ a, v = .ref a → ∃ ob, s.heap.get? a = some ob ∧ ob.dict = none := by
  cases x with
  | str z =>
    obtain ⟨t, rfl⟩ := r
    cases (show T = "str" from ty)
    exact ⟨typeIs_str s z t, fun _ e => nomatch e⟩
  | int i =>
    obtain ⟨t, rfl⟩ := r
    cases (show T = "int" from ty)
    exact ⟨typeIs_int s i t, fun _ e => nomatch e⟩
  | ref p =>
    cases r
    rcases ty with ⟨rfl, xs, hq⟩ | ⟨rfl, o, hk, hc, hd⟩ | ⟨rfl, hk⟩ | ⟨rfl, S, n, hk⟩
    · obtain ⟨its, _, pl, _⟩ := I.list hq
      refine ⟨pl.isList.typeIs, fun a e => ?_⟩
      cases e
      obtain ⟨o, n, e, c, hd, _⟩ := pl
      exact ⟨o, e, hd⟩
    · refine ⟨⟨o, I.kIn p o hk, hc⟩, fun a e => ?_⟩
      cases e
      exact ⟨o, I.kIn _ o hk, hd⟩
    · have z : ∃ o, s.heap.get? p = some o ∧ o.ExactDict := by
        rcases hk with ⟨kvs, hk⟩ | ⟨kvs, hk⟩
        · obtain ⟨_, _, _, _, o, _, _, e, ex, _⟩ := I.hok p _ hk
          exact ⟨o, e, ex⟩
        · obtain ⟨_, _, _, _, o, _, _, e, ex, _⟩ := I.hok p _ hk
          exact ⟨o, e, ex⟩
      obtain ⟨o, e, ex⟩ := z
      refine ⟨⟨o, e, ex.1⟩, fun a e2 => ?_⟩
      cases e2
      exact ⟨o, e, ex.2.1⟩
    · obtain ⟨o, _, _, _, e, ex, _⟩ := I.hok p _ hk
      refine ⟨⟨o, e, ex.1⟩, fun a e2 => ?_⟩
      cases e2
      exact ⟨o, e, ex.2.1⟩
  | _ => exact False.elim ty
def tBM (K : PySem.W.Frag) (T : String) (r : V → List V → Hp → VK → Prop) (to : TE) (t : TA) : TE := fun σ H Q => to σ H fun x H1 => tyV K T x H1 ∧ t σ H1 fun xs H2 => r x xs H2 Q
variable {o e : Expr} {es : List Expr} {to : TE} {t : TA} {name : Str} {apos cpos : Pos} {T id : String} {r : V → List V → Hp → VK → Prop}
theorem pe_bm (pa : PlainAttrs T) (slot : Slot T name id) (hty : typeOf (.builtin id) = pure (.type "method_descriptor")) (hm : MtR X id r) (ho : PE X o to) (ha : PA X (e :: es) t)
    (hbase : attributeBase o name X.env (eval o X.env) = eval o X.env := by rfl)
    (hfew : ((backTo cpos (starEach (e :: es) X.env)).all (fun x => !x.1) && (backToKw cpos (keywordEach [] X.env)).all (fun x => x.1.isSome)
      && decide ((e :: es).length + ([] : List Keyword).length + (if ([] : List Keyword).isEmpty then 0 else 1) < 30)) = true := by rfl)
    (hline : (apos.endLine == cpos.line) = true := by rfl) (hs : starEach (e :: es) X.env = (false, eval e X.env) :: starEach es X.env := by rfl) (hplain : (backTo cpos (starEach es X.env)).any (·.1) = false := by rfl) :
    PE X (.Call (.Attribute o name apos) (e :: es) [] cpos) (tBM X.K T r to t) := by
  intro pins s σ H Q I h
  refine wpAny_Call_method_late hbase hfew hline rfl (thn (ho pins s σ H _ I h) fun v s1 ⟨x, H1, I1, r1, ty, q1⟩ => ?_)
  obtain ⟨h1, h2⟩ := tyV_is I1 r1 ty
  refine ⟨T, id, pa, slot, hty, h1, h2, ?_⟩
  have hA := ha cpos pins s1 σ H1 _ I1 q1
  rw [hs] at hA ⊢
  refine Calls.callWith_builtin (by show (false || (backTo cpos (starEach es X.env)).any (·.1)) = false; rw [hplain] <;> rfl) (Calls.evalArgs_plain ?_)
  exact thn hA fun us s2 ⟨vs, H2, I2, r2, q2⟩ => hm pins s2 σ H2 x vs v us Q I2 r1 r2 q2
/- xs.append(e), list.index on a module's tuple .. are MtR facts of 06m -/
end
end L2
namespace L2
open PySem PySem.Spec PyProof.Rows
def MtM (X : Cx) (id : String) (r : V → List V → Hp → VK → Prop) : Prop :=
  ∀ (pins : List (Addr × Obj)) (s : Shared) (σ : St) (H : Hp) (x : V) (xs : List V) (v : Value) (us : List Value) (Q : VK), Inv X pins σ H s → RelV x v → Vals xs us → r x xs H Q →
    wpAny (model X.prog X.w) X.A (call (.builtin id) (v :: us)) (EP X pins σ Q) X.xe s
theorem Vals.one : ∀ {x : V} {us : List Value}, Vals [x] us → ∃ u, us = [u] ∧ RelV x u
  | _, _, .cons r .nil => ⟨_, rfl, r⟩
section
variable {X : Cx} {pins : List (Addr × Obj)} {σ : St} {H : Hp} {s : Shared} {l b : Addr} {xs ys zs : List V}
theorem Inv.lset {its its' : List Value} {n : Nat} {f : Array Value → Array Value} {t' : Nat} (I : Inv X pins σ H s) (hH : H l = some (.lst xs))
    (e : s.heap.get? l = some { cls := .type "list", data := .seq its.toArray n }) (hf : f its.toArray = its'.toArray) (hv : Vals ys its') (hz : ys.length ≤ sizeLine) :
    Inv X pins σ (upd H l (.lst ys)) { s with heap := s.heap.update l (Obj.mapSeq f), toks := t' } := by
  have q := PySem.IsL.update e f
  rw [hf] at q
  refine I.write (x := l) (e := l) (by rw [hH]; exact trivial) (.inl rfl) (fun b' u hb hu => (Heap.get?_update_other s.heap (Obj.mapSeq f) (Ne.symm hb)).trans hu) ⟨_, q⟩ ?_
  exact ⟨hz, its', _, hv, q⟩
theorem Inv.lstM (I : Inv X pins σ H s) (hH : H l = some (.lst xs)) : xs.length ≤ sizeLine ∧ ∃ (its : List Value) (n : Nat), Vals xs its ∧ xs.length = its.length ∧ s.heap.get? l = some { cls := .type "list", data := .seq its.toArray n } := by
  obtain ⟨z, its, n, r, e⟩ := I.hok l _ hH
  exact ⟨z, its, n, r, r.length, e⟩
end
section
variable {X : Cx}
def rAppend : V → List V → Hp → VK → Prop := fun x vs H Q => ∃ l xs y, x = .ref l ∧ vs = [y] ∧ H l = some (.lst xs) ∧ xs.length < sizeLine ∧ Q .non (upd H l (.lst (xs ++ [y])))
theorem mt_append : MtM X "list.append" rAppend := by
  intro pins s σ H x vs v us Q I rx rv h
  obtain ⟨l, xs, y, rfl, rfl, hH, hz, q⟩ := h
  cases rx
  obtain ⟨u, rfl, ru⟩ := rv.one
  obtain ⟨z, its, n, r, hl, e⟩ := I.lstM hH
  refine call_meets F.slot_list_append ⟨_, e, rfl⟩ F.entry_list_append (F.args_list_append_2 _ _) (PySem.list_append l its.toArray n u (by rw [List.size_toArray]; omega)) ⟨e, ?_⟩
  refine ⟨.non, _, I.lset (its' := its ++ [u]) hH e (by simp) (r.append (.cons ru .nil)) ?_, rfl, q⟩
  rw [List.length_append, List.length_singleton]
  omega
end
section
variable {prog : Program} {w : World} {A : Around} {E : Value → Shared → Prop} {s : Shared}
end
section
variable {X : Cx}
end
end L2
namespace Att
open PySem PySem.W PySem.Calls PyProof.Rows
theorem ints_of_wellAll {P : Params} {h : Heap} : ∀ (ns : List Int) (vs : List Value), WellAll P h vs (ns.map WData.int) → IntsAre vs ns := by
  intro ns
  induction ns with
  | nil =>
    intro vs w
    rw [List.map_nil] at w
    cases w
    exact .nil
  | cons n ns ih =>
    intro vs w
    rw [List.map_cons] at w
    cases w with
    | cons a b =>
      cases a
      exact .cons _ _ (ih _ b)
theorem script_of {l : OpenLaw} {n : Nat} (hn : l.most = some n) {P : Params} {h : Heap} {args : List WData} {vals : List Value}
    (hpre : l.row.toRowW.claim.pre args = true) (hwl : WellAll P h vals args) :
    ∃ a vs ns, vals = [Value.ref a] ∧ args = [WData.list (ns.map WData.int)] ∧ h.get? a = some { cls := .type "list", data := .seq vs.toArray } ∧ IntsAre vs ns ∧ ns.length ≤ n := by
  have hsh : WShape.hasAll [] args [.list .int] = true := (pre_splitW hpre).1
  have hc : l.pre.holds [] { args := args } = true := (pre_splitW hpre).2
  obtain ⟨d, r, rfl, h1, h2⟩ := hasAllW_cons hsh
  obtain rfl := hasAllW_nil h2
  obtain ⟨xs, rfl, h3⟩ := hasW_list h1
  obtain ⟨ns, rfl⟩ := items_int h3
  have hlen : ns.length ≤ n := by
    unfold OpenLaw.pre at hc
    have h4 : (WTm.not (.lt (.lit (.int (n : Int))) (.len (.arg 0)))).holds [] { args := [.list (ns.map .int)] } = true := by
      have h4 := (holds_andW hc).1
      rw [hn] at h4
      exact h4
    have h5 := condW_of h4 (w_not (w_lt w_lit (w_len_list (w_arg rfl))))
    rw [List.length_map] at h5
    refine Nat.le_of_not_lt fun q => ?_
    have q' : (n : Int) < ((ns.length : Nat) : Int) := by omega
    first
      | (rw [decide_eq_true q'] at h5; exact absurd h5 (by decide))
      | (simp at h5; omega)
  cases hwl with
  | cons w1 w2 =>
    cases w2
    cases w1 with
    | list ho hall => exact ⟨_, _, ns, rfl, rfl, ho, ints_of_wellAll ns _ hall, hlen⟩
theorem post_true (l : OpenLaw) (args : List WData) : l.row.toRowW.claim.post args (.bool true) args = true :=
  postW_of (r := l.row.toRowW) (X := (true == true))
    (show WShape.has [] (.bool true) .bool = true by first | rfl | decide | simp [WShape.has, WShape.arms, WShape.armsAll])
    (show (WTm.eq .res (.lit (.bool true))).value [] { args := args, res := some (.bool true), after := args } = some (.bool (true == true)) from w_eq_bool (w_res rfl) w_lit) rfl
section
variable {prog : Program} {w : World} {A : Around} {E : Value → Shared → Prop} {s : Shared} {K : Frag}
end
end Att
namespace L2
open PySem PySem.Spec PyProof.Rows
theorem vals_ints : ∀ {vs : List Value} {ns : List Int}, IntsAre vs ns → Vals (ns.map V.int) vs
  | _, _, .nil => .nil
  | _, _, .cons n t h => .cons ⟨t, rfl⟩ (vals_ints h)
def Only (H : Hp) : Prop := ∀ b, H b = none ∨ ∃ o xs, H b = some (.frz o (.lst xs))
theorem law_call {P : Program} {w : World} {K : PySem.W.Frag} {mg mb : Str → Option Value} {CX : CXT} {k : Nat} {fa a : Addr} {fd : FuncData} {x : Str} {sp : Sp} {s₁ : Shared} {vs : List Value} {ns : List Int}
    (KX : K.In s₁.heap) (hns : s₁.heap.Ns mainGlobals mg) (hb : s₁.heap.Ns builtinsNs mb) (hbb : ∀ x : Str, x ≠ "__name__" → mb x = bootBuiltins x) (hlim : s₁.heap.NoLimit) (hg : s₁.gens = #[])
    (ha : s₁.heap.get? a = some { cls := .type "list", data := .seq vs.toArray }) (hi : IntsAre vs ns) (hl : ns.length ≤ sizeLine) (hr : Room k callerA)
    (F : ∀ base : Heap, K.In base → base.Ns mainGlobals mg → FnOk P w K mg base CX k fa fd [x] sp) (hbind : ∀ (s : Shared) (u : Value), BindsTo s fd ⟨[u], []⟩ [(x, u)])
    (hsp : ∀ H : Hp, Only H → SqL K H a (ns.map V.int) → sp [.ref a] H (fun v _ => v = .bl true) fun _ _ _ => False)
    (hCX : ∀ H e s', CX [] H s₁ (fun _ _ _ => False) e s' → False) :
    codeAny (model P w) callerA (.call (.ref fa) ⟨[.ref a], []⟩) (fun r s' => r = .ok (.ret (.bool true)) ∧ OldK s₁.heap s'.heap ∧ s'.os = s₁.os ∧ AllBare s'.gens) s₁ := by
  have rv := vals_ints hi
  have lenV := hi.length
  -- from an abstract heap in which nothing but the script may be tracked
  have core : ∀ H : Hp, Only H → SqL K H a (ns.map V.int) → HOk P w H s₁.heap → (∀ b, H b ≠ none → b = a) → (H a ≠ none → K.lookup a = none) →
      codeAny (model P w) callerA (.call (.ref fa) ⟨[.ref a], []⟩) (fun r s' => r = .ok (.ret (.bool true)) ∧ OldK s₁.heap s'.heap ∧ s'.os = s₁.os ∧ AllBare s'.gens) s₁ := by
    intro H hO hS hok hA hK
    have base_of : ∀ {b : Addr} {o : Obj}, s₁.heap.get? b = some o → H b = none → (hidT s₁.heap H).get? b = some o := fun e n => hidT_get e n
    have noA : ∀ {b : Addr} {o : Obj} {es : Array DictEntry} {ep : Nat}, s₁.heap.get? b = some o → o.data = .dict es ep → H b = none := fun {b o es ep} e d => by
      cases q : H b with
      | none => rfl
      | some u =>
        have e' : b = a := hA b (by rw [q]; simp)
        subst e'
        rw [ha] at e; cases e
        have d' : Data.seq vs.toArray _ = Data.dict es ep := d
        cases d'
    have nsK : ∀ {b : Addr} {m : Str → Option Value}, s₁.heap.Ns b m → (hidT s₁.heap H).Ns b m := fun {b m} ⟨o, es, ep, e, d, r⟩ => ⟨o, es, ep, base_of e (noA e d), d, r⟩
    have hKb : K.In (hidT s₁.heap H) := fun b o e => base_of (KX b o e) (by
      cases q : H b with
      | none => rfl
      | some u =>
        have e' : b = a := hA b (by rw [q]; simp)
        subst e'
        rw [hK (by rw [q]; simp)] at e; cases e)
    have hM : Mod K mg (hidT s₁.heap H) := ⟨hKb, nsK hns, ⟨mb, nsK hb, hbb⟩, let ⟨mc, h1, h2⟩ := hlim; ⟨mc, nsK h1, h2⟩⟩
    have e0 : Env0 P w K mg (hidT s₁.heap H) callerA [] s₁ H := ⟨rfl, hM, fun b o e => of_hidT e, Nat.le_of_eq (hidT_size _ _), trivial, fun b hb => absurd (show b ∈ ([] : List Addr) from hb) (by simp), hok, .of_eq hg⟩
    refine codeAny_mono ((F _ hKb (nsK hns)).run callerA [] s₁ H ⟨[.ref a], []⟩ [.ref a] [.ref a] _ _ hr e0 (hbind s₁ (.ref a)) (.cons rfl .nil) (hsp H hO hS)) fun r s' h => ?_
    cases r with
    | error e => exact (hCX H e s' h).elim
    | ok fl =>
      cases fl with
      | next => exact False.elim h
      | brk => exact False.elim h
      | cont => exact False.elim h
      | ret u =>
        obtain ⟨v, H', os, bare, un, hok', r', q⟩ := h
        have q' : v = .bl true := q
        subst q'
        obtain rfl : u = Value.bool true := r'
        refine ⟨rfl, OldK.of_keep fun b o e => ?_, os, bare⟩
        cases q : H b with
        | none => exact un.keep b o e q (by intro z; exact absurd (show b ∈ ([] : List Addr) from z) (by simp)) (by simp)
        | some u =>
          rcases hO b with z | ⟨ob, xs, z⟩
          · rw [q] at z; cases z
          · have z2 := un.frzs b ob _ z
            obtain ⟨e1, _⟩ := hok b _ z
            obtain ⟨e2, _⟩ := hok' b _ z2
            rw [e] at e1; cases e1
            exact e2
  cases hk : K.lookup a with
  | some o =>
    -- the script is one of the module's own objects
    have e := KX a o hk
    rw [ha] at e
    cases e
    refine core (fun _ => none) (fun _ => .inl rfl) (.inr ⟨_, vs.toArray, _, hk, rfl, rfl, rfl, by rw [List.size_toArray, lenV]; exact hl, by simpa using rv⟩) (fun b u z => by have z' : (none : Option HO) = some u := z; cases z') (fun b z => absurd rfl z) fun z => absurd rfl z
  | none =>
    refine core (fun b => if b = a then some (.frz { cls := .type "list", data := .seq vs.toArray } (.lst (ns.map V.int))) else none) (fun b => ?_) (.inl (.inr ⟨{ cls := .type "list", data := .seq vs.toArray }, if_pos rfl⟩)) (fun b u z => ?_) (fun b z => ?_) fun _ => hk
    · by_cases hb : b = a
      · exact .inr ⟨_, _, if_pos hb⟩
      · exact .inl (if_neg hb)
    · by_cases hb : b = a
      · have z' := (if_pos hb).symm.trans z
        cases z'
        subst hb
        exact ⟨ha, by rw [List.length_map]; exact hl, vs, _, rv, ha⟩
      · have z' := (if_neg hb).symm.trans z
        cases z'
    · by_cases hb : b = a
      · exact hb
      · exact absurd (if_neg hb) z
end L2
namespace L2
open PySem PySem.Spec PyProof.Rows
end L2
/- THE LAST THEOREM (shape; LID, My.* are yours):
   My.Adr: a structure of the addresses that your layer names (classes, functions); My.Txt K t: a structure (Prop) of the equations over K;
   My.txt_mk : {K} {implicit addresses ..} (e1 : nsIn K mainGlobals "law" = some (some (.ref f))) (e2 : K.lookup f = some ⟨oc, od, .func (fnOf "law" "law" params body scope dV kV doc pm an cdv ct), sl⟩) (e3 : codeIn K cdv "law" = true) .. : ∃ t, My.Txt K t
(the tactic k_is has no namespace: write k_is) -/
namespace L2
open PySem PySem.Spec PyProof.Rows
def defArgs (s : Stmt) : Arguments := match s with
  | .FunctionDef _ a _ _ _ _ _ _ _ _ => a
  | _ => { posonlyargs := [], args := [], vararg := none, kwonlyargs := [], kw_defaults := [], kwarg := none, defaults := [] }
def defBody (s : Stmt) : List Stmt := match s with
  | .FunctionDef _ _ b _ _ _ _ _ _ _ => b
  | _ => []
def defScope (s : Stmt) : Scope := match s with
  | .FunctionDef _ _ _ _ _ _ sc _ _ _ => sc
  | _ => { kind := .function, names := [], isGenerator := false, isCoroutine := false }
abbrev CX0 : CXT := fun _ _ _ _ _ _ => False
abbrev E0 : XK := fun _ _ _ => False
theorem pass0 {X : Cx} : Passes CX0 X E0 := fun _ _ _ _ _ _ _ h => h.elim
structure Fun (K : PySem.W.Frag) (x qual : Str) (st : Stmt) (f : Addr) (fd : FuncData) : Prop where
  ex : ∃ (oc : Value) (od : Option Addr) (kV doc pm : Value) (an : Option Addr) (cdv ct : Value) (osl : Array (Option Value)),
    fd = PySem.W.fnOf x qual (defArgs st) (defBody st) (defScope st) .none kV doc pm an cdv ct ∧ K.lookup f = some ⟨oc, od, .func fd, osl⟩ ∧ PySem.W.codeIn K cdv qual = true
  kp : PySem.W.keepIn K (.ref f) = true
section
variable {P : Program} {w : World} {K : PySem.W.Frag} {mg : Str → Option Value} {base : Heap}
theorem Fun.ok {x qual : Str} {st : Stmt} {f : Addr} {fd : FuncData} {N ps : List Str} {k : Nat} {sp : Sp} (F : Fun K x qual st f fd) (S : FnScope N ps (defScope st)) (len : ∀ vs H Q E, sp vs H Q E → vs.length = ps.length)
    (hbody : ∀ (cdv : Value) (A : Around) (outer : List Env) (s : Shared) (H : Hp) (vs : List V) (Q : VK) (E : XK), Room k (A.deeper (envOfC qual (defScope st) s.heap.objs.size f cdv)) → sp vs H Q E →
      ∃ t, PSs (cxOf CX0 P w K mg base N qual (defScope st) f cdv A outer s H E).nox (defBody st) t ∧ t { nx := fun _ H' => Q .non H', rt := Q } (start N vs) H) : FnOk P w K mg base CX0 (k + 1) f fd ps sp := by
  obtain ⟨oc, od, kV, doc, pm, an, cdv, ct, osl, rfl, lk, hcd⟩ := F.ex
  refine fn_of lk hcd S len fun A outer s H vs Q E hr hsp => ?_
  obtain ⟨t, h, q⟩ := hbody cdv A outer s H vs Q E hr hsp
  exact ⟨t, h.nox, q⟩
theorem Fun.binds {x qual : Str} {st : Stmt} {f : Addr} {fd : FuncData} {ps : List Str} (F : Fun K x qual st f fd)
    (h : ∀ (kV doc pm : Value) (an : Option Addr) (cdv ct : Value) (us : List Value), us.length = ps.length → bindArgs (PySem.W.fnOf x qual (defArgs st) (defBody st) (defScope st) .none kV doc pm an cdv ct) ⟨us, []⟩ = pure (ps.zip us)) : Binds K fd ps [] := by
  obtain ⟨oc, od, kV, doc, pm, an, cdv, ct, osl, rfl, lk, hcd⟩ := F.ex
  exact .all (h kV doc pm an cdv ct)
theorem fun_mk {x qual : Str} {st : Stmt} {f : Addr} {oc : Value} {od an : Option Addr} {osl : Array (Option Value)} {kV doc pm cdv ct : Value} (l : K.lookup f = some ⟨oc, od, .func (PySem.W.fnOf x qual (defArgs st) (defBody st) (defScope st) .none kV doc pm an cdv ct), osl⟩)
    (c : PySem.W.codeIn K cdv qual = true) (k : PySem.W.keepIn K (.ref f) = true) : Fun K x qual st f (PySem.W.fnOf x qual (defArgs st) (defBody st) (defScope st) .none kV doc pm an cdv ct) := ⟨⟨oc, od, kV, doc, pm, an, cdv, ct, osl, rfl, l, c⟩, k⟩
end
theorem small1000 {n : Nat} (h : n ≤ 1000) : n < sizeLine := Nat.lt_of_le_of_lt h (by decide)
section
variable {X : Cx}
end
theorem iteF {A B : Prop} (h : B) : if false = true then A else B := by
  rw [if_neg Bool.false_ne_true]
  exact h
theorem iteT {A B : Prop} (h : A) : if true = true then A else B := by
  rw [if_pos rfl]
  exact h
def Same (H H' : Hp) : Prop := ∀ b o, H b = some o → H' b = some o
theorem Same.refl (H : Hp) : Same H H := fun _ _ h => h
theorem Same.trans {H H1 H2 : Hp} (a : Same H H1) (b : Same H1 H2) : Same H H2 := fun c o h => b c o (a c o h)
theorem Same.free {H H' : Hp} (e : Same H H') {l : Addr} (h : H' l = Option.none) : H l = Option.none := by
  cases q : H l with
  | none => rfl
  | some o =>
    rw [e l o q] at h
    cases h
theorem Same.seq {K : PySem.W.Frag} {H H' : Hp} {a : Addr} {xs : List V} (e : Same H H') (h : SqL K H a xs) : SqL K H' a xs := by
  rcases h with (h | ⟨o, h⟩) | h
  · exact .inl (.inl (e _ _ h))
  · exact .inl (.inr ⟨o, e _ _ h⟩)
  · exact .inr h
end L2
set_option maxHeartbeats 400000
namespace FL
open PySem PySem.Spec PyProof.Rows L2
inductive D where
  | non | bl (b : Bool) | int (i : Int) | str (x : Str) | ty (n : String)
  | tup (ds : List D)
  /-- a list that is read -/
  | ls (ds : List D)
  /-- a list of this def's own making, at a -/
  | lst (a : Addr) (ds : List D)
  /-- an object of which only its place is told -/
  | ob (a : Addr)
  /-- a tuple that the text's names hold -/
  | kt (ds : List D)
  /-- a list that nothing changes any more -/
  | fl (ds : List D)
  /-- a dict that nothing changes any more: are its keys tuples, its keys, its values -/
  | fd (t : Bool) (ks vs : List D)
  /-- a dict of this def's own making, at a -/
  | dc (a : Addr) (t : Bool) (ks vs : List D)
  /-- an instance of the class at C that nothing changes any more, with its list of forms -/
  | qi (C : Addr) (ds : List D)
  /-- an exception of the class at C that was caught -/
  | exn (C : Addr)
def keyD : Key → D
  | .inl i => .int i
  | .inr x => .str x
def dOf : HO → Option (Bool × List D × List V)
  | .dK kvs => if (kvs.map (·.1)).Nodup then some (false, kvs.map (fun p => keyD p.1), kvs.map (·.2)) else none
  | .dT kvs => if (kvs.map (·.1)).Nodup then some (true, kvs.map (fun p => .tup (p.1.map keyD)), kvs.map (·.2)) else none
  | _ => none
mutual
inductive Is (K : PySem.W.Frag) (H : Hp) : V → D → Prop
  | non : Is K H .non .non
  | bl (b : Bool) : Is K H (.bl b) (.bl b)
  | int (i : Int) : Is K H (.int i) (.int i)
  | str (x : Str) : Is K H (.str x) (.str x)
  | ty (n : String) : Is K H (.ty n) (.ty n)
  | tup {a : Addr} {xs : List V} {ds : List D} (h : H a = some (.tup xs)) (r : IsAll K H xs ds) : Is K H (.ref a) (.tup ds)
  | ls {a : Addr} {xs : List V} {ds : List D} (h : SqL K H a xs) (r : IsAll K H xs ds) : Is K H (.ref a) (.ls ds)
  | lst {a : Addr} {xs : List V} {ds : List D} (h : H a = some (.lst xs)) (r : IsAll K H xs ds) : Is K H (.ref a) (.lst a ds)
  | ob (a : Addr) : Is K H (.ref a) (.ob a)
  | kt {a : Addr} {xs : List V} {ds : List D} (h : SqT K H a xs) (r : IsAll K H xs ds) : Is K H (.ref a) (.kt ds)
  | fl {a : Addr} {o : Obj} {xs : List V} {ds : List D} (h : H a = some (.frz o (.lst xs))) (r : IsAll K H xs ds) : Is K H (.ref a) (.fl ds)
  | fd {a : Addr} {o : Obj} {u : HO} {us : List V} {t : Bool} {ks vs : List D} (h : H a = some (.frz o u)) (e : dOf u = some (t, ks, us)) (r : IsAll K H us vs) : Is K H (.ref a) (.fd t ks vs)
  | dc {a : Addr} {u : HO} {us : List V} {t : Bool} {ks vs : List D} (h : H a = some u) (e : dOf u = some (t, ks, us)) (r : IsAll K H us vs) : Is K H (.ref a) (.dc a t ks vs)
  | qi {a l C dx : Addr} {o o' : Obj} {xs : List V} {ds : List D} (h : H a = some (.frz o (.ins C dx [("forms", .ref l)]))) (e : H l = some (.frz o' (.lst xs))) (r : IsAll K H xs ds) : Is K H (.ref a) (.qi C ds)
  | exn {a C : Addr} {o : Obj} (h : H a = some (.frz o (.own a))) (e : o.cls = .ref C) : Is K H (.ref a) (.exn C)
inductive IsAll (K : PySem.W.Frag) (H : Hp) : List V → List D → Prop
  | nil : IsAll K H [] []
  | cons {v : V} {vs : List V} {d : D} {ds : List D} (h : Is K H v d) (r : IsAll K H vs ds) : IsAll K H (v :: vs) (d :: ds)
end
theorem sameT {K : PySem.W.Frag} {H H' : Hp} {a : Addr} {xs : List V} (e : Same H H') (h : SqT K H a xs) : SqT K H' a xs := by
  rcases h with (h | ⟨o, h⟩) | h
  · exact .inl (.inl (e _ _ h))
  · exact .inl (.inr ⟨o, e _ _ h⟩)
  · exact .inr h
mutual
theorem Is.mono {K : PySem.W.Frag} {H H' : Hp} (e : Same H H') : ∀ {v : V} {d : D}, Is K H v d → Is K H' v d
  | _, _, .non => .non
  | _, _, .bl b => .bl b
  | _, _, .int i => .int i
  | _, _, .str x => .str x
  | _, _, .ty n => .ty n
  | _, _, .tup h r => .tup (e _ _ h) (IsAll.mono e r)
  | _, _, .ls h r => .ls (e.seq h) (IsAll.mono e r)
  | _, _, .lst h r => .lst (e _ _ h) (IsAll.mono e r)
  | _, _, .ob a => .ob a
  | _, _, .kt h r => .kt (sameT e h) (IsAll.mono e r)
  | _, _, .fl h r => .fl (e _ _ h) (IsAll.mono e r)
  | _, _, .fd h z r => .fd (e _ _ h) z (IsAll.mono e r)
  | _, _, .dc h z r => .dc (e _ _ h) z (IsAll.mono e r)
  | _, _, .qi h z r => .qi (e _ _ h) (e _ _ z) (IsAll.mono e r)
  | _, _, .exn h z => .exn (e _ _ h) z
theorem IsAll.mono {K : PySem.W.Frag} {H H' : Hp} (e : Same H H') : ∀ {vs : List V} {ds : List D}, IsAll K H vs ds → IsAll K H' vs ds
  | _, _, .nil => .nil
  | _, _, .cons h r => .cons (Is.mono e h) (IsAll.mono e r)
end
theorem IsAll.length {K : PySem.W.Frag} {H : Hp} : ∀ {vs : List V} {ds : List D}, IsAll K H vs ds → vs.length = ds.length
  | _, _, .nil => rfl
  | _, _, .cons _ r => by simp [IsAll.length r]
theorem IsAll.get {K : PySem.W.Frag} {H : Hp} : ∀ {vs : List V} {ds : List D}, IsAll K H vs ds → ∀ {i : Nat} {d : D}, ds[i]? = some d → ∃ v, vs[i]? = some v ∧ Is K H v d
  | _, _, .nil, i, d, e => by simp at e
  | _, _, .cons h r, 0, d, e => by simp at e; subst e; exact ⟨_, rfl, h⟩
  | _, _, .cons h r, i + 1, d, e => by
    obtain ⟨v, e1, h1⟩ := IsAll.get r (i := i) (d := d) (by simpa using e)
    exact ⟨v, by simpa using e1, h1⟩
theorem IsAll.append {K : PySem.W.Frag} {H : Hp} : ∀ {vs us : List V} {ds es : List D}, IsAll K H vs ds → IsAll K H us es → IsAll K H (vs ++ us) (ds ++ es)
  | _, _, _, _, .nil, s => s
  | _, _, _, _, .cons h r, s => .cons h (IsAll.append r s)
theorem IsAll.ints {K : PySem.W.Frag} {H : Hp} : ∀ (ns : List Int), IsAll K H (ns.map V.int) (ns.map D.int)
  | [] => .nil
  | n :: ns => .cons (.int n) (IsAll.ints ns)
theorem Is.int_inv {K : PySem.W.Frag} {H : Hp} {v : V} {i : Int} (h : Is K H v (.int i)) : v = .int i := by cases h; rfl
theorem Is.bl_inv {K : PySem.W.Frag} {H : Hp} {v : V} {b : Bool} (h : Is K H v (.bl b)) : v = .bl b := by cases h; rfl
theorem Is.str_inv {K : PySem.W.Frag} {H : Hp} {v : V} {x : Str} (h : Is K H v (.str x)) : v = .str x := by cases h; rfl
theorem Is.ty_inv {K : PySem.W.Frag} {H : Hp} {v : V} {x : String} (h : Is K H v (.ty x)) : v = .ty x := by cases h; rfl
theorem Is.non_inv {K : PySem.W.Frag} {H : Hp} {v : V} (h : Is K H v .non) : v = .non := by cases h; rfl
theorem Is.ob_inv {K : PySem.W.Frag} {H : Hp} {v : V} {a : Addr} (h : Is K H v (.ob a)) : v = .ref a := by cases h; rfl
theorem Is.tup_inv {K : PySem.W.Frag} {H : Hp} {v : V} {ds : List D} (h : Is K H v (.tup ds)) : ∃ a xs, v = .ref a ∧ SqT K H a xs ∧ IsAll K H xs ds := by
  cases h with
  | tup h r => exact ⟨_, _, rfl, .of h, r⟩
theorem Is.kt_inv {K : PySem.W.Frag} {H : Hp} {v : V} {ds : List D} (h : Is K H v (.kt ds)) : ∃ a xs, v = .ref a ∧ SqT K H a xs ∧ IsAll K H xs ds := by
  cases h with
  | kt h r => exact ⟨_, _, rfl, h, r⟩
theorem Is.fl_inv {K : PySem.W.Frag} {H : Hp} {v : V} {ds : List D} (h : Is K H v (.fl ds)) : ∃ a o xs, v = .ref a ∧ H a = some (.frz o (.lst xs)) ∧ IsAll K H xs ds := by
  cases h with
  | fl h r => exact ⟨_, _, _, rfl, h, r⟩
theorem Is.exn_inv {K : PySem.W.Frag} {H : Hp} {v : V} {C : Addr} (h : Is K H v (.exn C)) : ∃ a o, v = .ref a ∧ H a = some (.frz o (.own a)) ∧ o.cls = .ref C := by
  cases h with
  | exn h e => exact ⟨_, _, rfl, h, e⟩
theorem Is.dc_inv {K : PySem.W.Frag} {H : Hp} {v : V} {t : Bool} {ks vs : List D} {a : Addr} (h : Is K H v (.dc a t ks vs)) : v = .ref a ∧ ∃ u us, H a = some u ∧ dOf u = some (t, ks, us) ∧ IsAll K H us vs := by
  cases h with
  | dc h e r => exact ⟨rfl, _, _, h, e, r⟩
theorem Is.lst_inv {K : PySem.W.Frag} {H : Hp} {v : V} {ds : List D} {a : Addr} (h : Is K H v (.lst a ds)) : v = .ref a ∧ ∃ xs, H a = some (.lst xs) ∧ IsAll K H xs ds := by
  cases h with
  | lst h r => exact ⟨rfl, _, h, r⟩
theorem Is.ls_inv {K : PySem.W.Frag} {H : Hp} {v : V} {ds : List D} (h : Is K H v (.ls ds)) : ∃ a xs, v = .ref a ∧ SqL K H a xs ∧ IsAll K H xs ds := by
  cases h with
  | ls h r => exact ⟨_, _, rfl, h, r⟩
def lsD : D → Option (List D)
  | .ls ds => some ds
  | .lst _ ds => some ds
  | .fl ds => some ds
  | _ => none
theorem Is.lsD_inv {K : PySem.W.Frag} {H : Hp} {v : V} {d : D} {ds : List D} (h : Is K H v d) (e : lsD d = some ds) : ∃ a xs, v = .ref a ∧ SqL K H a xs ∧ IsAll K H xs ds := by
  cases d with
  | ls es => cases e; exact h.ls_inv
  | lst a es => cases e; obtain ⟨h1, xs, h2, h3⟩ := h.lst_inv; exact ⟨a, xs, h1, .of h2, h3⟩
  | fl es => cases e; obtain ⟨a, o, xs, h1, h2, h3⟩ := h.fl_inv; exact ⟨a, xs, h1, .inl (.inr ⟨o, h2⟩), h3⟩
  | _ => cases e
inductive Fz : D → Prop
  | non : Fz .non
  | bl (b : Bool) : Fz (.bl b)
  | int (i : Int) : Fz (.int i)
  | str (x : Str) : Fz (.str x)
  | ty (n : String) : Fz (.ty n)
  | ob (a : Addr) : Fz (.ob a)
  | tup {ds : List D} (h : ∀ d ∈ ds, Fz d) : Fz (.tup ds)
  | kt {ds : List D} (h : ∀ d ∈ ds, Fz d) : Fz (.kt ds)
  | fl {ds : List D} (h : ∀ d ∈ ds, Fz d) : Fz (.fl ds)
  | fd {t : Bool} {ks vs : List D} (h : ∀ d ∈ vs, Fz d) : Fz (.fd t ks vs)
  | qi {C : Addr} {ds : List D} (h : ∀ d ∈ ds, Fz d) : Fz (.qi C ds)
  | exn (C : Addr) : Fz (.exn C)
theorem Fz.qi_inv {C : Addr} {ds : List D} (h : Fz (.qi C ds)) : ∀ d ∈ ds, Fz d := by cases h with | qi h => exact h
theorem Fz.tup_inv {ds : List D} (h : Fz (.tup ds)) : ∀ d ∈ ds, Fz d := by cases h with | tup h => exact h
theorem Fz.kt_inv {ds : List D} (h : Fz (.kt ds)) : ∀ d ∈ ds, Fz d := by cases h with | kt h => exact h
theorem Fz.fl_inv {ds : List D} (h : Fz (.fl ds)) : ∀ d ∈ ds, Fz d := by cases h with | fl h => exact h
theorem Fz.fd_inv {t : Bool} {ks vs : List D} (h : Fz (.fd t ks vs)) : ∀ d ∈ vs, Fz d := by cases h with | fd h => exact h
theorem Fz.no_dc {a : Addr} {t : Bool} {ks vs : List D} (h : Fz (.dc a t ks vs)) : False := by cases h
theorem Fz.no_ls {ds : List D} (h : Fz (.ls ds)) : False := by cases h
theorem Fz.no_lst {a : Addr} {ds : List D} (h : Fz (.lst a ds)) : False := by cases h
def KT (H H' : Hp) : Prop := (∀ b xs, H b = some (.tup xs) → H' b = some (.tup xs)) ∧ ∀ b o u, H b = some (.frz o u) → H' b = some (.frz o u)
theorem KT.seqT {K : PySem.W.Frag} {H H' : Hp} {a : Addr} {xs : List V} (e : KT H H') (h : SqT K H a xs) : SqT K H' a xs := by
  rcases h with (h | ⟨o, h⟩) | h
  · exact .inl (.inl (e.1 _ _ h))
  · exact .inl (.inr ⟨o, e.2 _ _ _ h⟩)
  · exact .inr h
mutual
theorem Is.keep {K : PySem.W.Frag} {H H' : Hp} (e : KT H H') : ∀ {v : V} {d : D}, Is K H v d → Fz d → Is K H' v d
  | _, _, .non, _ => .non
  | _, _, .bl b, _ => .bl b
  | _, _, .int i, _ => .int i
  | _, _, .str x, _ => .str x
  | _, _, .ty n, _ => .ty n
  | _, _, .tup h r, f => .tup (e.1 _ _ h) (IsAll.keep e r f.tup_inv)
  | _, _, .ls _ _, f => f.no_ls.elim
  | _, _, .lst _ _, f => f.no_lst.elim
  | _, _, .ob a, _ => .ob a
  | _, _, .kt h r, f => .kt (e.seqT h) (IsAll.keep e r f.kt_inv)
  | _, _, .fl h r, f => .fl (e.2 _ _ _ h) (IsAll.keep e r f.fl_inv)
  | _, _, .fd h z r, f => .fd (e.2 _ _ _ h) z (IsAll.keep e r f.fd_inv)
  | _, _, .dc _ _ _, f => f.no_dc.elim
  | _, _, .qi h z r, f => .qi (e.2 _ _ _ h) (e.2 _ _ _ z) (IsAll.keep e r f.qi_inv)
  | _, _, .exn h z, _ => .exn (e.2 _ _ _ h) z
theorem IsAll.keep {K : PySem.W.Frag} {H H' : Hp} (e : KT H H') : ∀ {vs : List V} {ds : List D}, IsAll K H vs ds → (∀ d ∈ ds, Fz d) → IsAll K H' vs ds
  | _, _, .nil, _ => .nil
  | _, _, .cons h r, f => .cons (Is.keep e h (f _ List.mem_cons_self)) (IsAll.keep e r fun d hd => f d (List.mem_cons_of_mem _ hd))
end
abbrev Ro := List (Option D)
def ownA : D → Option Addr
  | .lst a _ => some a
  | .dc a _ _ _ => some a
  | _ => none
def Mu (ρ : Ro) (a : Addr) : Prop := ∃ (i : Nat) (d : D), ρ[i]? = some (some d) ∧ ownA d = some a
@[simp] theorem ownA_non : ownA .non = none := rfl
@[simp] theorem ownA_bl (b : Bool) : ownA (.bl b) = none := rfl
@[simp] theorem ownA_int (i : Int) : ownA (.int i) = none := rfl
@[simp] theorem ownA_str (x : Str) : ownA (.str x) = none := rfl
@[simp] theorem ownA_tup (ds : List D) : ownA (.tup ds) = none := rfl
@[simp] theorem ownA_ls (ds : List D) : ownA (.ls ds) = none := rfl
@[simp] theorem ownA_ob (a : Addr) : ownA (.ob a) = none := rfl
@[simp] theorem ownA_kt (ds : List D) : ownA (.kt ds) = none := rfl
@[simp] theorem ownA_fl (ds : List D) : ownA (.fl ds) = none := rfl
@[simp] theorem ownA_fd (t : Bool) (ks vs : List D) : ownA (.fd t ks vs) = none := rfl
@[simp] theorem ownA_qi (C : Addr) (ds : List D) : ownA (.qi C ds) = none := rfl
@[simp] theorem ownA_exn (C : Addr) : ownA (.exn C) = none := rfl
theorem Fz.own {d : D} (h : Fz d) : ownA d = none := by cases h <;> rfl
theorem Fz.no_own {d : D} {a : Addr} (h : Fz d) (z : ownA d = some a) : False := by rw [h.own] at z; cases z
inductive Mine : D → Prop
  | lst {a : Addr} {ds : List D} (h : ∀ e ∈ ds, Fz e) : Mine (.lst a ds)
  | dc {a : Addr} {t : Bool} {ks vs : List D} (h : ∀ e ∈ vs, Fz e) : Mine (.dc a t ks vs)
structure RelS (X : Cx) (Hb H : Hp) (σ : L2.St) (ρ : Ro) : Prop where
  same : Same Hb H
  len : σ.length = ρ.length
  val : ∀ (i : Nat) (d : D), ρ[i]? = some (some d) → ∃ v, σ[i]? = some (some v) ∧ Is X.K H v d ∧ (Fz d ∨ Is X.K Hb v d ∨ Mine d)
  own : ∀ a, Mu ρ a → Hb a = none
theorem Mine.keep {K : PySem.W.Frag} {H H' : Hp} {v : V} {d : D} (m : Mine d) (h : Is K H v d) (kt : KT H H') (hk : ∀ a, ownA d = some a → H' a = H a) : Is K H' v d := by
  cases m with
  | lst f =>
    obtain ⟨rfl, ys, g1, g2⟩ := h.lst_inv
    exact .lst (by rw [hk _ rfl]; exact g1) (g2.keep kt f)
  | dc f =>
    obtain ⟨rfl, u, us, g1, g2, g3⟩ := h.dc_inv
    exact .dc (by rw [hk _ rfl]; exact g1) g2 (g3.keep kt f)
theorem ne_list {K : PySem.W.Frag} {H : Hp} {v : V} {d : D} {a l : Addr} {xs : List V} (h : Is K H v d) (z : ownA d = some a) (hl : H l = some (.lst xs)) (hn : ∀ es, d ≠ .lst l es) : a ≠ l := fun e => by
  subst e
  cases d with
  | lst b es => cases z; exact hn es rfl
  | dc b t ks vs =>
    cases z
    obtain ⟨_, u, us, g1, g2, _⟩ := h.dc_inv
    rw [hl] at g1
    cases g1
    cases g2
  | _ => cases z
theorem RelS.mono {X : Cx} {Hb H H' : Hp} {σ : L2.St} {ρ : Ro} (r : RelS X Hb H σ ρ) (e : Same H H') : RelS X Hb H' σ ρ :=
  ⟨r.same.trans e, r.len, fun i d h => let ⟨v, a, b, c⟩ := r.val i d h; ⟨v, a, b.mono e, c⟩, r.own⟩
theorem RelS.mu {X : Cx} {Hb H : Hp} {σ : L2.St} {ρ : Ro} (r : RelS X Hb H σ ρ) {a : Addr} (h : Mu ρ a) : ∃ u, H a = some u ∧ Mut (some u) := by
  obtain ⟨i, d, e, z⟩ := h
  obtain ⟨v, _, h, _⟩ := r.val i _ e
  cases d with
  | lst b ds =>
    cases z
    obtain ⟨_, xs, h, _⟩ := h.lst_inv
    exact ⟨_, h, trivial⟩
  | dc b t ks vs =>
    cases z
    obtain ⟨_, u, us, h, e, _⟩ := h.dc_inv
    refine ⟨u, h, ?_⟩
    cases u with
    | dK _ => exact trivial
    | dT _ => exact trivial
    | _ => cases e
  | _ => cases z
theorem set_get {ρ : Ro} {n j : Nat} {d e : D} (h : (ρ.set n (some d))[j]? = some (some e)) : (j = n ∧ e = d ∧ n < ρ.length) ∨ (j ≠ n ∧ ρ[j]? = some (some e)) := by
  by_cases hji : n = j
  · subst hji
    rw [List.getElem?_set, if_pos rfl] at h
    by_cases hl : n < ρ.length
    · rw [if_pos hl] at h
      cases h
      exact .inl ⟨rfl, rfl, hl⟩
    · rw [if_neg hl] at h; cases h
  · rw [List.getElem?_set_ne hji] at h
    exact .inr ⟨fun z => hji z.symm, h⟩
theorem RelS.set {X : Cx} {Hb H : Hp} {σ : L2.St} {ρ : Ro} (r : RelS X Hb H σ ρ) {v : V} {d : D} (h : Is X.K H v d) (n : Nat) (hf : Fz d ∨ Is X.K Hb v d ∨ Mine d) (ho : ∀ a, ownA d = some a → Hb a = none) :
    RelS X Hb H (σ.set n (some v)) (ρ.set n (some d)) := by
  refine ⟨r.same, by simp [r.len], fun j e hj => ?_, fun a ⟨j, ds, hj, hz⟩ => ?_⟩
  · rcases set_get hj with ⟨rfl, rfl, hl⟩ | ⟨hne, hj⟩
    · refine ⟨v, ?_, h, hf⟩
      rw [List.getElem?_set, if_pos rfl, if_pos (by rw [r.len]; exact hl)]
    · obtain ⟨u, h1, h2⟩ := r.val j e hj
      exact ⟨u, by rw [List.getElem?_set_ne (fun z => hne z.symm)]; exact h1, h2⟩
  · rcases set_get hj with ⟨rfl, rfl, hl⟩ | ⟨hne, hj⟩
    · exact ho a hz
    · exact r.own a ⟨j, ds, hj, hz⟩
structure Go (ρ : Ro) (H : Hp) (ρ' : Ro) (H' : Hp) : Prop where
  kept : ∀ b o, H b = some o → ¬ Mu ρ b → H' b = some o
  mu : ∀ a, Mu ρ' a → Mu ρ a ∨ H a = none
theorem Go.refl (ρ : Ro) (H : Hp) : Go ρ H ρ H := ⟨fun _ _ h _ => h, fun _ h => .inl h⟩
theorem Go.trans {ρ ρ1 ρ2 : Ro} {H H1 H2 : Hp} (a : Go ρ H ρ1 H1) (b : Go ρ1 H1 ρ2 H2) : Go ρ H ρ2 H2 where
  kept := fun c o h n => b.kept c o (a.kept c o h n) fun m => by
    rcases a.mu c m with z | z
    · exact n z
    · rw [h] at z; cases z
  mu := fun c m => by
    rcases b.mu c m with z | z
    · exact a.mu c z
    · by_cases hc : Mu ρ c
      · exact .inl hc
      · refine .inr ?_
        cases q : H c with
        | none => rfl
        | some o => rw [a.kept c o q hc] at z; cases z
theorem Go.same {ρ : Ro} {H H' : Hp} (e : Same H H') : Go ρ H ρ H' := ⟨fun b o h _ => e b o h, fun _ h => .inl h⟩
theorem Go.kt {X : Cx} {ρ ρ' : Ro} {Hb H H' : Hp} {σ : L2.St} (g : Go ρ H ρ' H') (r : RelS X Hb H σ ρ) : KT H H' :=
  ⟨fun b _ h => g.kept b _ h (fun m => by obtain ⟨ys, e, z⟩ := r.mu m; rw [h] at e; cases e; exact z), fun b _ _ h => g.kept b _ h (fun m => by obtain ⟨ys, e, z⟩ := r.mu m; rw [h] at e; cases e; exact z)⟩
theorem Go.set {ρ : Ro} {H H' : Hp} (e : Same H H') {d : D} {n : Nat} (hd : ∀ a, ownA d = some a → Mu ρ a ∨ H a = none) : Go ρ H (ρ.set n (some d)) H' :=
  ⟨fun b o h _ => e b o h, fun a ⟨j, ds, hj, hz⟩ => by
    rcases set_get hj with ⟨rfl, rfl, _⟩ | ⟨_, hj⟩
    · exact hd a hz
    · exact .inl ⟨j, ds, hj, hz⟩⟩
structure RelE (X : Cx) (H : Hp) (σ : L2.St) (ρ : Ro) : Prop where
  len : σ.length = ρ.length
  val : ∀ (i : Nat) (d : D), ρ[i]? = some (some d) → ∃ v, σ[i]? = some (some v) ∧ Is X.K H v d
theorem RelE.mono {X : Cx} {H H' : Hp} {σ : L2.St} {ρ : Ro} (r : RelE X H σ ρ) (e : Same H H') : RelE X H' σ ρ := ⟨r.len, fun i d h => let ⟨v, a, b⟩ := r.val i d h; ⟨v, a, b.mono e⟩⟩
theorem RelS.e {X : Cx} {Hb H : Hp} {σ : L2.St} {ρ : Ro} (r : RelS X Hb H σ ρ) : RelE X H σ ρ := ⟨r.len, fun i d h => let ⟨v, a, b, _⟩ := r.val i d h; ⟨v, a, b⟩⟩
def tD (X : Cx) (ρ : Ro) (d : D) : TE := fun σ H Q => RelE X H σ ρ ∧ ∀ v H', Same H H' → Is X.K H' v d → Q v H'
def tB (X : Cx) (ρ : Ro) (b : Bool) : TT := fun σ H Q => RelE X H σ ρ ∧ ∀ H', Same H H' → Q b H'
def tDs (X : Cx) (ρ : Ro) (ds : List D) : TA := fun σ H Q => RelE X H σ ρ ∧ ∀ vs H', Same H H' → IsAll X.K H' vs ds → Q vs H'
def Ev (X : Cx) (e : Expr) (ρ : Ro) (d : D) : Prop := PE X e (tD X ρ d)
def Et (X : Cx) (e : Expr) (ρ : Ro) (b : Bool) : Prop := PT X e (tB X ρ b)
def Ew (X : Cx) (e : Expr) (ρ : Ro) (b : Bool) : Prop := PW X e (tB X ρ b)
def EvA (X : Cx) (es : List Expr) (ρ : Ro) (ds : List D) : Prop := PA X es (tDs X ρ ds)
section
variable {X : Cx} {e a b c : Expr} {es : List Expr} {ρ : Ro} {d : D} {ds : List D} {pos : Pos} {i j : Int} {k k' : Bool}
theorem Ev.tt {p : Prop} [Decidable p] (h : Ev X e ρ (.bl (decide p))) (hp : p) : Ev X e ρ (.bl true) := by rw [decide_eq_true hp] at h; exact h
theorem Ev.ff {p : Prop} [Decidable p] (h : Ev X e ρ (.bl (decide p))) (hp : ¬ p) : Ev X e ρ (.bl false) := by rw [decide_eq_false hp] at h; exact h
theorem Et.tt {p : Prop} [Decidable p] (h : Et X e ρ (decide p)) (hp : p) : Et X e ρ true := by rw [decide_eq_true hp] at h; exact h
theorem Et.ff' {p : Prop} [Decidable p] (h : Et X e ρ (decide p)) (hp : ¬ p) : Et X e ρ false := by rw [decide_eq_false hp] at h; exact h
theorem Et.ff {p : Prop} [Decidable p] (h : Et X e ρ (!decide p)) (hp : p) : Et X e ρ false := by rw [decide_eq_true hp] at h; exact h
theorem PE.imp {t t' : TE} (h : PE X e t) (f : ∀ σ H Q, t' σ H Q → t σ H Q) : PE X e t' := fun pins s σ H Q I q => h pins s σ H Q I (f σ H Q q)
theorem PT.imp {t t' : TT} (h : PT X e t) (f : ∀ σ H Q, t' σ H Q → t σ H Q) : PT X e t' := fun pins s σ H Q I q => h pins s σ H Q I (f σ H Q q)
theorem PW.imp {t t' : TT} (h : PW X e t) (f : ∀ σ H Q, t' σ H Q → t σ H Q) : PW X e t' := fun whole pins s σ H Q I q => h whole pins s σ H Q I (f σ H Q q)
theorem PA.imp {t t' : TA} (h : PA X es t) (f : ∀ σ H Q, t' σ H Q → t σ H Q) : PA X es t' := fun pos pins s σ H Q I q => h pos pins s σ H Q I (f σ H Q q)
theorem PS.imp {st : Stmt} {t t' : TS} (h : PS X st t) (f : ∀ D σ H, t' D σ H → t D σ H) : PS X st t' := fun pins s σ H D I q => h pins s σ H D I (f D σ H q)
theorem PSs.imp {st : List Stmt} {t t' : TS} (h : PSs X st t) (f : ∀ D σ H, t' D σ H → t D σ H) : PSs X st t' := fun pins s σ H D I q => h pins s σ H D I (f D σ H q)
theorem ev_v (n : Nat) {x : Str} (hρ : ρ[n]? = some (some d) := by rfl) (hN : X.N[n]? = some x := by rfl) (hv : Vis X.env.scope x := by first | exact Or.inl rfl | exact Or.inr (Or.inl rfl) | exact Or.inr (Or.inr rfl))
    (hd : (x == ("__debug__" : Str)) = false := by decide) (hcd : (x == ("__classdict__" : Str)) = false := by decide) : Ev X (.Name x pos) ρ d :=
  PE.imp (pe_var hN hv hd hcd) fun σ H Q ⟨r, q⟩ => let ⟨v, h1, h2⟩ := r.val n d hρ; ⟨v, h1, q v H (Same.refl H) h2⟩
theorem ev_int {z : Int} {m} : Ev X (.Constant (.int z) m pos) ρ (.int z) := PE.imp pe_int fun _ H _ ⟨_, q⟩ => q _ H (Same.refl H) (.int z)
theorem ev_bl {z : Bool} {m} : Ev X (.Constant (.bool z) m pos) ρ (.bl z) := PE.imp pe_bl fun _ H _ ⟨_, q⟩ => q _ H (Same.refl H) (.bl z)
theorem ev_non {m} : Ev X (.Constant .none m pos) ρ .non := PE.imp pe_non fun _ H _ ⟨_, q⟩ => q _ H (Same.refl H) .non
theorem ev_str {z : Str} {m} : Ev X (.Constant (.str z) m pos) ρ (.str z) := PE.imp pe_str fun _ H _ ⟨_, q⟩ => q _ H (Same.refl H) (.str z)
theorem ev_ty {x : Str} {n : String} (hm : X.mg x = none) (hv : bootBuiltins x = some (.type n)) (hg : Gl X x := by rfl) (hn : x ≠ "__name__" := by decide) (hd : (x == ("__debug__" : Str)) = false := by decide) : Ev X (.Name x pos) ρ (.ty n) :=
  PE.imp (pe_bltn hg hm hv (v := .ty n) rfl hn hd) fun _ H _ ⟨_, q⟩ => q _ H (Same.refl H) (.ty n)
theorem ev_op {op : Operator} {r : R2} {d1 d2 : D} (ho : OpR X (binaryOp op) r) (ha : Ev X a ρ d1) (hb : Ev X b ρ d2)
    (hr : ∀ v1 v2 H Q, Is X.K H v1 d1 → Is X.K H v2 d2 → (∀ v H', Same H H' → Is X.K H' v d → Q v H') → r v1 v2 H Q) : Ev X (.BinOp a op b pos) ρ d :=
  PE.imp (pe_op ho ha hb) fun σ H Q ⟨r, q⟩ => ⟨r, fun v1 H1 s1 h1 => ⟨r.mono s1, fun v2 H2 s2 h2 => hr v1 v2 H2 Q (h1.mono s2) h2 fun v H' s3 h3 => q v H' (s1.trans (s2.trans s3)) h3⟩⟩
theorem ev_cmp {op : CmpOp} {r : R2} {d1 d2 : D} (ho : OpR X (compareOp op) r) (ha : Ev X a ρ d1) (hb : Ev X b ρ d2) (hm : behindInMarks op b = false)
    (hr : ∀ v1 v2 H Q, Is X.K H v1 d1 → Is X.K H v2 d2 → (∀ v H', Same H H' → Is X.K H' v d → Q v H') → r v1 v2 H Q) : Ev X (.Compare a [op] [b] pos) ρ d :=
  PE.imp (pe_cmpR ho ha hb hm) fun σ H Q ⟨r, q⟩ => ⟨r, fun v1 H1 s1 h1 => ⟨r.mono s1, fun v2 H2 s2 h2 => hr v1 v2 H2 Q (h1.mono s2) h2 fun v H' s3 h3 => q v H' (s1.trans (s2.trans s3)) h3⟩⟩
theorem et_cmp {op : CmpOp} {r : R2} {d1 d2 : D} (ho : OpR X (compareOp op) r) (ha : Ev X a ρ d1) (hb : Ev X b ρ d2) (hm : behindInMarks op b = false)
    (hr : ∀ v1 v2 H Q, Is X.K H v1 d1 → Is X.K H v2 d2 → (∀ v H', Same H H' → Is X.K H' v (.bl k) → Q v H') → r v1 v2 H Q) : Et X (.Compare a [op] [b] pos) ρ k :=
  PT.imp (pt_cmpR ho ha hb hm) fun σ H Q ⟨r, q⟩ => ⟨r, fun v1 H1 s1 h1 => ⟨r.mono s1, fun v2 H2 s2 h2 => hr v1 v2 H2 _ (h1.mono s2) h2 fun v H' s3 h3 => ⟨k, h3.bl_inv, q H' (s1.trans (s2.trans s3))⟩⟩⟩
theorem rI_of {C : Int → Int → Prop} {g : Int → Int → V} (hC : C i j) (hg : ∀ H, Is X.K H (g i j) d) :
    ∀ v1 v2 H Q, Is X.K H v1 (.int i) → Is X.K H v2 (.int j) → (∀ v H', Same H H' → Is X.K H' v d → Q v H') → rI C g v1 v2 H Q :=
  fun _ _ H _ h1 h2 q => ⟨i, j, h1.int_inv, h2.int_inv, hC, q _ H (Same.refl H) (hg H)⟩
theorem rI0_of {g : Int → Int → V} (hg : ∀ H, Is X.K H (g i j) d) :
    ∀ v1 v2 H Q, Is X.K H v1 (.int i) → Is X.K H v2 (.int j) → (∀ v H', Same H H' → Is X.K H' v d → Q v H') → rI0 g v1 v2 H Q :=
  fun _ _ H _ h1 h2 q => ⟨i, j, h1.int_inv, h2.int_inv, q _ H (Same.refl H) (hg H)⟩
theorem ev_add (ha : Ev X a ρ (.int i)) (hb : Ev X b ρ (.int j)) : Ev X (.BinOp a .Add b pos) ρ (.int (i + j)) := ev_op op_add ha hb (rI0_of fun _ => .int _)
theorem ev_sub (ha : Ev X a ρ (.int i)) (hb : Ev X b ρ (.int j)) : Ev X (.BinOp a .Sub b pos) ρ (.int (i - j)) := ev_op op_sub ha hb (rI0_of fun _ => .int _)
theorem op_mulB : OpR X (binaryOp .Mult) (rI IntMulOk fun i j => .int (i * j)) := opI fun _ _ _ _ _ _ _ hc q => mul_int q hc
class Bd (i : Int) (m : outParam Nat) : Prop where
  lt : Builtin.Int.intBits i ≤ m
theorem mulOk {i j : Int} {m n : Nat} (hi : Bd i m) (hj : Bd j n) (h : m + n ≤ 134217728) : IntMulOk i j := IntMulOk.of_le hi.lt hj.lt h
theorem ev_mul {m n : Nat} (ha : Ev X a ρ (.int i)) (hb : Ev X b ρ (.int j)) (hi : Bd i m) (hj : Bd j n) (h : m + n ≤ 134217728 := by decide) : Ev X (.BinOp a .Mult b pos) ρ (.int (i * j)) :=
  ev_op op_mulB ha hb (rI_of (mulOk hi hj h) fun _ => .int _)
theorem ev_mod (ha : Ev X a ρ (.int i)) (hb : Ev X b ρ (.int j)) (h : 0 < j) : Ev X (.BinOp a .Mod b pos) ρ (.int (i % j)) := ev_op op_mod ha hb (rI_of h fun _ => .int _)
def CDivB (_ j : Int) : Prop := 0 < j ∧ Builtin.Int.intBits j ≤ 9000
theorem op_fdivB : OpR X (binaryOp .FloorDiv) (rI CDivB fun i j => .int (i / j)) := opI fun i j _ _ _ _ _ hc q => by
  have h1 : (0 : Int) < j := hc.1
  refine floordiv_int (by omega) (by rw [Int.fdiv_eq_ediv_of_nonneg i (by omega)]; exact q) (.inl (PyProof.noPylong_of_log2 ?_))
  have h2 := intBits_le_iff.mp hc.2
  exact (Nat.log2_lt (by omega)).mpr h2
theorem ev_div {m : Nat} (ha : Ev X a ρ (.int i)) (hb : Ev X b ρ (.int j)) (h : 0 < j) (hj : Bd j m) (hm : m ≤ 9000 := by decide) : Ev X (.BinOp a .FloorDiv b pos) ρ (.int (i / j)) :=
  ev_op op_fdivB ha hb (rI_of ⟨h, Nat.le_trans hj.lt hm⟩ fun _ => .int _)
def CPowB (i j : Int) : Prop := 0 ≤ j ∧ (Builtin.Int.intBits i : Int) * j ≤ 2 ^ 27
theorem op_powB : OpR X (binaryOp .Pow) (rI CPowB fun i j => .int (i ^ j.toNat)) := opI fun _ _ _ _ _ _ _ hc q => pow_int hc.1 hc.2 q
theorem ev_pow {m n : Nat} (ha : Ev X a ρ (.int i)) (hb : Ev X b ρ (.int ((n : Nat) : Int))) (hi : Bd i m) (h : m * n ≤ 134217728 := by decide) : Ev X (.BinOp a .Pow b pos) ρ (.int (i ^ n)) := by
  refine ev_op op_powB ha hb (rI_of ⟨Int.natCast_nonneg n, ?_⟩ fun _ => .int _)
  have h1 : Builtin.Int.intBits i * n ≤ m * n := Nat.mul_le_mul_right n hi.lt
  have h2 : (Builtin.Int.intBits i * n : Nat) ≤ 134217728 := Nat.le_trans h1 h
  have h3 : ((Builtin.Int.intBits i * n : Nat) : Int) ≤ 134217728 := by omega
  rw [Int.natCast_mul] at h3
  exact h3
theorem ev_neg (ha : Ev X a ρ (.int i)) : Ev X (.UnaryOp .USub a pos) ρ (.int (-i)) :=
  PE.imp (pe_un un_neg ha) fun σ H Q ⟨r, q⟩ => ⟨r, fun v1 H1 s1 h1 => ⟨i, h1.int_inv, q _ H1 s1 (.int _)⟩⟩
theorem ev_lt (ha : Ev X a ρ (.int i)) (hb : Ev X b ρ (.int j)) : Ev X (.Compare a [.Lt] [b] pos) ρ (.bl (decide (i < j))) := ev_cmp op_lt ha hb (nomark _) (rI0_of fun _ => .bl _)
theorem ev_gt (ha : Ev X a ρ (.int i)) (hb : Ev X b ρ (.int j)) : Ev X (.Compare a [.Gt] [b] pos) ρ (.bl (decide (j < i))) := ev_cmp op_gt ha hb (nomark _) (rI0_of fun _ => .bl _)
theorem et_lt (ha : Ev X a ρ (.int i)) (hb : Ev X b ρ (.int j)) : Et X (.Compare a [.Lt] [b] pos) ρ (decide (i < j)) := et_cmp op_lt ha hb (nomark _) (rI0_of fun _ => .bl _)
theorem et_le (ha : Ev X a ρ (.int i)) (hb : Ev X b ρ (.int j)) : Et X (.Compare a [.LtE] [b] pos) ρ (decide (i ≤ j)) := et_cmp op_le ha hb (nomark _) (rI0_of fun _ => .bl _)
theorem et_gt (ha : Ev X a ρ (.int i)) (hb : Ev X b ρ (.int j)) : Et X (.Compare a [.Gt] [b] pos) ρ (decide (j < i)) := et_cmp op_gt ha hb (nomark _) (rI0_of fun _ => .bl _)
theorem et_ge (ha : Ev X a ρ (.int i)) (hb : Ev X b ρ (.int j)) : Et X (.Compare a [.GtE] [b] pos) ρ (decide (j ≤ i)) := et_cmp op_ge ha hb (nomark _) (rI0_of fun _ => .bl _)
theorem dec_V {i j : Int} : decide (V.int i = V.int j) = decide (i = j) := by
  by_cases h : i = j
  · subst h; simp
  · rw [decide_eq_false h, decide_eq_false (fun z => h (V.int.inj z))]
theorem rEq_of : ∀ v1 v2 H Q, Is X.K H v1 (.int i) → Is X.K H v2 (.int j) → (∀ v H', Same H H' → Is X.K H' v (.bl (decide (i = j))) → Q v H') → rEq v1 v2 H Q := fun v1 v2 H Q h1 h2 q => by
  cases h1.int_inv; cases h2.int_inv
  exact ⟨rfl, by rw [dec_V]; exact q _ H (Same.refl H) (.bl _)⟩
theorem rNe_of : ∀ v1 v2 H Q, Is X.K H v1 (.int i) → Is X.K H v2 (.int j) → (∀ v H', Same H H' → Is X.K H' v (.bl (!decide (i = j))) → Q v H') → rNe v1 v2 H Q := fun v1 v2 H Q h1 h2 q => by
  cases h1.int_inv; cases h2.int_inv
  exact ⟨rfl, by rw [dec_V]; exact q _ H (Same.refl H) (.bl _)⟩
theorem et_eq (ha : Ev X a ρ (.int i)) (hb : Ev X b ρ (.int j)) : Et X (.Compare a [.Eq] [b] pos) ρ (decide (i = j)) := et_cmp op_eq ha hb (nomark _) rEq_of
theorem et_ne (ha : Ev X a ρ (.int i)) (hb : Ev X b ρ (.int j)) : Et X (.Compare a [.NotEq] [b] pos) ρ (!decide (i = j)) := et_cmp op_ne ha hb (nomark _) rNe_of
theorem rEqb_of : ∀ v1 v2 H Q, Is X.K H v1 (.bl k) → Is X.K H v2 (.bl k') → (∀ v H', Same H H' → Is X.K H' v (.bl (k == k')) → Q v H') → rEq v1 v2 H Q := fun v1 v2 H Q h1 h2 q => by
  cases h1.bl_inv; cases h2.bl_inv
  exact ⟨rfl, by rw [dec_bl]; exact q _ H (Same.refl H) (.bl _)⟩
theorem ev_eqb (ha : Ev X a ρ (.bl k)) (hb : Ev X b ρ (.bl k')) : Ev X (.Compare a [.Eq] [b] pos) ρ (.bl (k == k')) := ev_cmp op_eq ha hb (nomark _) rEqb_of
theorem et_val (h : Ev X e ρ (.bl k)) (he : ∀ whole, isTrue e X.env whole = (do let v ← whole; standAt e.pos; holding [v] (truthy v)) := by intro _; rfl) : Et X e ρ k :=
  PT.imp (pt_val h he) fun σ H Q ⟨r, q⟩ => ⟨r, fun v H' s h => ⟨k, h.bl_inv, q H' s⟩⟩
theorem et_not (h : Et X a ρ k) : Et X (.UnaryOp .Not a pos) ρ (!k) := PT.imp (pt_not h) fun σ H Q ⟨r, q⟩ => ⟨r, fun H' s => q H' s⟩
theorem et_notT (h : Et X a ρ true) : Et X (.UnaryOp .Not a pos) ρ false := et_not h
theorem et_notF (h : Et X a ρ false) : Et X (.UnaryOp .Not a pos) ρ true := et_not h
theorem ew_and1 (h : Et X a ρ k) : Ew X (.BoolOp .And [a] pos) ρ k := PW.imp (pw_and1 h) fun _ _ _ q => q
theorem ew_or1 (h : Et X a ρ k) : Ew X (.BoolOp .Or [a] pos) ρ k := PW.imp (pw_or1 h) fun _ _ _ q => q
theorem ew_andF {rest : List Expr} (h : Et X a ρ false) : Ew X (.BoolOp .And (a :: b :: rest) pos) ρ false :=
  PW.imp (pw_and (tB' := fun _ _ _ => False) h (fun _ _ _ _ _ _ _ z => z.elim)) fun σ H Q ⟨r, q⟩ => ⟨r, fun H' s => iteF (q H' s)⟩
theorem ew_andT {rest : List Expr} (h : Et X a ρ true) (h2 : Ew X (.BoolOp .And (b :: rest) pos) ρ k) : Ew X (.BoolOp .And (a :: b :: rest) pos) ρ k :=
  PW.imp (pw_and h h2) fun σ H Q ⟨r, q⟩ => ⟨r, fun H' s => iteT ⟨r.mono s, fun H'' s' => q H'' (s.trans s')⟩⟩
theorem ew_orT {rest : List Expr} (h : Et X a ρ true) : Ew X (.BoolOp .Or (a :: b :: rest) pos) ρ true :=
  PW.imp (pw_or (tB' := fun _ _ _ => False) h (fun _ _ _ _ _ _ _ z => z.elim)) fun σ H Q ⟨r, q⟩ => ⟨r, fun H' s => iteT (q H' s)⟩
theorem ew_orF {rest : List Expr} (h : Et X a ρ false) (h2 : Ew X (.BoolOp .Or (b :: rest) pos) ρ k) : Ew X (.BoolOp .Or (a :: b :: rest) pos) ρ k :=
  PW.imp (pw_or h h2) fun σ H Q ⟨r, q⟩ => ⟨r, fun H' s => iteF ⟨r.mono s, fun H'' s' => q H'' (s.trans s')⟩⟩
theorem Et.to (h : Et X e ρ k) (z : k = k') : Et X e ρ k' := z ▸ h
theorem Ev.to {d' : D} (h : Ev X e ρ d) (z : d = d') : Ev X e ρ d' := z ▸ h
theorem et_w (h : Ew X e ρ k) : Et X e ρ k := PW.pt h
theorem ev_one {op} (h : Ev X a ρ d) : Ev X (.BoolOp op [a] pos) ρ d := pe_one h
theorem ev_andF {rest : List Expr} (h : Ev X a ρ (.bl false)) : Ev X (.BoolOp .And (a :: b :: rest) pos) ρ (.bl false) :=
  PE.imp (pe_and (tb := fun _ _ _ => False) h (fun _ _ _ _ _ _ z => z.elim)) fun σ H Q ⟨r, q⟩ => ⟨r, fun v H' s h => ⟨false, h.bl_inv, iteF (q _ H' s (.bl false))⟩⟩
theorem ev_andT {rest : List Expr} (h : Ev X a ρ (.bl true)) (h2 : Ev X (.BoolOp .And (b :: rest) pos) ρ d) : Ev X (.BoolOp .And (a :: b :: rest) pos) ρ d :=
  PE.imp (pe_and h h2) fun σ H Q ⟨r, q⟩ => ⟨r, fun v H' s h => ⟨true, h.bl_inv, iteT ⟨r.mono s, fun v' H'' s' h' => q v' H'' (s.trans s') h'⟩⟩⟩
theorem ev_not (h : Ev X a ρ (.bl k)) : Ev X (.UnaryOp .Not a pos) ρ (.bl (!k)) :=
  PE.imp (pe_not h) fun σ H Q ⟨r, q⟩ => ⟨r, fun v H' s h => ⟨k, h.bl_inv, q _ H' s (.bl _)⟩⟩
theorem ev_notF (h : Ev X a ρ (.bl false)) : Ev X (.UnaryOp .Not a pos) ρ (.bl true) := ev_not h
theorem ev_ifT (hc : Et X c ρ true) (ha : Ev X a ρ d) : Ev X (.IfExp c a b pos) ρ d :=
  PE.imp (pe_ifExp (tb := fun _ _ _ => False) hc ha (fun _ _ _ _ _ _ z => z.elim)) fun σ H Q ⟨r, q⟩ => ⟨r, fun H' s => iteT ⟨r.mono s, fun v H'' s' h => q v H'' (s.trans s') h⟩⟩
theorem ev_ifF (hc : Et X c ρ false) (hb : Ev X b ρ d) : Ev X (.IfExp c a b pos) ρ d :=
  PE.imp (pe_ifExp (ta := fun _ _ _ => False) hc (fun _ _ _ _ _ _ z => z.elim) hb) fun σ H Q ⟨r, q⟩ => ⟨r, fun H' s => iteF ⟨r.mono s, fun v H'' s' h => q v H'' (s.trans s') h⟩⟩
theorem ea_nil : EvA X [] ρ [] := PA.imp pa_nil fun _ H _ ⟨_, q⟩ => q [] H (Same.refl H) .nil
theorem ea_cons (ha : Ev X e ρ d) (hr : EvA X es ρ ds) (hs : starEach (e :: es) X.env = (false, eval e X.env) :: starEach es X.env := by rfl) : EvA X (e :: es) ρ (d :: ds) :=
  PA.imp (pa_cons ha hr hs) fun σ H Q ⟨r, q⟩ => ⟨r, fun v H1 s1 h1 => ⟨r.mono s1, fun vs H2 s2 h2 => q _ H2 (s1.trans s2) (.cons (h1.mono s2) h2)⟩⟩
theorem same_new {H : Hp} {p : Addr} {o : HO} (h : H p = none) : Same H (upd H p o) := fun b u e => by
  rw [upd_ne (ne_of_none e h)]; exact e
theorem ev_tup {m} (h : EvA X es ρ ds) (hl : ds.length ≤ 1000 := by exact Nat.le_of_ble_eq_true rfl) : Ev X (.Tuple es m pos) ρ (.tup ds) :=
  PE.imp (pe_tup h) fun σ H Q ⟨r, q⟩ => ⟨r, fun vs H1 s1 h1 => ⟨by rw [h1.length]; exact Nat.le_of_lt (small1000 hl), fun p hp => q _ _ (s1.trans (same_new hp)) (.tup upd_same (h1.mono (same_new hp)))⟩⟩
theorem atI_map {K : PySem.W.Frag} {H : Hp} {vs : List V} {ds : List D} (h : IsAll K H vs ds) {d : D} (e : atI ds i = some d) : ∃ v, atI vs i = some v ∧ Is K H v d := by
  unfold atI at e ⊢
  rw [h.length]
  cases q : ixN ds.length i with
  | none => rw [q] at e; cases e
  | some n =>
    rw [q] at e
    exact h.get (i := n) e
theorem ev_ix (ha : Ev X a ρ (.tup ds)) (hb : Ev X b ρ (.int i)) (hi : atI ds i = some d) (hs : PlainIx b := by exact fun _ _ => rfl) : Ev X (.Subscript a b pos) ρ d :=
  PE.imp (pe_ix ix_tup ha hb hs) fun σ H Q ⟨r, q⟩ => ⟨r, fun v1 H1 s1 h1 => ⟨r.mono s1, fun v2 H2 s2 h2 => by
    obtain ⟨p, xs, rfl, h3, h4⟩ := (h1.mono s2).tup_inv
    obtain ⟨v, e, h5⟩ := atI_map h4 hi
    exact ⟨p, xs, i, v, rfl, h2.int_inv, h3, e, q v H2 (s1.trans s2) h5⟩⟩⟩
theorem ev_ixl {d' : D} (ha : Ev X a ρ d') (hl : lsD d' = some ds) (hb : Ev X b ρ (.int i)) (hi : atI ds i = some d) (hs : PlainIx b := by exact fun _ _ => rfl) : Ev X (.Subscript a b pos) ρ d :=
  PE.imp (pe_ix ix_list ha hb hs) fun σ H Q ⟨r, q⟩ => ⟨r, fun v1 H1 s1 h1 => ⟨r.mono s1, fun v2 H2 s2 h2 => by
    obtain ⟨l, xs, rfl, h3, h4⟩ := (h1.mono s2).lsD_inv hl
    obtain ⟨v, e, h5⟩ := atI_map h4 hi
    exact ⟨l, xs, i, v, rfl, h2.int_inv, h3, e, q v H2 (s1.trans s2) h5⟩⟩⟩
theorem ev_callB {x : Str} {id : String} {r : List V → Hp → VK → Prop} (hc : CallR X (.builtin id) r) (hm : X.mg x = none) (hv : bootBuiltins x = some (.builtin id)) (ha : EvA X (e :: es) ρ ds)
    (hr : ∀ vs H Q, IsAll X.K H vs ds → (∀ v H', Same H H' → Is X.K H' v d → Q v H') → r vs H Q)
    (hg : Gl X x := by rfl) (hn : x ≠ "__name__" := by decide) (hdb : (x == ("__debug__" : Str)) = false := by decide)
    (he : starEach (e :: es) X.env = (false, eval e X.env) :: starEach es X.env := by rfl) (hpl : (backTo pos (starEach es X.env)).any (·.1) = false := by rfl) {p : Pos} : Ev X (.Call (.Name x p) (e :: es) [] pos) ρ d :=
  PE.imp (pe_callB hc hg hm hv ha hn hdb he hpl) fun σ H Q ⟨r, q⟩ => ⟨r, fun vs H1 s1 h1 => hr vs H1 Q h1 fun v H' s' h => q v H' (s1.trans s') h⟩
theorem one_inv {K : PySem.W.Frag} {H : Hp} {vs : List V} {d : D} (h : IsAll K H vs [d]) : ∃ v, vs = [v] ∧ Is K H v d := by
  cases h with
  | cons h r => cases r; exact ⟨_, rfl, h⟩
theorem two_inv {K : PySem.W.Frag} {H : Hp} {vs : List V} {d d' : D} (h : IsAll K H vs [d, d']) : ∃ v v', vs = [v, v'] ∧ Is K H v d ∧ Is K H v' d' := by
  cases h with
  | cons h r =>
    obtain ⟨v', rfl, h'⟩ := one_inv r
    exact ⟨_, _, rfl, h, h'⟩
theorem ev_abs {p : Pos} (hm : X.mg "abs" = none) (ha : Ev X a ρ (.int i)) (hg : Gl X "abs" := by rfl) (he : starEach [a] X.env = [(false, eval a X.env)] := by rfl) : Ev X (.Call (.Name "abs" p) [a] [] pos) ρ (.int (i.natAbs : Int)) :=
  ev_callB call_abs hm (by decide +kernel) (ea_cons ha ea_nil he) (fun vs H Q h0 q => by
    obtain ⟨v, rfl, h⟩ := one_inv h0
    cases h.int_inv
    refine ⟨i, rfl, ?_⟩
    have e : (if i < 0 then -i else i) = (i.natAbs : Int) := by split <;> omega
    rw [e]
    exact q _ H (Same.refl H) (.int _)) hg (by decide) (by decide) he rfl
def lenD : D → Option Nat
  | .tup ds => some ds.length
  | .ls ds => some ds.length
  | .lst _ ds => some ds.length
  | .kt ds => some ds.length
  | .fl ds => some ds.length
  | .str x => if x.length ≤ 16777216 then some x.length else none
  | _ => none
theorem ev_len {p : Pos} {n : Nat} (hm : X.mg "len" = none) (ha : Ev X a ρ d) (hl : lenD d = some n) (hg : Gl X "len" := by rfl) (he : starEach [a] X.env = [(false, eval a X.env)] := by rfl) : Ev X (.Call (.Name "len" p) [a] [] pos) ρ (.int (n : Int)) :=
  ev_callB call_len hm (by decide +kernel) (ea_cons ha ea_nil he) (fun vs H Q h0 q => by
    obtain ⟨v, rfl, h⟩ := one_inv h0
    refine ⟨v, n, rfl, ?_, q _ H (Same.refl H) (.int _)⟩
    cases d with
    | tup ds =>
      obtain ⟨a, xs, rfl, h1, h2⟩ := h.tup_inv
      cases hl
      exact .inr ⟨xs, h1, h2.length.symm⟩
    | ls ds =>
      obtain ⟨a, xs, rfl, h1, h2⟩ := h.ls_inv
      cases hl
      exact .inl ⟨xs, h1, h2.length.symm⟩
    | lst a ds =>
      obtain ⟨rfl, xs, h1, h2⟩ := h.lst_inv
      cases hl
      exact .inl ⟨xs, .of h1, h2.length.symm⟩
    | kt ds =>
      obtain ⟨a, xs, rfl, h1, h2⟩ := h.kt_inv
      cases hl
      exact .inr ⟨xs, h1, h2.length.symm⟩
    | fl ds =>
      obtain ⟨a, o, xs, rfl, h1, h2⟩ := h.fl_inv
      cases hl
      exact .inl ⟨xs, .inl (.inr ⟨o, h1⟩), h2.length.symm⟩
    | str x =>
      cases h.str_inv
      have hl' : (if x.length ≤ 16777216 then some x.length else none) = some n := hl
      by_cases hx : x.length ≤ 16777216
      · rw [if_pos hx] at hl'
        cases hl'
        exact ⟨by rw [sizeLine_eq]; exact hx, rfl⟩
      · rw [if_neg hx] at hl'
        cases hl'
    | _ => cases hl) hg (by decide) (by decide) he rfl
end
def tyD : D → Option String
  | .non => some "NoneType"
  | .bl _ => some "bool"
  | .int _ => some "int"
  | .str _ => some "str"
  | .tup _ => some "tuple"
  | .ls _ => some "list"
  | .lst _ _ => some "list"
  | .ty _ => none
  | .ob _ => none
  | .kt _ => some "tuple"
  | .fl _ => some "list"
  | .fd _ _ _ => none
  | .dc _ _ _ _ => none
  | .qi _ _ => none
  | .exn _ => none
theorem call_isi {X : Cx} {d : D} {T U : String} {k : Bool} (ht : tyD d = some T) (hk : PySem.W.kitOne X.K (.type T) (.type U) = some k) :
    CallR X (.builtin "isinstance") (fun vs H Q => ∃ v, vs = [v, .ty U] ∧ Is X.K H v d ∧ Q (.bl k) H) := by
  intro pins s σ H xs us Q I r h
  obtain ⟨v, rfl, h, q⟩ := h
  obtain ⟨u, w', rfl, rx, ry⟩ := vals2 r
  cases ry
  have fin : ∀ tk, EP X pins σ Q (.bool k) { s with toks := tk } := fun tk => ⟨.bl k, H, I.tok tk, rfl, q⟩
  cases d with
  | non => cases h.non_inv; cases ht; exact isinst_ok I rx .non hk fin
  | bl b => cases h.bl_inv; cases ht; exact isinst_ok I rx (.bl b) hk fin
  | int i => cases h.int_inv; cases ht; exact isinst_ok I rx (.int i) hk fin
  | str x => cases h.str_inv; cases ht; exact isinst_ok I rx (.str x) hk fin
  | tup ds =>
    obtain ⟨a, xs, rfl, h1, _⟩ := h.tup_inv
    cases ht
    cases rx
    obtain ⟨its, _, ⟨o, e1, e2, _⟩, _⟩ := I.tuple h1
    exact PySem.W.kia_one PySem.W.kitx_tuple I.kIn ⟨o, e1, e2⟩ hk (fun z => nomatch z) fin
  | ls ds =>
    obtain ⟨a, xs, rfl, h1, _⟩ := h.ls_inv
    cases ht
    cases rx
    obtain ⟨its, _, p, _⟩ := I.list h1
    obtain ⟨o, e1, e2, _⟩ := p.isList
    exact PySem.W.kia_one PySem.W.kitx_list I.kIn ⟨o, e1, e2⟩ hk (fun z => nomatch z) fin
  | lst a ds =>
    obtain ⟨rfl, xs, h1, _⟩ := h.lst_inv
    cases ht
    cases rx
    obtain ⟨its, _, p, _⟩ := I.list (.of h1)
    obtain ⟨o, e1, e2, _⟩ := p.isList
    exact PySem.W.kia_one PySem.W.kitx_list I.kIn ⟨o, e1, e2⟩ hk (fun z => nomatch z) fin
  | kt ds =>
    obtain ⟨a, xs, rfl, h1, _⟩ := h.kt_inv
    cases ht
    cases rx
    obtain ⟨its, _, ⟨o, e1, e2, _⟩, _⟩ := I.tuple h1
    exact PySem.W.kia_one PySem.W.kitx_tuple I.kIn ⟨o, e1, e2⟩ hk (fun z => nomatch z) fin
  | fl ds =>
    obtain ⟨a, ob, xs, rfl, h1, _⟩ := h.fl_inv
    cases ht
    cases rx
    obtain ⟨its, _, p, _⟩ := I.list (.inl (.inr ⟨ob, h1⟩))
    obtain ⟨o, e1, e2, _⟩ := p.isList
    exact PySem.W.kia_one PySem.W.kitx_list I.kIn ⟨o, e1, e2⟩ hk (fun z => nomatch z) fin
  | qi C ds => cases ht
  | exn C => cases ht
  | ty n => cases ht
  | ob a => cases ht
  | fd t ks vs => cases ht
  | dc a t ks vs => cases ht
section
variable {X : Cx} {e a b c : Expr} {es : List Expr} {ρ : Ro} {d : D} {ds : List D} {pos : Pos} {i j : Int} {k k' : Bool}
theorem ev_isi {x : Str} {U T : String} {p p2 : Pos} (hm : X.mg "isinstance" = none) (ha : Ev X a ρ d) (hmT : X.mg x = none) (hv : bootBuiltins x = some (.type U)) (ht : tyD d = some T) (hk : PySem.W.kitOne X.K (.type T) (.type U) = some k)
    (hg : Gl X "isinstance" := by rfl) (hgT : Gl X x := by rfl) (hn : x ≠ "__name__" := by decide) (hd : (x == ("__debug__" : Str)) = false := by decide)
    (he : starEach [a, .Name x p2] X.env = [(false, eval a X.env), (false, eval (.Name x p2) X.env)] := by rfl) (hb : (backTo pos (starEach [.Name x p2] X.env)).any (·.1) = false := by rfl) :
    Ev X (.Call (.Name "isinstance" p) [a, .Name x p2] [] pos) ρ (.bl k) :=
  ev_callB (call_isi ht hk) hm (by decide +kernel) (ea_cons ha (ea_cons (ev_ty hmT hv hgT hn hd) ea_nil) he) (fun vs H Q h q => by
    obtain ⟨v, v', rfl, h1, h2⟩ := two_inv h
    cases h2.ty_inv
    exact ⟨v, rfl, h1, q _ H (Same.refl H) (.bl k)⟩) hg (by decide) (by decide) he hb
end
end FL
namespace FL
open PySem PySem.Spec PyProof.Rows L2
structure Po where
  nx : Ro → Prop
  rt : D → Prop
  bk : Ro → Prop := fun _ => False
  ct : Ro → Prop := fun _ => False
def tPo (X : Cx) (ρ : Ro) (P : Po) : TS := fun D σ H => RelS X X.H₀ H σ ρ ∧ (∀ σ' H' ρ', Go ρ H ρ' H' → RelS X X.H₀ H' σ' ρ' → P.nx ρ' → D.nx σ' H') ∧ (∀ v H' d, Same X.H₀ H' → Is X.K H' v d → (∀ a, ownA d = some a → X.H₀ a = none) → P.rt d → D.rt v H') ∧
  (∀ σ' H' ρ', Go ρ H ρ' H' → RelS X X.H₀ H' σ' ρ' → P.bk ρ' → D.bk σ' H') ∧ (∀ σ' H' ρ', Go ρ H ρ' H' → RelS X X.H₀ H' σ' ρ' → P.ct ρ' → D.ct σ' H')
def Do (X : Cx) (sts : List Stmt) (ρ : Ro) (P : Po) : Prop := PSs X sts (tPo X ρ P)
section
variable {X : Cx} {e a b c : Expr} {es : List Expr} {ρ : Ro} {d : D} {ds : List D} {pos : Pos} {i j : Int} {k k' : Bool} {rest A B : List Stmt} {P : Po} {st : Stmt}
theorem do_nil (h : P.nx ρ) : Do X [] ρ P := PSs.imp pss_nil fun D σ H ⟨r, q, _⟩ => q σ H ρ (Go.refl ρ H) r h
theorem Do.mono {Q : Po} (h : Do X A ρ P) (h1 : ∀ ρ, P.nx ρ → Q.nx ρ) (h2 : ∀ d, P.rt d → Q.rt d) (h3 : ∀ ρ, P.bk ρ → Q.bk ρ) (h4 : ∀ ρ, P.ct ρ → Q.ct ρ) : Do X A ρ Q :=
  PSs.imp h fun D σ H ⟨r, q1, q2, q3, q4⟩ => ⟨r, fun σ' H' ρ' g r' p => q1 σ' H' ρ' g r' (h1 _ p), fun v H' d s i o p => q2 v H' d s i o (h2 _ p), fun σ' H' ρ' g r' p => q3 σ' H' ρ' g r' (h3 _ p), fun σ' H' ρ' g r' p => q4 σ' H' ρ' g r' (h4 _ p)⟩
theorem do_seq {M : Ro → Prop} (h1 : PS X st (tPo X ρ { P with nx := M })) (h2 : ∀ ρ', M ρ' → Do X rest ρ' P) : Do X (st :: rest) ρ P := by
  refine PSs.imp (pss_cons (u := fun D σ H => ∃ ρ', M ρ' ∧ tPo X ρ' P D σ H) h1 (fun pins s σ H D I ⟨ρ', m, q⟩ => h2 ρ' m pins s σ H D I q)) ?_
  rintro D σ H ⟨r, q1, q2, q3, q4⟩
  exact ⟨r, fun σ' H' ρ' g r' m => ⟨ρ', m, r', fun σ2 H2 ρ2 g2 => q1 σ2 H2 ρ2 (g.trans g2), q2, fun σ2 H2 ρ2 g2 => q3 σ2 H2 ρ2 (g.trans g2), fun σ2 H2 ρ2 g2 => q4 σ2 H2 ρ2 (g.trans g2)⟩, q2, q3, q4⟩
theorem do_ret (he : Ev X e ρ d) (h : P.rt d) (hn : ∀ a, ownA d = some a → Mu ρ a := by intro _ z; cases z) : Do X (.Return (some e) pos :: rest) ρ P := by
  refine PSs.imp (pss_cons (u := tNever) (ps_ret he) pss_never) ?_
  rintro D σ H ⟨r, q1, q2, q3, q4⟩
  exact ⟨r.e, fun v H' s h' => q2 v H' d (r.same.trans s) h' (fun a z => r.own a (hn a z)) h⟩
theorem do_set (n : Nat) {x : Str} {pos' : Pos} (he : Ev X e ρ d) (hz : Fz d) (h : Do X rest (ρ.set n (some d)) P) (hN : X.N.Nodup) (hi : X.N[n]? = some x := by rfl) (hx : Loc X.env.scope x := by first | exact Or.inl rfl | exact Or.inr rfl)
    (hs : swapsWith e (some (.Name x pos')) pos.line X.env = pure false := by rfl) (hf : X.fn x = true ∨ X.env.scope.names.lookup x = some .local := by first | exact .inl rfl | exact .inr rfl) : Do X (.Assign [.Name x pos'] e pos :: rest) ρ P := by
  refine do_seq (M := fun ρ' => ρ' = ρ.set n (some d)) (PS.imp (ps_set hN hi hx he hs hf) ?_) (fun _ z => z ▸ h)
  rintro D σ H ⟨r, q1, q2, q3, q4⟩
  exact ⟨r.e, fun v H' s h' => q1 _ H' _ (Go.set s fun a z => (hz.no_own z).elim) ((r.mono s).set h' n (.inl hz) fun a z => (hz.no_own z).elim) rfl⟩
theorem do_expr (he : Ev X e ρ d) (h : Do X rest ρ P) (hs : swapsWith e none pos.line X.env = pure false := by rfl) : Do X (.Expr e pos :: rest) ρ P := by
  refine do_seq (M := fun ρ' => ρ' = ρ) (PS.imp (ps_expr he hs) ?_) (fun _ z => z ▸ h)
  rintro D σ H ⟨r, q1, q2, q3, q4⟩
  exact ⟨r.e, fun v H' s h' => q1 _ H' _ (Go.same s) (r.mono s) rfl⟩
theorem do_if (M : Ro → Prop) (hc : Et X c ρ k) (hA : k = true → Do X A ρ { P with nx := M }) (hB : k = false → Do X B ρ { P with nx := M }) (h : ∀ ρ', M ρ' → Do X rest ρ' P) : Do X (.If c A B pos :: rest) ρ P := by
  refine do_seq (M := M) (PS.imp (ps_if hc (t := fun D σ H => k = true ∧ tPo X ρ { P with nx := M } D σ H) (u := fun D σ H => k = false ∧ tPo X ρ { P with nx := M } D σ H)
    (fun pins s σ H D I ⟨z, q⟩ => hA z pins s σ H D I q) (fun pins s σ H D I ⟨z, q⟩ => hB z pins s σ H D I q)) ?_) h
  rintro D σ H ⟨r, q1, q2, q3, q4⟩
  refine ⟨r.e, fun H' s => ?_⟩
  have q : tPo X ρ { P with nx := M } D σ H' := ⟨r.mono s, fun σ2 H2 ρ2 g2 => q1 σ2 H2 ρ2 ((Go.same s).trans g2), q2, fun σ2 H2 ρ2 g2 => q3 σ2 H2 ρ2 ((Go.same s).trans g2), fun σ2 H2 ρ2 g2 => q4 σ2 H2 ρ2 ((Go.same s).trans g2)⟩
  cases k with
  | true => exact iteT ⟨rfl, q⟩
  | false => exact iteF ⟨rfl, q⟩
theorem do_ifF (hc : Et X c ρ false) (h : Do X rest ρ P) : Do X (.If c A [] pos :: rest) ρ P :=
  do_if (fun ρ' => ρ' = ρ) hc (fun z => by cases z) (fun _ => do_nil rfl) (fun _ z => z ▸ h)
theorem do_ifR (hc : Et X c ρ k) (hA : k = true → Do X A ρ { P with nx := fun _ => False }) (h : k = false → Do X rest ρ P) : Do X (.If c A [] pos :: rest) ρ P :=
  do_if (fun ρ' => ρ' = ρ ∧ k = false) hc (fun z => (hA z).mono (fun _ f => f.elim) (fun _ p => p) (fun _ p => p) (fun _ p => p)) (fun z => do_nil ⟨rfl, z⟩) (fun _ z => z.1 ▸ h z.2)
theorem do_while (Iv M : Ro → Prop) (μ : Ro → Nat) (hp : PassesOwn (model X.prog X.w) X.A X.env X.xe) (h0 : Iv ρ)
    (hs : ∀ ρ, Iv ρ → ∃ k, Et X c ρ k ∧ (k = true → Do X A ρ { nx := fun ρ' => Iv ρ' ∧ μ ρ' < μ ρ, rt := P.rt, bk := M, ct := fun ρ' => Iv ρ' ∧ μ ρ' < μ ρ }) ∧ (k = false → M ρ))
    (h : ∀ ρ', M ρ' → Do X rest ρ' P) : Do X (.While c A [] pos :: rest) ρ P := by
  refine do_seq (M := M) ?_ h
  have hc : PT X c (fun σ H Q => ∃ ρ k, Et X c ρ k ∧ tB X ρ k σ H Q) := fun pins s σ H Q I ⟨ρ, k, e, q⟩ => e pins s σ H Q I q
  have hb : PSs X A (fun D σ H => ∃ ρ, Do X A ρ { nx := fun ρ' => Iv ρ' ∧ μ ρ' < μ ρ, rt := P.rt, bk := M, ct := fun ρ' => Iv ρ' ∧ μ ρ' < μ ρ } ∧ tPo X ρ { nx := fun ρ' => Iv ρ' ∧ μ ρ' < μ ρ, rt := P.rt, bk := M, ct := fun ρ' => Iv ρ' ∧ μ ρ' < μ ρ } D σ H) :=
    fun pins s σ H D I ⟨ρ, e, q⟩ => e pins s σ H D I q
  refine PS.imp (ps_while hp hc hb) ?_
  rintro D σ H ⟨r, q1, q2, q3, q4⟩
  refine ⟨fun m σ' H' => ∃ ρ', m = μ ρ' ∧ Iv ρ' ∧ RelS X X.H₀ H' σ' ρ' ∧ Go ρ H ρ' H', ⟨_, ρ, rfl, h0, r, Go.refl ρ H⟩, ?_⟩
  rintro m σ1 H1 ⟨ρ1, rfl, iv, r1, g1⟩
  obtain ⟨k, et, ht, hf⟩ := hs ρ1 iv
  refine ⟨ρ1, k, et, r1.e, fun H2 s => ?_⟩
  have g2 : Go ρ H ρ1 H2 := g1.trans (Go.same s)
  cases k with
  | true =>
    refine iteT ⟨fun σ' H' => ∃ ρ', Iv ρ' ∧ μ ρ' < μ ρ1 ∧ RelS X X.H₀ H' σ' ρ' ∧ Go ρ H ρ' H', fun σ' H' ⟨ρ', a, b, c, g⟩ => ⟨_, b, ρ', rfl, a, c, g⟩, ρ1, ht rfl, r1.mono s, ?_, q2, ?_, ?_⟩
    · exact fun σ' H' ρ' g r' ⟨a, b⟩ => ⟨ρ', a, b, r', g2.trans g⟩
    · exact fun σ' H' ρ' g r' m => q1 σ' H' ρ' (g2.trans g) r' m
    · exact fun σ' H' ρ' g r' ⟨a, b⟩ => ⟨ρ', a, b, r', g2.trans g⟩
  | false => exact iteF (q1 σ1 H2 ρ1 g2 (r1.mono s) (hf rfl))
end
def SpD (K : PySem.W.Frag) (Pf : List D → D → Prop) : Sp := fun vs H Q _ => ∃ ds d, IsAll K H vs ds ∧ Pf ds d ∧ ∀ v H', Same H H' → Is K H' v d → Q v H'
def Fn (P : Program) (w : World) (K : PySem.W.Frag) (mg : Str → Option Value) (base : Heap) (k : Nat) (x : Str) (Pf : List D → D → Prop) : Prop :=
  ∃ f fd ps, FnOk P w K mg base CX0 k f fd ps (SpD K Pf) ∧ mg x = some (.ref f) ∧ PySem.W.keepIn K (.ref f) = true ∧ Binds K fd ps []
section
variable {X : Cx} {e a b c : Expr} {es : List Expr} {ρ : Ro} {d : D} {ds : List D} {pos : Pos}
theorem ev_call {k : Nat} {x : Str} {Pf : List D → D → Prop} {p : Pos} (C : Fn X.prog X.w X.K X.mg X.base k x Pf) (hr : Room k X.A) (ha : EvA X (e :: es) ρ ds) (hp : Pf ds d) (hg : Gl X x := by rfl) (hdb : (x == ("__debug__" : Str)) = false := by decide)
    (he : starEach (e :: es) X.env = (false, eval e X.env) :: starEach es X.env := by rfl) (hpl : (backTo pos (starEach es X.env)).any (·.1) = false := by rfl) : Ev X (.Call (.Name x p) (e :: es) [] pos) ρ d := by
  obtain ⟨f, fd, ps, F, hm, hk, hb⟩ := C
  refine PE.imp (pe_call F hr hg hm hk hb .nil pass0 ha hdb he hpl) ?_
  rintro σ H Q ⟨r, q⟩
  refine ⟨r, fun vs H1 s1 h1 => ⟨ds, d, ?_, hp, fun v H' s' h' => q v H' (s1.trans s') h'⟩⟩
  rw [List.append_nil]
  exact h1
end
section
variable {P : Program} {w : World} {K : PySem.W.Frag} {mg : Str → Option Value} {base : Heap}
theorem relS_start {X : Cx} {N : List Str} {vs : List V} {ds : List D} (h : IsAll X.K X.H₀ vs ds) (nl : ∀ d ∈ ds, ownA d = none) : RelS X X.H₀ X.H₀ (L2.start N vs) (ds.map some ++ List.replicate (N.length - ds.length) none) := by
  refine ⟨Same.refl _, ?_, fun i d e => ?_, fun a ⟨i, es, e, hz⟩ => ?_⟩
  · unfold L2.start
    simp [h.length]
  · have hi : ds[i]? = some d := by
      by_cases hl : i < ds.length
      · rw [List.getElem?_append_left (by simpa using hl), List.getElem?_map] at e
        cases q : ds[i]? with
        | none => rw [q] at e; cases e
        | some z => rw [q] at e; cases e; rfl
      · rw [List.getElem?_append_right (by simpa using hl), List.getElem?_replicate] at e
        split at e <;> cases e
    obtain ⟨v, e1, h1⟩ := h.get hi
    refine ⟨v, ?_, h1, .inr (.inl h1)⟩
    unfold L2.start
    have hl : i < vs.length := (List.getElem?_eq_some_iff.mp e1).1
    rw [List.getElem?_append_left (by simpa using hl), List.getElem?_map, e1]
    rfl
  · exfalso
    by_cases hl : i < ds.length
    · rw [List.getElem?_append_left (by simpa using hl), List.getElem?_map] at e
      cases q : ds[i]? with
      | none => rw [q] at e; cases e
      | some z => rw [q] at e; cases e; rw [nl _ (List.mem_of_getElem? q)] at hz; cases hz
    · rw [List.getElem?_append_right (by simpa using hl), List.getElem?_replicate] at e
      split at e <;> cases e
abbrev cxD (P : Program) (w : World) (K : PySem.W.Frag) (mg : Str → Option Value) (base : Heap) (N : List Str) (qual : Str) (st : Stmt) (f : Addr) (cdv : Value) (A : Around) (outer : List Env) (s : Shared) (H : Hp) (E : XK) : Cx :=
  (cxOf CX0 P w K mg base N qual (defScope st) f cdv A outer s H E).nox
abbrev ini (N : List Str) (ds : List D) : Ro := ds.map some ++ List.replicate (N.length - ds.length) none
theorem fn_ok {x qual : Str} {st : Stmt} {f : Addr} {fd : FuncData} {N ps : List Str} {k : Nat} {Pf : List D → D → Prop} (F : Fun K x qual st f fd) (S : FnScope N ps (defScope st))
    (hl : ∀ ds d, Pf ds d → ds.length = ps.length ∧ ∀ d ∈ ds, ownA d = none)
    (hbody : ∀ (cdv : Value) (A : Around) (outer : List Env) (s : Shared) (H : Hp) (E : XK), Room k (A.deeper (envOfC qual (defScope st) s.heap.objs.size f cdv)) → ∀ ds d, Pf ds d →
      Do (cxD P w K mg base N qual st f cdv A outer s H E) (defBody st) (ini N ds) { nx := fun _ => d = .non, rt := fun d' => d' = d }) : FnOk P w K mg base CX0 (k + 1) f fd ps (SpD K Pf) := by
  refine F.ok S (fun vs H Q E h => ?_) (fun cdv A outer s H vs Q E hr h => ?_)
  · obtain ⟨ds, d, h1, h2, _⟩ := h
    rw [h1.length]
    exact (hl ds d h2).1
  · obtain ⟨ds, d, h1, h2, q⟩ := h
    refine ⟨_, hbody cdv A outer s H E hr ds d h2, ?_⟩
    refine ⟨relS_start (X := cxD P w K mg base N qual st f cdv A outer s H E) h1 (hl ds d h2).2, fun σ' H' ρ' _ r' z => ?_, fun v H' d' sm hv _ z => ?_, fun _ _ _ _ _ z => z.elim, fun _ _ _ _ _ z => z.elim⟩
    · have z' : d = .non := z
      subst z'
      exact q _ H' r'.same .non
    · have z' : d' = d := z
      subst z'
      exact q v H' sm hv
theorem fn_mk {x qual : Str} {st : Stmt} {f : Addr} {fd : FuncData} {N ps : List Str} {k : Nat} {Pf : List D → D → Prop} (F : Fun K x qual st f fd) (S : FnScope N ps (defScope st)) (hm : mg x = some (.ref f)) (hb : Binds K fd ps [])
    (hl : ∀ ds d, Pf ds d → ds.length = ps.length ∧ ∀ d ∈ ds, ownA d = none)
    (hbody : ∀ (cdv : Value) (A : Around) (outer : List Env) (s : Shared) (H : Hp) (E : XK), Room k (A.deeper (envOfC qual (defScope st) s.heap.objs.size f cdv)) → ∀ ds d, Pf ds d →
      Do (cxD P w K mg base N qual st f cdv A outer s H E) (defBody st) (ini N ds) { nx := fun _ => d = .non, rt := fun d' => d' = d }) : Fn P w K mg base (k + 1) x Pf :=
  ⟨f, fd, ps, fn_ok F S hl hbody, hm, F.kp, hb⟩
end
end FL
namespace FL
open PySem PySem.Spec PyProof.Rows L2
def blk (X : Cx) (scope : Scope) (cl : List (Str × Addr)) (N : List Str) (C : Addr) (s₀ : Shared) (H₀ : Hp) (fp : List Addr) : Cx :=
  { X with N := N, s₀ := s₀, H₀ := H₀, env := compEnvC scope cl C X.env, outer := X.stack, ex := fp, fn := fun _ => false, pn := [], xe := fun _ _ => False }
section
variable {prog : Program} {w : World} {A : Around} {R : Result → Shared → Prop} {s : Shared}
theorem compLoop_any {elt target iter : Expr} {ifs : List Expr} {scope : Scope} {pos : Pos} {it acc : Value} {env : Env} (I : Nat → Shared → Prop)
    (turn : ∀ n s, I n s → wpAny (model prog w) A (pyNext it) (fun r s₁ => match r with
      | none => R (.ok .next) s₁
      | some v => wpAny (model prog w) A (letOwnedTupleGo target it v) (fun _ s₁' => wpAny (model prog w) A (assign target env v) (fun _ s₂ =>
          wpAny (model prog w) A (forIn ifs true fun c r => if r = true then do let ok ← isTrue c env (eval c env); pure (ForInStep.yield ok) else pure (ForInStep.yield r)) (fun ok s₃ =>
            if ok = true then wpAny (model prog w) A (eval elt env) (fun x s₄ =>
              wpAny (model prog w) A (call (.builtin "list.append") [acc, x]) (fun _ s₅ => ∃ m, m < n ∧ I m s₅) (fun _ _ => False) s₄) (fun _ _ => False) s₃
            else ∃ m, m < n ∧ I m s₃) (fun _ _ => False) s₂) (fun _ _ => False) s₁') (fun _ _ => False) s₁) (fun _ _ => False) s)
    (n : Nat) (h : I n s) : codeAny (model prog w) A (.compLoop (.ListComp elt [⟨target, iter, ifs, 0⟩] scope pos) 0 it acc env) R s := by
  refine codeAny_loop rfl I (fun n s hI => ?_) n h
  show wpAny _ A ((compTurn (.ListComp elt [⟨target, iter, ifs, 0⟩] scope pos) 0 it acc env).onRaise (fun x => do noteFrame x env; theTreesLotGoes x)) _ _ s
  refine wpAny_noted ?_
  rw [compTurn_list]
  refine wpAny_bind (wpAny_standAt (wpAny_bind (wpAny_mono (turn n s hI) (fun r s₁ h₁ => ?_) fun _ _ h' => h'.elim)))
  cases r with
  | none => exact wpAny_pure h₁
  | some v =>
    refine wpAny_bind (wpAny_mono h₁ (fun _ s₁' h₁' => ?_) fun _ _ h' => h'.elim)
    refine wpAny_bind (wpAny_mono h₁' (fun _ s₂ h₂ => wpAny_bind (wpAny_mono h₂ (fun ok s₃ h₃ => ?_) fun _ _ h' => h'.elim)) fun _ _ h' => h'.elim)
    cases ok with
    | false => exact wpAny_pure ⟨rfl, h₃⟩
    | true =>
      exact wpAny_bind (wpAny_bind (wpAny_mono h₃ (fun x s₄ h₄ => wpAny_bind (wpAny_mono h₄ (fun _ s₅ h₅ => wpAny_pure (wpAny_pure ⟨rfl, h₅⟩)) fun _ _ h' => h'.elim)) fun _ _ h' => h'.elim))
end
def PTs (X : Cx) (ifs : List Expr) (t : TT) : Prop :=
  ∀ (pins : List (Addr × Obj)) (s : Shared) (σ : L2.St) (H : Hp) (Q : Bool → Hp → Prop), Inv X pins σ H s → t σ H Q →
    wpAny (model X.prog X.w) X.A (forIn ifs true fun c r => if r = true then do let ok ← isTrue c X.env (eval c X.env); pure (ForInStep.yield ok) else pure (ForInStep.yield r)) (TP X pins σ Q) X.xe s
theorem pts_nil {X : Cx} : PTs X [] (fun _ H Q => Q true H) := fun _ _ _ H _ I h => wpAny_tests_nil ⟨H, I, h⟩
def frees (js : List Nat) (σ : L2.St) : L2.St := js.map fun j => (σ[j]?).join
def tComp (X : Cx) (js : List Nat) (wi : TI) (tt : Cx → TT) (te : Cx → TE) : TE := fun σ H Q => wi σ H fun J H2 => ∀ D, H2 D = none → ∀ Y : Cx, Y.H₀ = upd H2 D (.lst []) → Y.K = X.K →
  ∃ W : Nat → Nat → List V → Hp → Prop, (∃ m, W 0 m [] (upd H2 D (.lst []))) ∧ ∀ i m ys H3, H3 D = some (.lst ys) → W i m ys H3 →
    (J.stop i H3 ∧ Q (.ref D) H3) ∨ (J.go i H3 ∧ ∀ x H4, J.yld i H3 x H4 → tt Y (some x :: frees js σ) H4 fun ok H5 =>
      if ok = true then te Y (some x :: frees js σ) H5 fun y H6 => ∃ zs, H6 D = some (.lst zs) ∧ zs.length < sizeLine ∧ ∃ m', m' < m ∧ W (i + 1) m' (zs ++ [y]) (upd H6 D (.lst (zs ++ [y])))
      else ∃ zs m', H5 D = some (.lst zs) ∧ m' < m ∧ W (i + 1) m' zs H5)
theorem pe_comp {X : Cx} {elt iter : Expr} {x : Str} {px : Pos} {ifs : List Expr} {scope : Scope} {cl : List (Str × Addr)} {pos : Pos} {ys : List Str} {js : List Nat} {wi : TI} {tt : Cx → TT} {te : Cx → TE}
    (hc : X.calm = true) (hi : PI X (.Name x px) iter wi)
    (ht : ∀ C s₀ H₀ fp, PTs (blk X scope cl (x :: ys) C s₀ H₀ fp) ifs (tt (blk X scope cl (x :: ys) C s₀ H₀ fp)))
    (he : ∀ C s₀ H₀ fp, PE (blk X scope cl (x :: ys) C s₀ H₀ fp) elt (te (blk X scope cl (x :: ys) C s₀ H₀ fp)))
    (hclos : closureFor scope X.env = pure cl) (hcell : ∀ y ∈ scope.names, y.2 ≠ .cell) (hkind : scope.kind = .function)
    (hnames : ∀ y ∈ scope.names, y.2 = .local → scope.names.lookup y.1 = some .local) (hx : scope.names.lookup x = some .local) (hnd : (x :: ys).Nodup)
    (hcl : ∀ y c, cl.lookup y = some c → X.env.cells.lookup y = some c)
    (hhas : ∀ y, (relabel scope X.env).names.lookup y = some .cell ∨ (relabel scope X.env).names.lookup y = some .free → ∃ c, cl.lookup y = some c)
    (hjs : js.length = ys.length) (hjy : ∀ (i j : Nat) (y : Str), js[i]? = some j → ys[i]? = some y → X.N[j]? = some y ∧ Vis X.env.scope y ∧ (X.env.kindOf y = some .cell ∨ X.env.kindOf y = some .free) ∧ ((relabel scope X.env).names.lookup y = some .cell ∨ (relabel scope X.env).names.lookup y = some .free))
    (hs : ∀ x, foldedSetIterable iter X.env x = pure x := by intro _; rfl) :
    PE X (.ListComp elt [⟨.Name x px, iter, ifs, 0⟩] scope pos) (tComp X js wi tt te) := by
  intro pins s σ H Q I h
  rw [eval_ListComp]
  refine wpAny_comprehension_free (use := none) rfl hs hclos hkind hnames (thn (hi pins s σ H _ I h) fun v s1 h1 => thn h1 fun itv s2 h2 => ?_)
  obtain ⟨it, fp, tn, J, H2, e, I2, T, st2, f2, h2⟩ := h2
  subst e
  refine wpAny_newObj_type (wpAny_newFunctionEnv hcell (by intro y hy; simp at hy) (fun h₁ hns₁ hsb₁ => ?_) hkind)
  dsimp only at hns₁ hsb₁ ⊢
  -- the list
  have hD : H2 s2.heap.objs.size = none := I2.hok.fresh (Nat.le_refl _)
  generalize eD : s2.heap.objs.size = D at hD hns₁ hsb₁ ⊢
  generalize eH : s2.heap.push { cls := .type "list", dict := none, data := .seq ([] : List Value).toArray } = P3 at hns₁ hsb₁ ⊢
  have k23 : ∀ b o, s2.heap.get? b = some o → P3.get? b = some o := fun b o q => by rw [← eH]; exact Heap.get?_push_of_some _ q
  have hDo : P3.get? D = some { cls := .type "list", dict := none, data := .seq ([] : List Value).toArray } := by rw [← eH, ← eD]; exact Heap.get?_push_size _ rfl
  have I3 : Inv X pins σ (upd H2 D (.lst [])) { s2 with heap := P3, toks := s2.toks } := I2.laid (t' := s2.toks) k23 (Nat.le_of_eq eD) ⟨Nat.zero_le _, [], 0, .nil, hDo⟩
  have hCs : P3.objs.size = D + 1 := by rw [← eH, Heap.size_push, eD]
  generalize eC : P3.objs.size = C at hns₁ hsb₁ hCs ⊢
  have k34 : ∀ b o, P3.get? b = some o → h₁.get? b = some o := fun b o q => hsb₁.extBut b o (by rw [← eC]; exact Nat.ne_of_lt (Heap.lt_size q)) (Heap.get?_push_of_some _ q)
  have fpD : ∀ b ∈ fp, b < D := fun b hb => by
    obtain ⟨o, q, _⟩ := T.obj 0 _ st2 b hb
    rw [← eD]
    exact Heap.lt_size q
  have hC0 : upd H2 D (.lst []) C = none := I3.hok.fresh (by show P3.objs.size ≤ C; rw [eC]; exact Nat.le_refl _)
  -- the block's context
  have okY : (blk X scope cl (x :: ys) C { s2 with heap := P3, toks := s2.toks } (upd H2 D (.lst [])) fp).Ok := by
    refine ⟨I3.ok.mod, hkind, I3.ok.glob, I3.ok.blt, by show P3.objs.size ≤ C; rw [eC]; exact Nat.le_refl _, fun y z c h1 h2 => I3.ok.inj y z c (hcl y c h1) (hcl z c h2), fun y hy => hhas y hy, fun y c hf _ => (by cases hf),
      I3.ok.hd, I3.ok.frames, .inl rfl, fun b hb => ⟨(by show b ≠ C; rw [hCs]; exact Nat.ne_of_lt (Nat.lt_succ_of_lt (fpD b hb))), fun y c hy => (f2 b hb).2.2.2.2.1 y c (hcl y c hy)⟩, fun b o q => ?_, ?_, fun b o q hb => ?_, fun b hb z => ?_, I3.stack, I3.stkFree⟩
    · exact I3.bs b o q
    · exact Nat.le_trans I3.ok.bsz I3.sz
    · rcases (f2 b hb).2.2.2.1 with z | z
      · exact I3.ok.noex b o q z
      · exact absurd (Nat.lt_of_lt_of_le (Heap.lt_size (I3.ok.bs b o q).1) z) (Nat.lt_irrefl _)
    · rcases List.mem_cons.mp (I3.stkSub b z) with z | z
      · exact (f2 b hb).2.1 z
      · exact (f2 b hb).2.2.1 z
  generalize eY : blk X scope cl (x :: ys) C { s2 with heap := P3, toks := s2.toks } (upd H2 D (.lst [])) fp = Y at okY
  have IY : Inv Y [] (none :: frees js σ) (upd H2 D (.lst [])) { s2 with heap := h₁, toks := s2.toks + ([] : List (Str × Value)).length } := by
    subst eY
    refine ⟨okY, I3.os.trans I3.os.symm |>.trans rfl, I3.bare, Un.kept k34, ⟨_, hns₁, fun i y v h1 h2 h3 => ?_⟩, fun y c hy => ?_, hC0, fun y c hy => I3.freeC y c (hcl y c hy), fun p hp => absurd (show p ∈ ([] : List (Addr × Obj)) from hp) (by simp), I3.hok.kept k34, ?_⟩
    · cases i with
      | zero => cases h2
      | succ i =>
        have h1' : ys[i]? = some y := h1
        have h2' : (frees js σ)[i]? = some (some v) := h2
        unfold frees at h2'
        rw [List.getElem?_map] at h2'
        cases q : js[i]? with
        | none => rw [q] at h2'; cases h2'
        | some j =>
          rw [q] at h2'
          have h4 : (σ[j]?).join = some v := Option.some.inj h2'
          have h5 : σ[j]? = some (some v) := by
            cases z : σ[j]? with
            | none => rw [z] at h4; cases h4
            | some o => rw [z] at h4; have h4' : o = some v := h4; rw [h4']
          obtain ⟨n1, n2, n3, n4⟩ := hjy i j y q h1'
          obtain ⟨m, _, hl⟩ := I3.loc
          obtain ⟨u, ru, lk⟩ := hl j y v n1 h5 n2
          refine ⟨u, ru, .inr ⟨n4, ?_⟩⟩
          obtain ⟨c, hc'⟩ := hhas y n4
          rcases lk with ⟨z, _⟩ | ⟨_, c', e1, e2⟩
          · rcases n3 with n3 | n3 <;> (rw [n3] at z; cases z)
          · have : c' = c := Option.some.inj (e1.symm.trans (hcl y c hc'))
            subst this
            obtain ⟨o, ho, hod⟩ := e2
            exact ⟨c', hc', o, k34 _ _ ho, hod⟩
    · obtain ⟨v, o, ho, hod⟩ := I3.cell y c (hcl y c hy)
      exact ⟨v, o, k34 _ _ ho, hod⟩
    · show (frees js σ).length + 1 = (x :: ys).length
      unfold frees
      simp [hjs]
  have eYA : Y.A = X.A := by rw [← eY]; rfl
  have eYp : Y.prog = X.prog := by rw [← eY]; rfl
  have eYw : Y.w = X.w := by rw [← eY]; rfl
  have eYK : Y.K = X.K := by rw [← eY]; rfl
  have eYe : Y.env = compEnvC scope cl C X.env := by rw [← eY]; rfl
  have eYH : Y.H₀ = upd H2 D (.lst []) := by rw [← eY]; rfl
  have eYc : Y.calm = true := by rw [← eY]; exact hc
  have eYx : Y.xe = fun _ _ => False := by rw [← eY]; rfl
  have eYex : Y.ex = fp := by rw [← eY]; rfl
  have eYfs : Y.fs = frs X.stack := by rw [← eY]; rfl
  have eYs : Y.s₀ = { s2 with heap := P3, toks := s2.toks } := by rw [← eY]; rfl
  have eYl : Y.env.locals = C := by rw [eYe]; rfl
  have ht' : PTs Y ifs (tt Y) := by rw [← eY]; exact ht C _ _ fp
  have he' : PE Y elt (te Y) := by rw [← eY]; exact he C _ _ fp
  have hg' : PG Y (.Name x px) (gName 0) := by
    rw [← eY]
    exact pg_name hnd rfl (.inl (lookup_relabel_local hx)) (.inr (lookup_relabel_local hx))
  have T' : Turn Y.prog Y.w Y.K (.Name x px) J fp it tn := by rw [eYp, eYw, eYK]; exact T
  obtain ⟨W, ⟨m0, w0⟩, turn⟩ := h2 D hD Y eYH eYK
  have stat : ∀ {H' : Hp}, (∀ b ∈ fp, H' b = none) → ∀ b ∈ fp, FpOk Y [] H' b := fun {H'} hn b hb => by
    obtain ⟨_, g1, g2, g3, g4, g5⟩ := f2 b hb
    refine ⟨hn b hb, (by rw [eYl, hCs]; exact Nat.ne_of_lt (Nat.lt_succ_of_lt (fpD b hb))), fun z => ?_, .inl (by rw [eYex]; exact hb), fun y c hy => ?_, fun p hp => ?_⟩
    · rw [eYfs] at z
      rcases List.mem_cons.mp (I3.stkSub b z) with z | z
      · exact g1 z
      · exact g2 z
    · rw [eYe] at hy
      exact g4 y c (hcl y c hy)
    · have e0 : Y.pn = [] := by rw [← eY]; rfl
      rw [e0] at hp
      exact absurd (show p ∈ ([] : List (Addr × Obj)) from hp) (by simp)
  -- the loop
  have loop : ∀ s₃ : Shared, s₃ = { s2 with heap := h₁, toks := s2.toks + ([] : List (Str × Value)).length } →
      codeAny (model X.prog X.w) X.A (.compLoop (.ListComp elt [⟨.Name x px, iter, ifs, 0⟩] scope pos) 0 (.ref it) (.ref D) (compEnvC scope cl C X.env))
        (compPost (model X.prog X.w) X.A X.xe none (EP X pins σ Q) (.ref D) C) s₃ := by
    rintro s₃ rfl
    rw [← eYe, ← eYA, ← eYp, ← eYw]
    refine compLoop_any (fun n s' => ∃ i z H' zs, Inv Y [] (z :: frees js σ) H' s' ∧ tn i s'.heap ∧ (∀ b ∈ fp, H' b = none) ∧ H' D = some (.lst zs) ∧ W i n zs H') ?_ m0
      ⟨0, none, _, [], IY, T.keep 0 _ _ st2 (fun b _ o q => k34 b o (k23 b o q)), fun b hb => ?_, upd_same, w0⟩
    · rintro n s4 ⟨i, z, H4, zs, I4, st4, fr4, hz4, w4⟩
      rcases turn i n zs H4 hz4 w4 with ⟨stop, qn⟩ | ⟨go, step⟩
      · refine thn (T'.done Y rfl rfl rfl eYc i [] s4 _ H4 _ I4 (stat fr4) st4 stop) fun r s5 ⟨hr, I5⟩ => ?_
        subst hr
        obtain ⟨m, hm, _⟩ := id I5.loc
        rw [eYl] at hm
        refine ⟨m, hm, fun h6 sb => ?_⟩
        have hC5 : H4 C = none := by rw [← eYl]; exact I5.free
        have un5 := I5.base
        rw [eYfs, eYex, eYH, eYs] at un5
        have un6 : Un (frs X.stack) fp (upd H2 D (.lst [])) H4 P3 h6 := by
          have nC : ∀ b o, P3.get? b = some o → b ≠ C := fun b o q => by rw [← eC]; exact Nat.ne_of_lt (Heap.lt_size q)
          refine ⟨fun b o q n hb hx => (sb.2 b (nC b o q)).trans (un5.keep b o q n hb hx), fun b o q n hb hx => ?_, un5.free, fun b o q hx => ?_, un5.tups, un5.frzs, un5.tbls⟩
          · obtain ⟨sl, q2⟩ := un5.slot b o q n hb hx
            exact ⟨sl, (sb.2 b (nC b o q)).trans q2⟩
          · obtain ⟨o', q2⟩ := un5.there b o q hx
            exact ⟨o', (sb.2 b (nC b o q)).trans q2⟩
        have hok6 : HOk X.prog X.w H4 h6 := fun b ob q => by
          have q5 := I5.hok b ob q
          rw [eYp, eYw] at q5
          refine q5.stay (fun c w' hc' q' => (sb.2 c ?_).trans q') (fun _ q' => q') fun _ _ q' => q'
          rintro rfl
          rcases hc' with rfl | hc'
          · rw [hC5] at q; cases q
          · rw [hC5] at hc'; cases hc'
        refine ⟨.ref D, H4, ?_, rfl, qn⟩
        have os5 : s5.os = s2.os := by have := I5.os; rw [eYs] at this; exact this
        refine I3.call' (s' := { s5 with heap := h6 }) (ch := fp) os5 un6 hok6 I5.bare fun b hb => ?_
        obtain ⟨_, g1, g2, g3, g4, g5⟩ := f2 b hb
        exact ⟨g3, g1, g4, g5⟩
      · refine thn (T'.item Y rfl rfl rfl eYc i [] s4 _ H4 _ I4 (stat fr4) st4 go) fun r s5 ⟨u, hr, h5⟩ => ?_
        subst hr
        refine thn h5 fun _ s6 ⟨y, H6, I6, r6, y6, st6, fr6⟩ => ?_
        have I6' := I6.pinned (stat fr6) (T.obj _ _ st6)
        have q6 := step y H6 y6
        have back : ∀ {σ7 : L2.St} {H7 : Hp} {s7 : Shared}, Inv Y ([] ++ pinsAt fp s6.heap) σ7 H7 s7 → tn (i + 1) s7.heap ∧ ∀ b ∈ fp, H7 b = none := fun {σ7 H7 s7} I7 =>
          ⟨T.keep _ _ _ st6 fun b hb o e => (I7.pin (b, o) (List.mem_append_right _ (List.mem_append_right _ (mem_pinsAt hb e)))).1, fun b hb => by
            obtain ⟨o, e, _⟩ := T.obj _ _ st6 b hb
            exact (I7.pin (b, o) (List.mem_append_right _ (List.mem_append_right _ (mem_pinsAt hb e)))).2.1⟩
        refine wpAny_mono (hg' _ s6 _ H6 y u (fun σ' H' => σ' = some y :: frees js σ ∧ H' = H6) I6' r6 ⟨rfl, rfl⟩) (fun _ s7 ⟨σ7, H7, I7, e7, e7'⟩ => ?_) fun _ _ z => by rw [eYx] at z; exact z
        subst e7 e7'
        refine wpAny_mono (ht' _ s7 _ H7 _ I7 q6) (fun ok s8 ⟨H8, I8, q8⟩ => ?_) fun _ _ z => by rw [eYx] at z; exact z
        cases ok with
        | false =>
          rw [if_neg Bool.false_ne_true] at q8 ⊢
          obtain ⟨zs', m', hz', hm', w'⟩ := q8
          obtain ⟨b1, b2⟩ := back I8
          exact ⟨m', hm', i + 1, some y, H8, zs', I8.unpinned, b1, b2, hz', w'⟩
        | true =>
          rw [if_pos rfl] at q8 ⊢
          refine wpAny_mono (he' _ s8 _ H8 _ I8 q8) (fun u9 s9 ⟨v9, H9, I9, r9, zs9, hz9, hl9, m9, hm9, w9⟩ => ?_) fun _ _ z => by rw [eYx] at z; exact z
          refine wpAny_mono (mt_append (X := Y) _ s9 _ H9 (.ref D) [v9] (.ref D) [u9] (fun _ H' => H' = upd H9 D (.lst (zs9 ++ [v9]))) I9 rfl (.cons r9 .nil) ⟨D, zs9, v9, rfl, rfl, hz9, hl9, rfl⟩) (fun _ s10 ⟨_, H10, I10, _, e10⟩ => ?_) fun _ _ z => by rw [eYx] at z; exact z
          subst e10
          obtain ⟨b1, b2⟩ := back I10
          exact ⟨m9, hm9, i + 1, some y, _, zs9 ++ [v9], I10.unpinned, b1, b2, upd_same, w9⟩
    · rw [upd_ne (Nat.ne_of_lt (fpD b hb))]
      exact (f2 b hb).1
  exact codeAny_compStart_list (loop _ rfl) (T.self _ 0 _ _ _ (T.keep 0 _ _ st2 (fun b _ o q => k34 b o (k23 b o q))) (loop _ rfl))
end FL
namespace FL
open PySem PySem.Spec PyProof.Rows L2
def tN (X : Cx) (ρ : Ro) (ds : List D) : TE := fun σ H Q => RelE X H σ ρ ∧ ∀ a vs H', H a = none → Same H H' → H' a = some (.lst vs) → IsAll X.K H' vs ds → Q (.ref a) H'
def EvN (X : Cx) (e : Expr) (ρ : Ro) (ds : List D) : Prop := PE X e (tN X ρ ds)
theorem EvN.ev {X : Cx} {e : Expr} {ρ : Ro} {ds : List D} (h : EvN X e ρ ds) : Ev X e ρ (.ls ds) :=
  PE.imp h fun _ _ _ ⟨r, q⟩ => ⟨r, fun a _ H' _ s e h => q (.ref a) H' s (.ls (.of e) h)⟩
def SrcOk (K : PySem.W.Frag) (J : It) (H : Hp) (ds : List D) : Prop :=
  ∀ H3, Same H H3 → (∀ i, ds.length ≤ i → J.stop i H3) ∧ ∀ i d, ds[i]? = some d → J.go i H3 ∧ ∀ x H4, J.yld i H3 x H4 → H4 = H3 ∧ Is K H3 x d
def tSrc (X : Cx) (ρ : Ro) (ds : List D) : TI := fun σ H R => RelE X H σ ρ ∧ ∀ J H', Same H H' → SrcOk X.K J H' ds → R J H'
def Src (X : Cx) (tg e : Expr) (ρ : Ro) (ds : List D) : Prop := PI X tg e (tSrc X ρ ds)
section
variable {X : Cx} {e a b tg : Expr} {ρ : Ro} {ds : List D} {d : D} {pos : Pos} {i j : Int}
theorem PI.imp {t t' : TI} (h : PI X tg e t) (f : ∀ σ H R, t' σ H R → t σ H R) : PI X tg e t' := fun pins s σ H R I q => h pins s σ H R I (f σ H R q)
theorem src_tup (h : Ev X e ρ (.tup ds)) : Src X tg e ρ ds := by
  refine PI.imp (pi_tup h) ?_
  rintro σ H R ⟨r, q⟩
  refine ⟨r, fun v H1 s1 h1 => ?_⟩
  obtain ⟨p, xs, rfl, hT, hA⟩ := h1.tup_inv
  refine ⟨p, rfl, ⟨xs, hT⟩, q _ H1 s1 fun H3 s3 => ⟨fun i hi => ⟨xs, sameT s3 hT, by rw [hA.length]; exact hi⟩, fun i d hd => ?_⟩⟩
  obtain ⟨v, hv, hI⟩ := (hA.mono s3).get hd
  exact ⟨⟨xs, v, sameT s3 hT, hv⟩, fun x H4 ⟨e4, y⟩ => ⟨e4, by have := y xs (sameT s3 hT); rw [hv] at this; cases this; exact hI⟩⟩
theorem src_ls (h : Ev X e ρ d) (hl : lsD d = some ds) : Src X tg e ρ ds := by
  refine PI.imp (pi_list h) ?_
  rintro σ H R ⟨r, q⟩
  refine ⟨r, fun v H1 s1 h1 => ?_⟩
  obtain ⟨p, xs, rfl, hT, hA⟩ := h1.lsD_inv hl
  refine ⟨p, rfl, ⟨xs, hT⟩, q _ H1 s1 fun H3 s3 => ⟨fun i hi => ⟨xs, s3.seq hT, by rw [hA.length]; exact hi⟩, fun i d hd => ?_⟩⟩
  obtain ⟨v, hv, hI⟩ := (hA.mono s3).get hd
  exact ⟨⟨xs, v, s3.seq hT, hv⟩, fun x H4 ⟨e4, y⟩ => ⟨e4, by have := y xs (s3.seq hT); rw [hv] at this; cases this; exact hI⟩⟩
end
def Ets (X : Cx) (ifs : List Expr) (ρ : Ro) (k : Bool) : Prop := PTs X ifs (tB X ρ k)
theorem ets_nil {X : Cx} {ρ : Ro} : Ets X [] ρ true := fun pins s σ H Q I ⟨_, q⟩ => pts_nil pins s σ H Q I (q H (Same.refl H))
def freesD (js : List Nat) (ρ : Ro) : Ro := js.map fun j => (ρ[j]?).join
theorem relE_blk {X Y : Cx} (hK : Y.K = X.K) {H : Hp} {σ : L2.St} {ρ : Ro} {js : List Nat} {x : V} {d : D} (r : RelE X H σ ρ) (hx : Is X.K H x d) : RelE Y H (some x :: frees js σ) (some d :: freesD js ρ) := by
  have vals : ∀ (i : Nat) (e : D), (some d :: freesD js ρ)[i]? = some (some e) → ∃ v, (some x :: frees js σ)[i]? = some (some v) ∧ Is X.K H v e := fun i e h => by
    cases i with
    | zero => cases h; exact ⟨x, rfl, hx⟩
    | succ i =>
      have h' : (freesD js ρ)[i]? = some (some e) := h
      unfold freesD at h'
      rw [List.getElem?_map] at h'
      cases q : js[i]? with
      | none => rw [q] at h'; cases h'
      | some j =>
        rw [q] at h'
        have h4 : (ρ[j]?).join = some e := Option.some.inj h'
        have h5 : ρ[j]? = some (some e) := by
          cases z : ρ[j]? with
          | none => rw [z] at h4; cases h4
          | some o => rw [z] at h4; have h4' : o = some e := h4; rw [h4']
        obtain ⟨v, e1, e2⟩ := r.val j e h5
        refine ⟨v, ?_, e2⟩
        show (frees js σ)[i]? = some (some v)
        unfold frees
        rw [List.getElem?_map, q]
        show some (σ[j]?).join = _
        rw [e1]
        rfl
  exact ⟨by simp [frees, freesD], fun i e h => by rw [hK]; exact vals i e h⟩
theorem no_free {scope : Scope} {env : Env} {cl : List (Str × Addr)} (h : ∀ p ∈ scope.names, p.2 ≠ .cell ∧ p.2 ≠ .free) :
    ∀ y, (relabel scope env).names.lookup y = some .cell ∨ (relabel scope env).names.lookup y = some .free → ∃ c, cl.lookup y = some c := by
  have key : ∀ p ∈ (relabel scope env).names, p.2 ≠ .cell ∧ p.2 ≠ .free := by
    intro p hp
    obtain ⟨⟨n, k⟩, hm, e⟩ := List.mem_map.mp (show p ∈ scope.names.map _ from hp)
    have hk := h _ hm
    have hf : (k == NameKind.free) = false := by simpa using hk.2
    simp only [hf, Bool.false_and, Bool.false_eq_true, if_false] at e
    subst e
    exact hk
  intro y z
  rcases z with z | z
  · exact absurd rfl (key _ (PySem.mem_of_lookup z)).1
  · exact absurd rfl (key _ (PySem.mem_of_lookup z)).2
theorem evn_comp {X : Cx} {elt iter : Expr} {x : Str} {px : Pos} {ifs : List Expr} {scope : Scope} {cl : List (Str × Addr)} {pos : Pos} {ys : List Str} {js : List Nat} {ρ : Ro} {ds : List D} (p : D → Bool) (f : D → D)
    (hc : X.calm = true) (hi : Src X (.Name x px) iter ρ ds) (hz : ds.length ≤ 1000000) (hfz : ∀ d ∈ ds, p d = true → Fz (f d))
    (ht : ∀ C s₀ H₀ fp, ∀ d ∈ ds, Ets (blk X scope cl (x :: ys) C s₀ H₀ fp) ifs (some d :: freesD js ρ) (p d))
    (he : ∀ C s₀ H₀ fp, ∀ d ∈ ds, p d = true → Ev (blk X scope cl (x :: ys) C s₀ H₀ fp) elt (some d :: freesD js ρ) (f d))
    (hclos : closureFor scope X.env = pure cl) (hcell : ∀ y ∈ scope.names, y.2 ≠ .cell) (hkind : scope.kind = .function)
    (hnames : ∀ y ∈ scope.names, y.2 = .local → scope.names.lookup y.1 = some .local) (hx : scope.names.lookup x = some .local) (hnd : (x :: ys).Nodup)
    (hcl : ∀ y c, cl.lookup y = some c → X.env.cells.lookup y = some c)
    (hhas : ∀ y, (relabel scope X.env).names.lookup y = some .cell ∨ (relabel scope X.env).names.lookup y = some .free → ∃ c, cl.lookup y = some c)
    (hjs : js.length = ys.length) (hjy : ∀ (i j : Nat) (y : Str), js[i]? = some j → ys[i]? = some y → X.N[j]? = some y ∧ Vis X.env.scope y ∧ (X.env.kindOf y = some .cell ∨ X.env.kindOf y = some .free) ∧ ((relabel scope X.env).names.lookup y = some .cell ∨ (relabel scope X.env).names.lookup y = some .free))
    (hs : ∀ x, foldedSetIterable iter X.env x = pure x := by intro _; rfl) : EvN X (.ListComp elt [⟨.Name x px, iter, ifs, 0⟩] scope pos) ρ ((ds.filter p).map f) := by
  refine PE.imp (pe_comp (js := js) (tt := fun Y σ H Q => ∃ d, d ∈ ds ∧ tB Y (some d :: freesD js ρ) (p d) σ H Q) (te := fun Y σ H Q => ∃ d, d ∈ ds ∧ p d = true ∧ tD Y (some d :: freesD js ρ) (f d) σ H Q) hc hi
    (fun C s₀ H₀ fp pins s σ H Q I ⟨d, hd, q⟩ => ht C s₀ H₀ fp d hd pins s σ H Q I q) (fun C s₀ H₀ fp pins s σ H Q I ⟨d, hd, hp, q⟩ => he C s₀ H₀ fp d hd hp pins s σ H Q I q) hclos hcell hkind hnames hx hnd hcl hhas hjs hjy hs) ?_
  rintro σ H Q ⟨r, q⟩
  refine ⟨r, fun J H2 s2 ok D hD Y eH eK => ?_⟩
  -- the invariant: what was there stands, the list holds what came of the items so far
  have fzs : ∀ (i : Nat), ∀ d ∈ ((ds.take i).filter p).map f, Fz d := fun i d hd => by
    obtain ⟨d', h1, rfl⟩ := List.mem_map.mp hd
    obtain ⟨h2, h3⟩ := List.mem_filter.mp h1
    exact hfz d' (List.mem_of_mem_take h2) h3
  refine ⟨fun i m zs H3 => m = ds.length - i ∧ i ≤ ds.length ∧ (∀ b o, H2 b = some o → H3 b = some o) ∧ IsAll X.K H3 zs (((ds.take i).filter p).map f), ⟨ds.length, by simp, Nat.zero_le _, same_new hD, ?_⟩, ?_⟩
  · simpa using IsAll.nil
  · rintro i m zs H3 hzs ⟨rfl, hil, k3, hA⟩
    obtain ⟨stop, go⟩ := ok H3 k3
    by_cases hlt : i < ds.length
    · obtain ⟨g, y⟩ := go i ds[i] (by simp [hlt])
      refine .inr ⟨g, fun v H4 hy => ?_⟩
      obtain ⟨rfl, hv⟩ := y v H4 hy
      have hmem : ds[i] ∈ ds := List.getElem_mem hlt
      have r3 : RelE X H4 σ ρ := r.mono (s2.trans k3)
      refine ⟨ds[i], hmem, relE_blk eK r3 hv, fun H5 s5 => ?_⟩
      have etake : ds.take (i + 1) = ds.take i ++ [ds[i]] := by rw [List.take_succ_eq_append_getElem hlt]
      cases hp : p ds[i] with
      | false =>
        refine iteF ⟨zs, ds.length - (i + 1), s5 _ _ hzs, by omega, rfl, hlt, fun b o h => s5 _ _ (k3 b o h), ?_⟩
        rw [etake, List.filter_append]
        simpa [hp] using hA.mono s5
      | true =>
        refine iteT ⟨ds[i], hmem, hp, (relE_blk eK r3 hv).mono s5, fun y H6 s6 hy6 => ⟨zs, s6 _ _ (s5 _ _ hzs), ?_, ds.length - (i + 1), by omega, rfl, hlt, fun b o h => ?_, ?_⟩⟩
        · have e1 := hA.length
          rw [List.length_map] at e1
          have e2 := List.length_filter_le p (ds.take i)
          rw [List.length_take] at e2
          rw [sizeLine_eq]
          omega
        · rw [upd_ne (ne_of_none h hD)]
          exact s6 _ _ (s5 _ _ (k3 b o h))
        · have hD6 : H6 D = some (.lst zs) := s6 _ _ (s5 _ _ hzs)
          have kt : KT H6 (upd H6 D (.lst (zs ++ [y]))) :=
            ⟨fun b xs h => by rw [upd_ne (ne_of h hD6 (by intro z; cases z))]; exact h, fun b o u h => by rw [upd_ne (ne_of h hD6 (by intro z; cases z))]; exact h⟩
          rw [etake, List.filter_append, List.map_append]
          refine IsAll.append ((hA.mono (s5.trans s6)).keep kt (fzs i)) ?_
          rw [eK] at hy6
          simpa [hp] using IsAll.cons (hy6.keep kt (hfz _ hmem hp)) .nil
    · refine .inl ⟨stop i (by omega), q D zs H3 (s2.free hD) (s2.trans k3) hzs ?_⟩
      have : ds.take i = ds := List.take_of_length_le (by omega)
      rw [this] at hA
      exact hA
end FL
namespace FL
open PySem PySem.Spec PyProof.Rows L2
theorem bools_of : ∀ {bs : List Bool} {us : List Value}, Vals (bs.map V.bl) us → LSm.BoolsAre us bs
  | [], _, .nil => .nil
  | b :: _, _, .cons r t => by
    cases r
    exact .cons b (bools_of t)
theorem call_all {X : Cx} (hc : X.calm = true) : CallR X (.builtin "all") (fun vs H Q => ∃ (a : Addr) (bs : List Bool), vs = [.ref a] ∧ SqL X.K H a (bs.map V.bl) ∧ Q (.bl (bs.all id)) H) := by
  intro pins s σ H vs us Q I r h
  obtain ⟨l, bs, rfl, hq, q⟩ := h
  obtain ⟨u, rfl, ru⟩ := vals1 r
  cases ru
  obtain ⟨its, rv, p, hz⟩ := I.list hq
  have hb : LSm.BoolsAre its bs := bools_of rv
  have hl := p.isList
  have hlt : l < s.heap.objs.size := by obtain ⟨_, e, _⟩ := hl; exact Heap.lt_size e
  refine call_all_walk (wpAny_pyIter_list hl ?_)
  refine ⟨s.heap.objs.size, [s.heap.objs.size, l], [s.heap.objs.size], its.toArray.size, _, _, fun i => (bs[i]?).getD true, rfl, Walks.list (A := X.A.in1) (I.ok.hd hc) _ l (Nat.ne_of_lt hlt) its.toArray,
    ⟨⟨_, Heap.get?_push_size _ rfl, rfl, rfl⟩, hl.push _⟩, fun i v s' Q' E' hP hQ => ?_, fun h' tk hk => ?_⟩
  · obtain ⟨b, e, rfl⟩ := hb.get i v (by simpa using hP)
    simp only [e, Option.getD_some] at hQ
    exact wpAny_truthy_bool hQ
  · have e : ((List.range its.toArray.size).all fun i => (bs[i]?).getD true) = bs.all id := by
      rw [List.size_toArray, hb.length]; exact LSm.range_all bs
    rw [e]
    exact ⟨.bl _, H, I.kept (LSm.kept_iter hk), rfl, q⟩
theorem IsAll.bools {K : PySem.W.Frag} {H : Hp} : ∀ {vs : List V} {bs : List Bool}, IsAll K H vs (bs.map D.bl) → vs = bs.map V.bl
  | _, [], .nil => rfl
  | _, b :: bs, .cons h r => by
    cases h.bl_inv
    rw [IsAll.bools r]
    rfl
section
variable {X : Cx} {e a b c : Expr} {es : List Expr} {ρ : Ro} {d : D} {ds : List D} {pos : Pos} {i j : Int} {k k' : Bool}
theorem ev_all {p : Pos} {bs : List Bool} (hc : X.calm = true) (hm : X.mg "all" = none) (ha : Ev X a ρ (.ls (bs.map D.bl))) (hg : Gl X "all" := by rfl) (he : starEach [a] X.env = [(false, eval a X.env)] := by rfl) : Ev X (.Call (.Name "all" p) [a] [] pos) ρ (.bl (bs.all id)) :=
  ev_callB (call_all hc) hm boot_all (ea_cons ha ea_nil he) (fun vs H Q h0 q => by
    obtain ⟨v, rfl, h⟩ := one_inv h0
    obtain ⟨l, xs, rfl, h1, h2⟩ := h.ls_inv
    cases h2.bools
    exact ⟨l, bs, rfl, h1, q _ H (Same.refl H) (.bl _)⟩) hg (by decide) (by decide) he rfl
end
theorem kit_b {K : PySem.W.Frag} {T U : String} {k : Bool} (hne : (Value.type T == Value.type U) = false) (hm : PySem.W.kitMeta U = true) (hs : (fastBuiltinMro T).map (·.contains (.type U)) = some k) : PySem.W.kitOne K (.type T) (.type U) = some k := by
  unfold PySem.W.kitOne
  rw [hne, if_neg Bool.false_ne_true]
  unfold PySem.W.kitCls
  dsimp only
  rw [if_pos hm]
  exact hs
theorem kit_s {K : PySem.W.Frag} {T : String} : PySem.W.kitOne K (.type T) (.type T) = some true := by
  unfold PySem.W.kitOne
  rw [if_pos (by simp)]
theorem kit_int_bool {K : PySem.W.Frag} : PySem.W.kitOne K (.type "int") (.type "bool") = some false := kit_b (by decide +kernel) (by decide +kernel) (by decide +kernel)
theorem bo_int : bootBuiltins "int" = some (.type "int") := by decide +kernel
theorem bo_bool : bootBuiltins "bool" = some (.type "bool") := by decide +kernel
theorem bo_tuple : bootBuiltins "tuple" = some (.type "tuple") := by decide +kernel
theorem bo_str : bootBuiltins "str" = some (.type "str") := by decide +kernel
theorem bits_of_lay {ns : List Int} (h : PySem.W.WData.layableAll [PySem.W.WData.list (ns.map PySem.W.WData.int)] = true) : ∀ z ∈ ns, Builtin.Int.intBits z ≤ 1048576 := fun z hz => by
  have h1 := PySem.W.layableW_arg h _ List.mem_cons_self
  have h2 := PySem.W.layableW_item h1 (.int z) (List.mem_map.mpr ⟨z, hz, rfl⟩)
  have h3 := PySem.W.layable0_of_all (PySem.W.lay0_int h2)
  exact PyData.bits_of_layable h3
theorem walk_ofB {l : PySem.W.OpenLaw} {n k : Nat} {q : Program} {loose : List Str} {XP : (Str → Option Value) → Heap → Prop} {YP : World → Heap → Prop} {d : DefRec} {K : Params → PySem.W.Frag} {x : Str} {Pf : List D → D → Prop}
    (hn : l.most = some n) (hn2 : n ≤ sizeLine) (hdf : d.params.defaults = []) (hr : Room k callerA)
    (hY : ∀ (w : World) (h : Heap), YP w h → (K w.params).In h)
    (F : ∀ (w : World) (mg : Str → Option Value) (fa : Addr) (h : Heap), (K w.params).In h → h.Ns mainGlobals mg → mg d.name = some (.ref fa) →
      ∃ fd : FuncData, (∀ (s : Shared) (u : Value), BindsTo s fd ⟨[u], []⟩ [(x, u)]) ∧
        ∀ base : Heap, (K w.params).In base → base.Ns mainGlobals mg → FnOk l.prog w (K w.params) mg base CX0 k fa fd [x] (SpD (K w.params) Pf))
    (hsp : ∀ (ns : List Int), ns.length ≤ n → (∀ z ∈ ns, Builtin.Int.intBits z ≤ 1048576) → Pf [.ls (ns.map D.int)] (.bl true)) :
    PySem.W.WalkO q loose XP YP l.row.toRowW d [] (fun f vs => PySem.call f vs) := by
  intro w s₀ s₁ mg mb G Y fa o pm cd doc dV kV ho hd hcd hD hmg hg args vals as hpre hlay hrd hwl hlo
  obtain rfl : dV = .none := PySem.W.Dflts.none hD hdf
  obtain rfl : kV = .none := PySem.W.Dflts.noKw hD
  obtain ⟨a, vs, ns, rfl, rfl, hobj, hints, hlen⟩ := Att.script_of hn hpre hwl
  have hbits := bits_of_lay hlay
  have KX := hY w _ Y
  obtain ⟨fd, hb, hF⟩ := F w mg fa _ KX G.T.g hmg
  have hc : codeAny (model l.prog w) callerA (.call (.ref fa) ⟨[.ref a], []⟩) (fun r s' => r = .ok (.ret (.bool true)) ∧ OldK s₁.heap s'.heap ∧ s'.os = s₁.os ∧ AllBare s'.gens) s₁ :=
    law_call KX G.T.g G.T.b G.T.builtins G.T.nolimit hg hobj hints (Nat.le_trans hlen hn2) hr hF hb
      (fun H hO hS => ⟨[.ls (ns.map D.int)], .bl true, .cons (.ls hS (IsAll.ints ns)) .nil, hsp ns hlen hbits, fun v H' _ h => h.bl_inv⟩) (fun H e s' z => z)
  refine PySem.W.enter_call (codeAny_mono hc fun r s' hq => ?_)
  obtain ⟨rfl, h2, h3, h4⟩ := hq
  exact ⟨.inl ⟨.bool true, .bool true, [], rfl, fun _ => rfl, .bool true, Att.post_true l _, fun _ => ⟨List.Pairwise.nil, fun _ hm => (nomatch hm)⟩⟩, h2, h3, h4⟩
end FL
namespace FL
open PySem
open Builtin.Int (intBits)
theorem Bd.up {i : Int} {m : Nat} (h : Bd i m) (n : Nat) (hn : m ≤ n) : Bd i n := ⟨Nat.le_trans h.lt hn⟩
theorem Bd.of_lt {i : Int} {m : Nat} (h : i.natAbs < 2 ^ m) : Bd i m := ⟨intBits_le_iff.mpr h⟩
theorem Bd.lit {i : Int} {m : Nat} (h : i.natAbs < 2 ^ m := by decide) : Bd i m := .of_lt h
theorem Bd.add {i j : Int} {m n : Nat} (hi : Bd i m) (hj : Bd j n) (k : Nat) (h : max m n + 1 ≤ k) : Bd (i + j) k := ⟨Nat.le_trans (intBits_add_le hi.lt hj.lt) h⟩
theorem Bd.mul {i j : Int} {m n : Nat} (hi : Bd i m) (hj : Bd j n) (k : Nat) (h : m + n ≤ k) : Bd (i * j) k := ⟨Nat.le_trans (intBits_mul_le hi.lt hj.lt) h⟩
instance bd_add {i j : Int} {m n : Nat} [hi : Bd i m] [hj : Bd j n] : Bd (i + j) (max m n + 1) := ⟨intBits_add_le hi.lt hj.lt⟩
instance bd_mul {i j : Int} {m n : Nat} [hi : Bd i m] [hj : Bd j n] : Bd (i * j) (m + n) := ⟨intBits_mul_le hi.lt hj.lt⟩
instance bd_neg {i : Int} {m : Nat} [hi : Bd i m] : Bd (-i) m := ⟨intBits_neg_le hi.lt⟩
instance bd_0 : Bd 0 0 := .lit
instance bd_1 : Bd 1 1 := .lit
instance bd_4 : Bd 4 3 := .lit
instance bd_5 : Bd 5 3 := .lit
instance bd_10 : Bd 10 4 := .lit
theorem Bd.div {i j : Int} {m : Nat} (hi : Bd i m) (h : 0 < j) : Bd (i / j) m := by
  have e := intBits_fdiv_le (y := j) hi.lt
  rw [Int.fdiv_eq_ediv_of_nonneg i (by omega)] at e
  exact ⟨e⟩
end FL
namespace FL
open PySem PySem.Spec PyProof.Rows L2
def SrcS (X : Cx) (Ok : Ro → Prop) (J : It) (ρ : Ro) (H : Hp) (ds : List D) : Prop :=
  ∀ ρ' H3 σ3, Go ρ H ρ' H3 → RelS X X.H₀ H3 σ3 ρ' → Ok ρ' → (∀ i, ds.length ≤ i → J.stop i H3) ∧ ∀ i d, ds[i]? = some d → J.go i H3 ∧ ∀ x H4, J.yld i H3 x H4 → H4 = H3 ∧ Is X.K H3 x d
def tSrcS (X : Cx) (Ok : Ro → Prop) (ρ : Ro) (ds : List D) : TI := fun σ H R => RelS X X.H₀ H σ ρ ∧ ∀ J H', Same H H' → SrcS X Ok J ρ H' ds → R J H'
def Wk (X : Cx) (Ok : Ro → Prop) (tg e : Expr) (ρ : Ro) (ds : List D) : Prop := PI X tg e (tSrcS X Ok ρ ds)
theorem srcS_T {X : Cx} {Ok : Ro → Prop} {ρ : Ro} {H : Hp} {σ : L2.St} {a : Addr} {xs : List V} {ds : List D} (r : RelS X X.H₀ H σ ρ) (hT : SqT X.K H a xs) (hA : IsAll X.K H xs ds) (hz : ∀ d ∈ ds, Fz d) : SrcS X Ok (Itt X.K a) ρ H ds := by
  intro ρ' H3 σ3 g r3 _
  have kt := g.kt r
  have hT3 := kt.seqT hT
  refine ⟨fun i hi => ⟨xs, hT3, by rw [hA.length]; exact hi⟩, fun i d hd => ?_⟩
  obtain ⟨v, hv, hI⟩ := (hA.keep kt hz).get hd
  exact ⟨⟨xs, v, hT3, hv⟩, fun x H4 ⟨e4, y⟩ => ⟨e4, by have := y xs hT3; rw [hv] at this; cases this; exact hI⟩⟩
theorem srcS_L {X : Cx} {Ok : Ro → Prop} {ρ : Ro} {H : Hp} {a : Addr} {ds : List D} (h : ∀ ρ' H3 σ3, Go ρ H ρ' H3 → RelS X X.H₀ H3 σ3 ρ' → Ok ρ' → ∃ xs, SqL X.K H3 a xs ∧ IsAll X.K H3 xs ds) : SrcS X Ok (Itl X.K a) ρ H ds := by
  intro ρ' H3 σ3 g r3 ok
  obtain ⟨xs, hT3, hA⟩ := h ρ' H3 σ3 g r3 ok
  refine ⟨fun i hi => ⟨xs, hT3, by rw [hA.length]; exact hi⟩, fun i d hd => ?_⟩
  obtain ⟨v, hv, hI⟩ := hA.get hd
  exact ⟨⟨xs, v, hT3, hv⟩, fun x H4 ⟨e4, y⟩ => ⟨e4, by have := y xs hT3; rw [hv] at this; cases this; exact hI⟩⟩
section
variable {X : Cx} {e a b c tg : Expr} {es : List Expr} {ρ : Ro} {d : D} {ds : List D} {pos : Pos} {i j : Int} {rest A B : List Stmt} {P : Po}
theorem wk_tup (h : Ev X e ρ (.tup ds)) (hz : ∀ d ∈ ds, Fz d) : Wk X (fun _ => True) tg e ρ ds := by
  refine PI.imp (pi_tup h) ?_
  rintro σ H R ⟨r, q⟩
  refine ⟨r.e, fun v H1 s1 h1 => ?_⟩
  obtain ⟨p, xs, rfl, hT, hA⟩ := h1.tup_inv
  exact ⟨p, rfl, ⟨xs, hT⟩, q _ H1 s1 (srcS_T (r.mono s1) hT hA hz)⟩
theorem wk_new (h : EvN X e ρ ds) (hz : ∀ d ∈ ds, Fz d) : Wk X (fun _ => True) tg e ρ ds := by
  refine PI.imp (pi_list h) ?_
  rintro σ H R ⟨r, q⟩
  refine ⟨r.e, fun p vs H1 hp s1 e1 h1 => ⟨p, rfl, ⟨vs, .of e1⟩, q _ H1 s1 (srcS_L fun ρ' H3 σ3 g r3 _ => ?_)⟩⟩
  have nm : ¬ Mu ρ p := fun m => by obtain ⟨ys, z, _⟩ := r.mu m; rw [hp] at z; cases z
  exact ⟨vs, .of (g.kept _ _ e1 nm), h1.keep (g.kt (r.mono s1)) hz⟩
theorem do_for (n : Nat) {x : Str} {p' : Pos} {Ok : Ro → Prop} (Iv : Nat → Ro → Prop) (M : Ro → Prop) (hp : PassesOwn (model X.prog X.w) X.A X.env X.xe) (hc : X.calm = true) (he : Wk X Ok (.Name x p') e ρ ds) (hz : ∀ d ∈ ds, Fz d) (hok : ∀ i ρ, Iv i ρ → Ok ρ) (h0 : Iv 0 ρ)
    (hs : ∀ (i : Nat) (d : D) (ρ : Ro), ds[i]? = some d → Iv i ρ → Do X A (ρ.set n (some d)) { nx := Iv (i + 1), rt := P.rt, bk := M, ct := Iv (i + 1) }) (hd : ∀ ρ, Iv ds.length ρ → M ρ)
    (h : ∀ ρ', M ρ' → Do X rest ρ' P) (hN : X.N.Nodup) (hi : X.N[n]? = some x := by rfl) (hx : Loc X.env.scope x := by first | exact Or.inl rfl | exact Or.inr rfl)
    (hf : X.fn x = true ∨ X.env.scope.names.lookup x = some .local := by first | exact .inl rfl | exact .inr rfl) (hset : ∀ x, foldedSetIterable e X.env x = pure x := by intro _; rfl) : Do X (.For (.Name x p') e A [] pos :: rest) ρ P := by
  refine do_seq (M := M) ?_ h
  have hb : PSs X A (fun D σ H => ∃ i d ρ, ds[i]? = some d ∧ Iv i ρ ∧ tPo X (ρ.set n (some d)) { nx := Iv (i + 1), rt := P.rt, bk := M, ct := Iv (i + 1) } D σ H) :=
    fun pins s σ H D I ⟨i, d, ρ, e1, e2, q⟩ => hs i d ρ e1 e2 pins s σ H D I q
  refine PS.imp (ps_for hp hc he (pg_name hN hi hx hf) hb hset) ?_
  rintro D σ H ⟨r, q1, q2, q3, q4⟩
  refine ⟨r, fun J H1 s1 src => ?_⟩
  have g1 : Go ρ H ρ H1 := Go.same s1
  refine ⟨fun i m σ' H' => m = ds.length - i ∧ i ≤ ds.length ∧ ∃ ρ', Iv i ρ' ∧ RelS X X.H₀ H' σ' ρ' ∧ Go ρ H1 ρ' H', ⟨ds.length, by simp, Nat.zero_le _, ρ, h0, r.mono s1, Go.refl ρ H1⟩, ?_⟩
  rintro i m σ' H' ⟨rfl, hil, ρ', iv, r', g⟩
  obtain ⟨stop, go⟩ := src ρ' H' σ' g r' (hok i ρ' iv)
  by_cases hlt : i < ds.length
  · obtain ⟨g0, y⟩ := go i ds[i] (by simp [hlt])
    refine .inr ⟨g0, fun σ2 H2 => ∃ ρ2, Iv (i + 1) ρ2 ∧ RelS X X.H₀ H2 σ2 ρ2 ∧ Go ρ H1 ρ2 H2, fun σ2 H2 p2 => ⟨ds.length - (i + 1), by omega, rfl, hlt, p2⟩, fun v H4 hy => ?_⟩
    obtain ⟨rfl, hv⟩ := y v H4 hy
    have fz : Fz ds[i] := hz _ (List.getElem_mem hlt)
    have g2 : Go ρ H1 (ρ'.set n (some ds[i])) H4 := g.trans (Go.set (Same.refl H4) fun a z => (fz.no_own z).elim)
    refine ⟨i, ds[i], ρ', by simp [hlt], iv, r'.set hv n (.inl fz) (fun a z => (fz.no_own z).elim), ?_, q2, ?_, ?_⟩
    · exact fun σ2 H2 ρ2 g' r2 iv2 => ⟨ρ2, iv2, r2, g2.trans g'⟩
    · exact fun σ2 H2 ρ2 g' r2 m => q1 σ2 H2 ρ2 (g1.trans (g2.trans g')) r2 m
    · exact fun σ2 H2 ρ2 g' r2 iv2 => ⟨ρ2, iv2, r2, g2.trans g'⟩
  · have e : i = ds.length := by omega
    subst e
    exact .inl ⟨stop _ (Nat.le_refl _), q1 σ' H' ρ' (g1.trans g) r' (hd ρ' iv)⟩
theorem do_setN (n : Nat) {x : Str} {pos' : Pos} (he : EvN X e ρ ds) (hz : ∀ d ∈ ds, Fz d) (h : ∀ l, ¬ Mu ρ l → Do X rest (ρ.set n (some (.lst l ds))) P) (hN : X.N.Nodup) (hi : X.N[n]? = some x := by rfl) (hx : Loc X.env.scope x := by first | exact Or.inl rfl | exact Or.inr rfl)
    (hs : swapsWith e (some (.Name x pos')) pos.line X.env = pure false := by rfl) (hf : X.fn x = true ∨ X.env.scope.names.lookup x = some .local := by first | exact .inl rfl | exact .inr rfl) : Do X (.Assign [.Name x pos'] e pos :: rest) ρ P := by
  refine do_seq (M := fun ρ' => ∃ l, ¬ Mu ρ l ∧ ρ' = ρ.set n (some (.lst l ds))) (PS.imp (ps_set hN hi hx he hs hf) ?_) (fun _ ⟨l, hl, z⟩ => z ▸ h l hl)
  rintro D σ H ⟨r, q1, q2, q3, q4⟩
  refine ⟨r.e, fun l vs H' hl s e1 h' => q1 _ H' _ (Go.set s fun a z => ?_) ((r.mono s).set (.lst e1 h') n (.inr (.inr (.lst hz))) fun a z => ?_) ⟨l, fun m => ?_, rfl⟩⟩
  · cases z
    exact .inr hl
  · cases z
    exact r.same.free hl
  · obtain ⟨ys, z, _⟩ := r.mu m
    rw [hl] at z
    cases z
theorem do_append (n : Nat) {x : Str} {l : Addr} {p1 p2 p3 : Pos} (hρ : ρ[n]? = some (some (.lst l ds))) (he : Ev X e ρ d) (hz : Fz d) (hl : ds.length < 1000000) (hothers : ∀ (j : Nat) (es : List D), j ≠ n → ρ[j]? ≠ some (some (.lst l es)))
    (h : Do X rest (ρ.set n (some (.lst l (ds ++ [d])))) P) (hN : X.N[n]? = some x := by rfl) (hv : Vis X.env.scope x := by first | exact Or.inl rfl | exact Or.inr (Or.inl rfl) | exact Or.inr (Or.inr rfl))
    (hd : (x == ("__debug__" : Str)) = false := by decide) (hcd : (x == ("__classdict__" : Str)) = false := by decide)
    (hbase : attributeBase (.Name x p1) "append" X.env (eval (.Name x p1) X.env) = eval (.Name x p1) X.env := by rfl)
    (hfew : ((backTo p3 (starEach [e] X.env)).all (fun x => !x.1) && (backToKw p3 (keywordEach [] X.env)).all (fun x => x.1.isSome) && decide ([e].length + ([] : List Keyword).length + (if ([] : List Keyword).isEmpty then 0 else 1) < 30)) = true := by rfl)
    (hline : (p2.endLine == p3.line) = true := by rfl) (hstar : starEach [e] X.env = [(false, eval e X.env)] := by rfl) (hs : swapsWith (.Call (.Attribute (.Name x p1) "append" p2) [e] [] p3) none pos.line X.env = pure false := by rfl) :
    Do X (.Expr (.Call (.Attribute (.Name x p1) "append" p2) [e] [] p3) pos :: rest) ρ P := by
  refine do_seq (M := fun ρ' => ρ' = ρ.set n (some (.lst l (ds ++ [d])))) (PS.imp (ps_expr (pe_bm PySem.F.plainAttrs_list PySem.F.slot_list_append PySem.F.type_list_append mt_append (pe_var hN hv hd hcd) (ea_cons he ea_nil hstar) hbase hfew hline hstar rfl) hs) ?_) (fun _ z => z ▸ h)
  rintro D σ H ⟨r, q1, q2, q3, q4⟩
  obtain ⟨v, e1, h1, h2⟩ := r.val n _ hρ
  obtain ⟨rfl, xs, hT, hA⟩ := h1.lst_inv
  have fds : ∀ e ∈ ds, Fz e := by
    rcases h2 with z | z | z
    · cases z
    · obtain ⟨_, ys, z, _⟩ := z.lst_inv
      rw [r.own l ⟨n, _, hρ, rfl⟩] at z
      cases z
    · cases z with | lst f => exact f
  refine ⟨_, e1, .inl ⟨rfl, xs, .of hT⟩, r.e, fun vs H2 s2 h3' => ?_⟩
  obtain ⟨v2, rfl, h3⟩ := one_inv h3'
  have hT2 := s2 _ _ hT
  have lx : xs.length = ds.length := hA.length
  refine ⟨l, xs, v2, rfl, rfl, hT2, by rw [sizeLine_eq]; omega, ?_⟩
  have kt : KT H2 (upd H2 l (.lst (xs ++ [v2]))) :=
    ⟨fun b xs h => by rw [upd_ne (ne_of h hT2 (by intro z; cases z))]; exact h, fun b o u h => by rw [upd_ne (ne_of h hT2 (by intro z; cases z))]; exact h⟩
  have r2 := r.mono s2
  have h0 : X.H₀ l = none := r.own l ⟨n, _, hρ, rfl⟩
  have same : Same X.H₀ (upd H2 l (.lst (xs ++ [v2]))) := fun b o h => by
    rw [upd_ne (ne_of_none h h0)]
    exact r2.same b o h
  have hnl : n < ρ.length := (List.getElem?_eq_some_iff.mp hρ).1
  have go : Go ρ H (ρ.set n (some (.lst l (ds ++ [d])))) (upd H2 l (.lst (xs ++ [v2]))) := by
    refine ⟨fun b o h nm => ?_, ?_⟩
    · have : b ≠ l := fun z => nm (z ▸ ⟨n, _, hρ, rfl⟩)
      rw [upd_ne this]
      exact s2 _ _ h
    · rintro a ⟨j, es, hj, hw⟩
      rcases set_get hj with ⟨rfl, rfl, _⟩ | ⟨_, hj⟩
      · cases hw
        exact .inl ⟨_, _, hρ, rfl⟩
      · exact .inl ⟨j, es, hj, hw⟩
  have own : ∀ a, Mu (ρ.set n (some (.lst l (ds ++ [d])))) a → X.H₀ a = none := by
    rintro a ⟨j, es, hj, hw⟩
    rcases set_get hj with ⟨rfl, rfl, _⟩ | ⟨_, hj⟩
    · cases hw
      exact h0
    · exact r.own a ⟨j, es, hj, hw⟩
  refine q1 _ _ _ go ⟨same, by simp [r.len], fun j e' hj => ?_, own⟩ rfl
  rcases set_get hj with ⟨rfl, rfl, _⟩ | ⟨hne, hj⟩
  · refine ⟨.ref l, e1, .lst upd_same ?_, .inr (.inr (.lst fun e' he' => ?_))⟩
    · exact ((hA.mono s2).keep kt fds).append (.cons (h3.keep kt hz) .nil)
    · rcases List.mem_append.mp he' with z | z
      · exact fds _ z
      · rw [List.mem_singleton.mp z]; exact hz
  · obtain ⟨u, f1, f2, f3⟩ := r2.val j e' hj
    refine ⟨u, f1, ?_, f3⟩
    rcases f3 with z | z | z
    · exact f2.keep kt z
    · exact z.mono same
    · exact z.keep f2 kt fun a ha => upd_ne (ne_list f2 ha hT2 fun es ez => hothers j es hne (ez ▸ hj))
end
end FL
namespace FL
open PySem PySem.Spec PyProof.Rows L2
mutual
inductive Cm : Nat → D → D → Prop
  | non {n : Nat} : Cm n .non .non
  | bl {n : Nat} (a b : Bool) : Cm n (.bl a) (.bl b)
  | int {n : Nat} (i j : Int) : Cm n (.int i) (.int j)
  | str {n : Nat} (x y : Str) : Cm n (.str x) (.str y)
  | tup {n : Nat} {ds es : List D} (h : Cms n ds es) : Cm (n + 1) (.tup ds) (.tup es)
  | fl {n : Nat} {ds es : List D} (h : Cms n ds es) : Cm (n + 1) (.fl ds) (.fl es)
inductive Cms : Nat → List D → List D → Prop
  | nil {n : Nat} : Cms n [] []
  | short {n : Nat} (e : D) (es : List D) : Cms n [] (e :: es)
  | long {n : Nat} (d : D) (ds : List D) : Cms n (d :: ds) []
  | cons {n : Nat} {d e : D} {ds es : List D} (h : Cm n d e) (r : Cms n ds es) : Cms n (d :: ds) (e :: es)
end
theorem Cms.ints {n : Nat} : ∀ (ns ms : List Int), Cms n (ns.map D.int) (ms.map D.int)
  | [], [] => .nil
  | [], m :: ms => .short _ _
  | n :: ns, [] => .long _ _
  | n :: ns, m :: ms => .cons (.int n m) (Cms.ints ns ms)
theorem Cm.ints {n : Nat} (ns ms : List Int) : Cm (n + 1) (.tup (ns.map D.int)) (.tup (ms.map D.int)) := .tup (Cms.ints ns ms)
theorem Cms.get {n : Nat} : ∀ {ds es : List D}, Cms n ds es → ∀ (j : Nat) (d e : D), ds[j]? = some d → es[j]? = some e → Cm n d e
  | _, _, .nil, j, d, e, h, _ => by simp at h
  | _, _, .short _ _, j, d, e, h, _ => by simp at h
  | _, _, .long _ _, j, d, e, _, h => by simp at h
  | _, _, .cons h r, 0, d, e, h1, h2 => by simp at h1 h2; subst h1 h2; exact h
  | _, _, .cons h r, j + 1, d, e, h1, h2 => Cms.get r j d e (by simpa using h1) (by simpa using h2)
open Classical in
noncomputable def eqb (d e : D) : Bool := decide (d = e)
open Classical in
theorem eqb_iff {d e : D} : eqb d e = true ↔ d = e := by unfold eqb; exact decide_eq_true_iff
theorem eqb_of {d e : D} {k : Bool} (h : k = true ↔ d = e) : eqb d e = k := by
  cases k with
  | true => exact eqb_iff.mpr (h.mp rfl)
  | false =>
    cases q : eqb d e with
    | false => rfl
    | true => exact absurd (h.mpr (eqb_iff.mp q)) Bool.false_ne_true
section
variable {X : Cx} {pins : List (Addr × Obj)} {σ : L2.St} {H : Hp} {s : Shared}
mutual
theorem Is.inj (I : L2.Inv X pins σ H s) : ∀ {n : Nat} {d e : D} {v : V}, Cm n d e → Is X.K H v d → Is X.K H v e → d = e
  | _, _, _, _, .non, _, _ => rfl
  | _, _, _, _, .bl a b, h1, h2 => by cases h1.bl_inv; cases h2.bl_inv; rfl
  | _, _, _, _, .int a b, h1, h2 => by cases h1.int_inv; cases h2.int_inv; rfl
  | _, _, _, _, .str a b, h1, h2 => by cases h1.str_inv; cases h2.str_inv; rfl
  | _, _, _, _, .tup c, h1, h2 => by
    obtain ⟨a, xs, rfl, t1, r1⟩ := h1.tup_inv
    obtain ⟨a', ys, z, t2, r2⟩ := h2.tup_inv
    cases z
    cases I.tuple_inj t1 t2
    rw [IsAll.inj I c r1 r2]
  | _, _, _, _, .fl c, h1, h2 => by
    obtain ⟨a, o, xs, rfl, t1, r1⟩ := h1.fl_inv
    obtain ⟨a', o', ys, z, t2, r2⟩ := h2.fl_inv
    cases z
    rw [t1] at t2
    cases t2
    rw [IsAll.inj I c r1 r2]
theorem IsAll.inj (I : L2.Inv X pins σ H s) : ∀ {n : Nat} {ds es : List D} {vs : List V}, Cms n ds es → IsAll X.K H vs ds → IsAll X.K H vs es → ds = es
  | _, _, _, _, .nil, _, _ => rfl
  | _, _, _, _, .short _ _, h1, h2 => by have a := h1.length; have b := h2.length; rw [a] at b; simp at b
  | _, _, _, _, .long _ _, h1, h2 => by have a := h1.length; have b := h2.length; rw [a] at b; simp at b
  | _, _, _, _, .cons c r, .cons h1 r1, .cons h2 r2 => by rw [Is.inj I c h1 h2, IsAll.inj I r r1 r2]
end
theorem tup_eq_iff {ds es : List D} : D.tup ds = D.tup es ↔ ds.length = es.length ∧ ∀ (j : Nat) (d e : D), ds[j]? = some d → es[j]? = some e → d = e := by
  constructor
  · intro h
    cases h
    exact ⟨rfl, fun j d e h1 h2 => by rw [h1] at h2; exact Option.some.inj h2⟩
  · rintro ⟨h1, h2⟩
    congr 1
    refine List.ext_getElem? fun j => ?_
    by_cases hj : j < ds.length
    · have hj' : j < es.length := by omega
      rw [List.getElem?_eq_getElem hj, List.getElem?_eq_getElem hj', h2 j _ _ (List.getElem?_eq_getElem hj) (List.getElem?_eq_getElem hj')]
    · rw [List.getElem?_eq_none (by omega), List.getElem?_eq_none (by omega)]
noncomputable def fEq (ds es : List D) (j : Nat) : Bool := match ds[j]?, es[j]? with
  | some d, some e => eqb d e
  | _, _ => true
theorem fEq_at {ds es : List D} {j : Nat} {d e : D} (h1 : ds[j]? = some d) (h2 : es[j]? = some e) : fEq ds es j = eqb d e := by
  unfold fEq
  rw [h1, h2]
theorem fEq_all {ds es : List D} {n m : Nat} (l1 : n = ds.length) (l2 : m = es.length) : eqb (.tup ds) (.tup es) = ((List.range (min n m)).all (fEq ds es) && n == m) := by
  subst l1 l2
  refine eqb_of ?_
  rw [tup_eq_iff, Bool.and_eq_true, List.all_eq_true, beq_iff_eq]
  simp only [List.mem_range]
  constructor
  · rintro ⟨g1, g2⟩
    refine ⟨g2, fun j d e hd he => ?_⟩
    have hj : j < ds.length := (List.getElem?_eq_some_iff.mp hd).1
    have := g1 j (by omega)
    rw [fEq_at hd he] at this
    exact eqb_iff.mp this
  · rintro ⟨g2, g1⟩
    refine ⟨fun j hj => ?_, g2⟩
    have d1 : ds[j]? = some ds[j] := List.getElem?_eq_getElem (by omega)
    have d2 : es[j]? = some es[j] := List.getElem?_eq_getElem (by omega)
    rw [fEq_at d1 d2]
    exact eqb_iff.mpr (g1 j _ _ d1 d2)
theorem eqb_fl {ds es : List D} : eqb (.fl ds) (.fl es) = eqb (.tup ds) (.tup es) := eqb_of (by rw [eqb_iff]; constructor <;> intro h <;> cases h <;> rfl)
theorem fEq_items {A : Around} {xs ys : List V} {us ws : List Value} {ds es : List D} (q1 : IsAll X.K H xs ds) (q2 : IsAll X.K H ys es) (w1 : Vals xs us) (w2 : Vals ys ws)
    (hit : ∀ (j : Nat) (d e : D) (v1 v2 : V) (u1 u2 : Value), ds[j]? = some d → es[j]? = some e → Is X.K H v1 d → Is X.K H v2 e → RelV v1 u1 → RelV v2 u2 → SeqAt.EqAt A s u1 u2 (eqb d e)) :
    ∀ (j : Nat) (h1 : j < us.toArray.size) (h2 : j < ws.toArray.size), SeqAt.EqAt A s us.toArray[j] ws.toArray[j] (fEq ds es j) := by
  intro j h1 h2
  have l1 : us.length = ds.length := by rw [← w1.length, q1.length]
  have l2 : ws.length = es.length := by rw [← w2.length, q2.length]
  have j1 : j < us.length := by simpa using h1
  have j2 : j < ws.length := by simpa using h2
  have d1 : ds[j]? = some ds[j] := List.getElem?_eq_getElem (by omega)
  have d2 : es[j]? = some es[j] := List.getElem?_eq_getElem (by omega)
  obtain ⟨v1, g1, i1⟩ := q1.get d1
  obtain ⟨v2, g2, i2⟩ := q2.get d2
  obtain ⟨u1, g3, k1⟩ := w1.get g1
  obtain ⟨u2, g4, k2⟩ := w2.get g2
  have e1 : us.toArray[j] = u1 := by
    have : us[j]? = some us[j] := List.getElem?_eq_getElem j1
    rw [g3] at this
    simpa using (Option.some.inj this).symm
  have e2 : ws.toArray[j] = u2 := by
    have : ws[j]? = some ws[j] := List.getElem?_eq_getElem j2
    rw [g4] at this
    simpa using (Option.some.inj this).symm
  rw [e1, e2, fEq_at d1 d2]
  exact hit j _ _ v1 v2 u1 u2 d1 d2 i1 i2 k1 k2
theorem eqAt_D (I : L2.Inv X pins σ H s) : ∀ {n : Nat} {d e : D} {v u : V} {v' u' : Value} (A : Around), Cm n d e → A.units + n < cLine → Is X.K H v d → Is X.K H u e → RelV v v' → RelV u u' → SeqAt.EqAt A s v' u' (eqb d e)
  | n, _, _, v, u, v', u', A, .non, _, h1, h2, r1, r2 => by
    cases h1.non_inv; cases h2.non_inv; cases r1; cases r2
    rw [eqb_of (k := true) (by simp)]
    exact SeqAt.EqAt.same _
  | n, _, _, v, u, v', u', A, .bl a b, _, h1, h2, r1, r2 => by
    cases h1.bl_inv; cases h2.bl_inv
    rw [eqb_of (k := eqV (.bl a) (.bl b)) (by show (a == b) = true ↔ _; simp)]
    exact eqAt_V r1 r2 rfl rfl
  | n, _, _, v, u, v', u', A, .int a b, _, h1, h2, r1, r2 => by
    cases h1.int_inv; cases h2.int_inv
    rw [eqb_of (k := eqV (.int a) (.int b)) (by show (a == b) = true ↔ _; simp)]
    exact eqAt_V r1 r2 rfl rfl
  | n, _, _, v, u, v', u', A, .str a b, _, h1, h2, r1, r2 => by
    cases h1.str_inv; cases h2.str_inv
    rw [eqb_of (k := eqV (.str a) (.str b)) (by show (a == b) = true ↔ _; simp)]
    exact eqAt_V r1 r2 rfl rfl
  | n + 1, .tup ds, .tup es, v, u, v', u', A, .tup c, hu, h1, h2, r1, r2 => by
    obtain ⟨a, xs, rfl, t1, q1⟩ := h1.tup_inv
    obtain ⟨b, ys, rfl, t2, q2⟩ := h2.tup_inv
    cases r1
    cases r2
    by_cases hab : a = b
    · subst hab
      cases I.tuple_inj t1 t2
      rw [IsAll.inj I c q1 q2, eqb_of (k := true) (by simp)]
      exact SeqAt.EqAt.same _
    · obtain ⟨us, w1, p1, _⟩ := I.tuple t1
      obtain ⟨ws, w2, p2, _⟩ := I.tuple t2
      rw [fEq_all (n := us.toArray.size) (m := ws.toArray.size) (by rw [List.size_toArray, ← w1.length, q1.length]) (by rw [List.size_toArray, ← w2.length, q2.length])]
      exact SeqAt.EqAt.of_refs hab (SeqAt.RcAt.tuples p1 p2 (by omega) (fEq_items q1 q2 w1 w2 fun j d e v1 v2 u1 u2 d1 d2 i1 i2 k1 k2 => eqAt_D I A.in1 (c.get j _ _ d1 d2) (by show A.units + 1 + n < cLine; omega) i1 i2 k1 k2))
  | n + 1, .fl ds, .fl es, v, u, v', u', A, .fl c, hu, h1, h2, r1, r2 => by
    obtain ⟨a, o, xs, rfl, t1, q1⟩ := h1.fl_inv
    obtain ⟨b, o', ys, rfl, t2, q2⟩ := h2.fl_inv
    cases r1
    cases r2
    by_cases hab : a = b
    · subst hab
      rw [t1] at t2
      cases t2
      rw [IsAll.inj I c q1 q2, eqb_of (k := true) (by simp)]
      exact SeqAt.EqAt.same _
    · obtain ⟨us, w1, p1, _⟩ := I.list (.inl (.inr ⟨o, t1⟩))
      obtain ⟨ws, w2, p2, _⟩ := I.list (.inl (.inr ⟨o', t2⟩))
      have e1 : us.length = ds.length := by rw [← w1.length, q1.length]
      have e2 : ws.length = es.length := by rw [← w2.length, q2.length]
      rw [eqb_fl, fEq_all (n := us.length) (m := ws.length) e1 e2]
      by_cases hz : us.length = ws.length
      · have ek : (List.range us.toArray.size).all (fEq ds es) = ((List.range (min us.length ws.length)).all (fEq ds es) && us.length == ws.length) := by
          rw [List.size_toArray, show min us.length ws.length = us.length by omega, show (us.length == ws.length) = true by simp; omega, Bool.and_true]
        rw [← ek]
        exact SeqAt.EqAt.of_refs hab (SeqAt.RcAt.lists p1.isList p2.isList (by simp; omega) (by omega) (fEq_items q1 q2 w1 w2 fun j d e v1 v2 u1 u2 d1 d2 i1 i2 k1 k2 => eqAt_D I A.in1 (c.get j _ _ d1 d2) (by show A.units + 1 + n < cLine; omega) i1 i2 k1 k2))
      · have ek : ((List.range (min us.length ws.length)).all (fEq ds es) && us.length == ws.length) = false := by
          rw [show (us.length == ws.length) = false by simpa using hz, Bool.and_false]
        rw [ek]
        exact SeqAt.EqAt.of_refs hab (SeqAt.RcAt.lists_lengths p1.isList p2.isList (by simpa using hz) (by omega))
end
section
variable {X : Cx}
def rEqT (X : Cx) (neg : Bool) : R2 := fun x y H Q => ∃ n ds es, Cm (n + 1) (.tup ds) (.tup es) ∧ X.A.units + n + 1 < cLine ∧ Is X.K H x (.tup ds) ∧ Is X.K H y (.tup es) ∧ Q (.bl (if neg then !eqb (.tup ds) (.tup es) else eqb (.tup ds) (.tup es))) H
theorem op_eqT : OpR X (compareOp .Eq) (rEqT X false) := by
  intro pins s σ H x y v u Q I rx ry h
  obtain ⟨n, ds, es, c, hu, h1, h2, q⟩ := h
  obtain ⟨a, xs, rfl, t1, q1⟩ := h1.tup_inv
  obtain ⟨b, ys, rfl, t2, q2⟩ := h2.tup_inv
  cases rx
  cases ry
  cases c with
  | tup c =>
    obtain ⟨us, w1, p1, _⟩ := I.tuple t1
    obtain ⟨ws, w2, p2, _⟩ := I.tuple t2
    refine SeqAt.eq_tupleAt p1 p2 (by omega) (fEq_items q1 q2 w1 w2 fun j d e v1 v2 u1 u2 d1 d2 i1 i2 k1 k2 => eqAt_D I X.A.in1 (c.get j _ _ d1 d2) (by show X.A.units + 1 + n < cLine; omega) i1 i2 k1 k2) ?_
    rw [← fEq_all (n := us.toArray.size) (m := ws.toArray.size) (by rw [List.size_toArray, ← w1.length, q1.length]) (by rw [List.size_toArray, ← w2.length, q2.length])]
    exact ⟨.bl _, H, I, rfl, q⟩
theorem op_neT : OpR X (compareOp .NotEq) (rEqT X true) := by
  intro pins s σ H x y v u Q I rx ry h
  obtain ⟨n, ds, es, c, hu, h1, h2, q⟩ := h
  obtain ⟨a, xs, rfl, t1, q1⟩ := h1.tup_inv
  obtain ⟨b, ys, rfl, t2, q2⟩ := h2.tup_inv
  cases rx
  cases ry
  cases c with
  | tup c =>
    obtain ⟨us, w1, p1, _⟩ := I.tuple t1
    obtain ⟨ws, w2, p2, _⟩ := I.tuple t2
    refine SeqAt.RcNeAt.tuples p1 p2 (by omega) (fEq_items q1 q2 w1 w2 fun j d e v1 v2 u1 u2 d1 d2 i1 i2 k1 k2 => eqAt_D I X.A.in1 (c.get j _ _ d1 d2) (by show X.A.units + 1 + n < cLine; omega) i1 i2 k1 k2) _ _ _ _ ?_
    rw [← fEq_all (n := us.toArray.size) (m := ws.toArray.size) (by rw [List.size_toArray, ← w1.length, q1.length]) (by rw [List.size_toArray, ← w2.length, q2.length])]
    exact ⟨.bl _, H, I, rfl, q⟩
variable {e a b c : Expr} {es : List Expr} {ρ : Ro} {d : D} {ds fs : List D} {pos : Pos} {i j : Int} {k k' : Bool}
theorem rEqT_of {n m : Nat} {neg : Bool} (hr : Room m X.A) (c : Cm (n + 1) (.tup ds) (.tup fs)) (hn : n ≤ 60) (hk : d = .bl (if neg then !eqb (.tup ds) (.tup fs) else eqb (.tup ds) (.tup fs))) :
    ∀ v1 v2 H Q, Is X.K H v1 (.tup ds) → Is X.K H v2 (.tup fs) → (∀ v H', Same H H' → Is X.K H' v d → Q v H') → rEqT X neg v1 v2 H Q :=
  fun _ _ H _ h1 h2 q => ⟨n, ds, fs, c, (by have := hr.units; omega), h1, h2, q _ H (Same.refl H) (hk ▸ .bl _)⟩
theorem ev_eqT {n m : Nat} (hr : Room m X.A) (ha : Ev X a ρ (.tup ds)) (hb : Ev X b ρ (.tup fs)) (c : Cm (n + 1) (.tup ds) (.tup fs)) (hn : n ≤ 60 := by decide) : Ev X (.Compare a [.Eq] [b] pos) ρ (.bl (eqb (.tup ds) (.tup fs))) :=
  ev_cmp op_eqT ha hb (nomark _) (rEqT_of hr c hn rfl)
theorem et_neT {n m : Nat} (hr : Room m X.A) (ha : Ev X a ρ (.tup ds)) (hb : Ev X b ρ (.tup fs)) (c : Cm (n + 1) (.tup ds) (.tup fs)) (hn : n ≤ 60 := by decide) : Et X (.Compare a [.NotEq] [b] pos) ρ (!eqb (.tup ds) (.tup fs)) :=
  et_cmp op_neT ha hb (nomark _) (rEqT_of hr c hn rfl)
def EvO (X : Cx) (e : Option Expr) (ρ : Ro) (o : Option Int) : Prop := PO X e (fun σ H Q => RelE X H σ ρ ∧ ∀ H', Same H H' → Q o H')
theorem PO.imp {o : Option Expr} {t t' : TO} (h : PO X o t) (f : ∀ σ H Q, t' σ H Q → t σ H Q) : PO X o t' := fun pins s σ H Q I q => h pins s σ H Q I (f σ H Q q)
theorem eo_none : EvO X none ρ none := PO.imp po_none fun _ H _ ⟨_, q⟩ => q H (Same.refl H)
theorem eo_some (h : Ev X e ρ (.int i)) : EvO X (some e) ρ (some i) := PO.imp (po_some h) fun σ H Q ⟨r, q⟩ => ⟨r, fun v H' s' h' => ⟨i, h'.int_inv, q H' s'⟩⟩
theorem evn_list (h : EvA X es ρ ds) (hl : ds.length ≤ 1000 := by exact Nat.le_of_ble_eq_true rfl) : EvN X (.List es pos) ρ ds := by
  refine PE.imp (pe_lst h) ?_
  rintro σ H Q ⟨r, q⟩
  exact ⟨r, fun vs H1 s1 h1 => ⟨by rw [h1.length]; exact Nat.le_of_lt (small1000 hl), fun p hp => q p vs _ (s1.free hp) (s1.trans (same_new hp)) upd_same (h1.mono (same_new hp))⟩⟩
end
section
variable {X : Cx} {e a b c : Expr} {es : List Expr} {ρ : Ro} {d : D} {ds : List D} {pos : Pos} {rest : List Stmt} {Q : Po}
end
section
variable {P : Program} {w : World} {K : PySem.W.Frag} {mg : Str → Option Value} {base : Heap}
end
end FL
namespace FL
open PySem PySem.Spec PyProof.Rows L2
def tR (X : Cx) (ρ : Ro) (R : D → Prop) : TE := fun σ H Q => RelE X H σ ρ ∧ ∀ d v H', R d → Same H H' → Is X.K H' v d → Q v H'
def tRs (X : Cx) (ρ : Ro) (R : List D → Prop) : TA := fun σ H Q => RelE X H σ ρ ∧ ∀ ds vs H', R ds → Same H H' → IsAll X.K H' vs ds → Q vs H'
def EvR (X : Cx) (e : Expr) (ρ : Ro) (R : D → Prop) : Prop := PE X e (tR X ρ R)
def EvAR (X : Cx) (es : List Expr) (ρ : Ro) (R : List D → Prop) : Prop := PA X es (tRs X ρ R)
section
variable {X : Cx} {e a b c : Expr} {es : List Expr} {ρ : Ro} {d : D} {ds : List D} {pos : Pos} {i j : Int} {rest : List Stmt} {P : Po} {R S : D → Prop} {Rs : List D → Prop}
theorem EvR.imp (h : EvR X e ρ R) (f : ∀ d, R d → S d) : EvR X e ρ S := PE.imp h fun _ _ _ ⟨r, q⟩ => ⟨r, fun d v H' x s h => q d v H' (f d x) s h⟩
theorem EvA.r (h : EvA X es ρ ds) : EvAR X es ρ (fun x => x = ds) := PA.imp h fun _ _ _ ⟨r, q⟩ => ⟨r, fun v H' s h => q ds v H' rfl s h⟩
theorem do_setR (n : Nat) {x : Str} {pos' : Pos} (he : EvR X e ρ R) (hz : ∀ d, R d → Fz d) (h : ∀ d, R d → Do X rest (ρ.set n (some d)) P) (hN : X.N.Nodup) (hi : X.N[n]? = some x := by rfl) (hx : Loc X.env.scope x := by first | exact Or.inl rfl | exact Or.inr rfl)
    (hs : swapsWith e (some (.Name x pos')) pos.line X.env = pure false := by rfl) (hf : X.fn x = true ∨ X.env.scope.names.lookup x = some .local := by first | exact .inl rfl | exact .inr rfl) : Do X (.Assign [.Name x pos'] e pos :: rest) ρ P := by
  refine do_seq (M := fun ρ' => ∃ d, R d ∧ ρ' = ρ.set n (some d)) (PS.imp (ps_set hN hi hx he hs hf) ?_) (fun _ ⟨d, x, z⟩ => z ▸ h d x)
  rintro D σ H ⟨r, q1, q2, q3, q4⟩
  refine ⟨r.e, fun d v H' x s h' => ?_⟩
  exact q1 _ H' _ (Go.set s fun a z => ((hz d x).no_own z).elim) ((r.mono s).set h' n (.inl (hz d x)) fun a z => ((hz d x).no_own z).elim) ⟨d, x, rfl⟩
end
def SpR (K : PySem.W.Frag) (Pre : List D → Prop) (Post : List D → D → Prop) : Sp := fun vs H Q _ => ∃ ds, IsAll K H vs ds ∧ Pre ds ∧ ∀ d v H', Post ds d → Same H H' → Is K H' v d → Q v H'
def FnR (P : Program) (w : World) (K : PySem.W.Frag) (mg : Str → Option Value) (base : Heap) (k : Nat) (x : Str) (Pre : List D → Prop) (Post : List D → D → Prop) : Prop :=
  ∃ f fd ps, FnOk P w K mg base CX0 k f fd ps (SpR K Pre Post) ∧ mg x = some (.ref f) ∧ PySem.W.keepIn K (.ref f) = true ∧ Binds K fd ps []
section
variable {X : Cx} {e : Expr} {es : List Expr} {ρ : Ro} {ds : List D} {pos : Pos} {Rs : List D → Prop}
theorem evr_callR {k : Nat} {x : Str} {Pre : List D → Prop} {Post : List D → D → Prop} {p : Pos} (C : FnR X.prog X.w X.K X.mg X.base k x Pre Post) (hr : Room k X.A) (ha : EvAR X (e :: es) ρ Rs) (hp : ∀ ds, Rs ds → Pre ds) (hg : Gl X x := by rfl) (hdb : (x == ("__debug__" : Str)) = false := by decide)
    (he : starEach (e :: es) X.env = (false, eval e X.env) :: starEach es X.env := by rfl) (hpl : (backTo pos (starEach es X.env)).any (·.1) = false := by rfl) : EvR X (.Call (.Name x p) (e :: es) [] pos) ρ (fun d => ∃ ds, Rs ds ∧ Post ds d) := by
  obtain ⟨f, fd, ps, F, hm, hk, hb⟩ := C
  refine PE.imp (pe_call F hr hg hm hk hb .nil pass0 ha hdb he hpl) ?_
  rintro σ H Q ⟨r, q⟩
  refine ⟨r, fun ds vs H1 x1 s1 h1 => ⟨ds, ?_, hp ds x1, fun d v H' x2 s' h' => q d v H' ⟨ds, x1, x2⟩ (s1.trans s') h'⟩⟩
  rw [List.append_nil]
  exact h1
theorem evr_call {k : Nat} {x : Str} {Pre : List D → Prop} {Post : List D → D → Prop} {p : Pos} (C : FnR X.prog X.w X.K X.mg X.base k x Pre Post) (hr : Room k X.A) (ha : EvA X (e :: es) ρ ds) (hp : Pre ds) (hg : Gl X x := by rfl) (hdb : (x == ("__debug__" : Str)) = false := by decide)
    (he : starEach (e :: es) X.env = (false, eval e X.env) :: starEach es X.env := by rfl) (hpl : (backTo pos (starEach es X.env)).any (·.1) = false := by rfl) : EvR X (.Call (.Name x p) (e :: es) [] pos) ρ (Post ds) :=
  (evr_callR C hr ha.r (fun _ z => z ▸ hp) hg hdb he hpl).imp fun d ⟨_, z, h⟩ => z ▸ h
end
section
variable {P : Program} {w : World} {K : PySem.W.Frag} {mg : Str → Option Value} {base : Heap}
theorem fnr_mk {x qual : Str} {st : Stmt} {f : Addr} {fd : FuncData} {N ps : List Str} {k : Nat} {Pre : List D → Prop} {Post : List D → D → Prop} (F : Fun K x qual st f fd) (S : FnScope N ps (defScope st)) (hm : mg x = some (.ref f)) (hb : Binds K fd ps [])
    (hl : ∀ ds, Pre ds → ds.length = ps.length ∧ ∀ d ∈ ds, ownA d = none)
    (hbody : ∀ (cdv : Value) (A : Around) (outer : List Env) (s : Shared) (H : Hp) (E : XK), Room k (A.deeper (envOfC qual (defScope st) s.heap.objs.size f cdv)) → ∀ ds, Pre ds →
      Do (cxD P w K mg base N qual st f cdv A outer s H E) (defBody st) (ini N ds) { nx := fun _ => Post ds .non, rt := Post ds }) : FnR P w K mg base (k + 1) x Pre Post := by
  refine ⟨f, fd, ps, F.ok S (fun vs H Q E h => ?_) (fun cdv A outer s H vs Q E hr h => ?_), hm, F.kp, hb⟩
  · obtain ⟨ds, h1, h2, _⟩ := h
    rw [h1.length]
    exact (hl ds h2).1
  · obtain ⟨ds, h1, h2, q⟩ := h
    refine ⟨_, hbody cdv A outer s H E hr ds h2, ?_⟩
    exact ⟨relS_start (X := cxD P w K mg base N qual st f cdv A outer s H E) h1 (hl ds h2).2, fun σ' H' ρ' _ r' z => q _ _ H' z r'.same .non, fun v H' d' sm hv _ z => q d' v H' z sm hv, fun _ _ _ _ _ z => z.elim, fun _ _ _ _ _ z => z.elim⟩
end
end FL
namespace FL
open PySem PySem.Spec PyProof.Rows L2
section
variable {X : Cx} {pins : List (Addr × Obj)} {σ : L2.St} {H : Hp} {s : Shared}
end
section
variable {X : Cx}
variable {e a b c : Expr} {es : List Expr} {ρ : Ro} {d f : D} {ds fs : List D} {pos : Pos} {i j : Int} {k k' : Bool}
end
end FL
namespace FT
open PySem PySem.W PyProof.Rows
section
variable {r : Nat → Int} {n : Nat} {p p' : Array Nat}
end
end FT
namespace FT
open PySem PySem.W PySem.Calls PyProof.Rows
section
variable {prog : Program} {w : World} {A : Around} {E : Value → Shared → Prop} {s : Shared} {vs : List Value} {r : Nat → Int} {κ : SortKind}
end
end FT
namespace FT
open PySem PySem.W PySem.Spec PySem.Calls PyProof.Rows L2 FL
section
variable {prog : Program} {w : World} {A : Around} {s : Shared}
end
end FT
namespace FT
open PySem PySem.W PySem.Spec PySem.Calls PyProof.Rows L2 FL
section
variable {X : Cx} {pins : List (Addr × Obj)} {σ : L2.St} {H : Hp} {s : Shared}
variable {e : Expr} {ρ : Ro} {d : D} {pos p : Pos} {ts : List (List Int)} {k : Nat}
end
end FT
namespace FU
open PySem PyProof.Rows HT
section
open PySem.SeqAt
open PySem.AutoSeq1 (wpAny_loadPart')
open PySem.MeetsSeq PySem.MeetsSeq2 PySem.MeetsSeq3
end
section
variable {prog : Program} {w : World} {A : Around} {E : Value → Shared → Prop} {s : Shared}
end
end FU
namespace FU
open PySem PySem.Spec PyProof.Rows L2 FL
section
variable {X : Cx} {a b : Expr} {ρ : Ro} {pos : Pos} {ns ms : List Int} {m : Nat}
end
end FU
namespace FL
open PySem PySem.Spec PyProof.Rows L2
def Con (K : PySem.W.Frag) (mg : Str → Option Value) (x : Str) (d : D) : Prop := ∃ v u, mg x = some u ∧ RelV v u ∧ ∀ H, Is K H v d
theorem con_int {K : PySem.W.Frag} {mg : Str → Option Value} {x : Str} {i : Int} {t : Tok} (h : mg x = some (.int i t)) : Con K mg x (.int i) := ⟨.int i, _, h, ⟨t, rfl⟩, fun _ => .int i⟩
theorem con_str {K : PySem.W.Frag} {mg : Str → Option Value} {x : Str} {i : Str} {t : Tok} (h : mg x = some (.str i t)) : Con K mg x (.str i) := ⟨.str i, _, h, ⟨t, rfl⟩, fun _ => .str i⟩
section
variable {X : Cx} {e a b c f : Expr} {es : List Expr} {ρ : Ro} {d : D} {ds gs : List D} {pos : Pos} {i j k l : Int} {rest : List Stmt} {P : Po}
theorem ev_con {x : Str} (C : Con X.K X.mg x d) (hg : Gl X x := by rfl) (hd : (x == ("__debug__" : Str)) = false := by decide) : Ev X (.Name x pos) ρ d := by
  obtain ⟨v, u, hm, r, h⟩ := C
  exact PE.imp (pe_glob hg hm r hd) fun _ H _ ⟨_, q⟩ => q _ H (Same.refl H) (h H)
end
theorem hcl_of {cl cells : List (Str × Addr)} (h : ∀ p ∈ cl, cells.lookup p.1 = some p.2) : ∀ y c, cl.lookup y = some c → cells.lookup y = some c := fun y c e => h (y, c) (PySem.mem_of_lookup e)
theorem has_of {scope : Scope} {env : Env} {cl : List (Str × Addr)} (h1 : ∀ p ∈ scope.names, p.2 ≠ .cell) (h2 : ∀ p ∈ scope.names, p.2 = .free → ∃ c, cl.lookup p.1 = some c) :
    ∀ y, (relabel scope env).names.lookup y = some .cell ∨ (relabel scope env).names.lookup y = some .free → ∃ c, cl.lookup y = some c := by
  have key : ∀ p ∈ (relabel scope env).names, (p.2 = .cell ∨ p.2 = .free) → ∃ c, cl.lookup p.1 = some c := by
    intro p hp hk'
    obtain ⟨⟨n, k⟩, hm, e⟩ := List.mem_map.mp (show p ∈ scope.names.map _ from hp)
    have hk := h1 _ hm
    by_cases hf : k = .free
    · have h3 := h2 _ hm hf
      have e1 : p.1 = n := by
        rw [← e]
        dsimp only
        split <;> rfl
      rw [e1]
      exact h3
    · have hf' : (k == NameKind.free) = false := by simpa using hf
      simp only [hf', Bool.false_and, Bool.false_eq_true, if_false] at e
      subst e
      rcases hk' with z | z
      · exact absurd z hk
      · exact absurd z hf
  intro y z
  rcases z with z | z
  · exact key _ (PySem.mem_of_lookup z) (.inl rfl)
  · exact key _ (PySem.mem_of_lookup z) (.inr rfl)
end FL
namespace FL
open PySem PySem.Spec PyProof.Rows L2
section
variable {X : Cx} {e a b c f : Expr} {es : List Expr} {ρ : Ro} {d d' : D} {ds gs : List D} {pos : Pos} {i j k l : Int} {rest : List Stmt} {P : Po}
theorem ev_tupleOf {p : Pos} (hm : X.mg "tuple" = none) (ha : Ev X a ρ d') (hl : lsD d' = some ds) (hg : Gl X "tuple" := by rfl) (he : starEach [a] X.env = [(false, eval a X.env)] := by rfl) : Ev X (.Call (.Name "tuple" p) [a] [] pos) ρ (.tup ds) :=
  PE.imp (pe_callTy call_tuple_of hg hm bo_tuple (ea_cons ha ea_nil he) (by decide) (by decide) he rfl) fun σ H Q ⟨r, q⟩ => ⟨r, fun vs H1 s1 h1 => by
    obtain ⟨v, rfl, h⟩ := one_inv h1
    obtain ⟨a, xs, rfl, h3, h4⟩ := h.lsD_inv hl
    exact ⟨a, xs, rfl, .inl ⟨h3, fun l hl => q _ _ (s1.trans (same_new hl)) (.tup upd_same (h4.mono (same_new hl)))⟩⟩⟩
theorem map_at {α β : Type} {g h : α → β} : ∀ {xs : List α}, xs.map g = xs.map h → ∀ x ∈ xs, g x = h x
  | [], _, x, hx => by cases hx
  | y :: ys, e, x, hx => by
    simp only [List.map_cons, List.cons.injEq] at e
    rcases List.mem_cons.mp hx with rfl | hx
    · exact e.1
    · exact map_at e.2 x hx
theorem evn_compC {elt iter : Expr} {x : Str} {px : Pos} {ifs : List Expr} {scope : Scope} (cl : List (Str × Addr)) (ys : List Str) (js : List Nat) (p : D → Bool) (f : D → D)
    (hi : Src X (.Name x px) iter ρ ds) (hz : ds.length ≤ 1000000) (hfz : ∀ d ∈ ds, p d = true → Fz (f d))
    (ht : ∀ C s₀ H₀ fp, ∀ d ∈ ds, Ets (blk X scope cl (x :: ys) C s₀ H₀ fp) ifs (some d :: freesD js ρ) (p d))
    (he : ∀ C s₀ H₀ fp, ∀ d ∈ ds, p d = true → Ev (blk X scope cl (x :: ys) C s₀ H₀ fp) elt (some d :: freesD js ρ) (f d))
    (hc : X.calm = true := by rfl) (hclos : closureFor scope X.env = pure cl := by rfl) (hcell : scope.names.all (fun y => !(y.2 == .cell)) = true := by rfl) (hkind : scope.kind = .function := by rfl)
    (hnames : scope.names.all (fun y => !(y.2 == .local) || (scope.names.lookup y.1 == some .local)) = true := by rfl) (hx : scope.names.lookup x = some .local := by rfl) (hnd : (x :: ys).Nodup := by decide)
    (hcl : cl.map (fun p => X.env.cells.lookup p.1) = cl.map (fun p => some p.2) := by rfl) (hhas : scope.names.all (fun y => !(y.2 == .free) || (cl.lookup y.1).isSome) = true := by rfl)
    (hjs : js.length = ys.length := by rfl) (hN : js.map (fun j => X.N[j]?) = ys.map some := by rfl) (hK : ys.map (fun y => X.env.scope.names.lookup y) = ys.map (fun _ => some .cell) := by rfl) (hR : ys.map (fun y => (relabel scope X.env).names.lookup y) = ys.map (fun _ => some .cell) := by rfl)
    (hs : ∀ x, foldedSetIterable iter X.env x = pure x := by intro _; rfl) : EvN X (.ListComp elt [⟨.Name x px, iter, ifs, 0⟩] scope pos) ρ ((ds.filter p).map f) := by
  have hcell' : ∀ y ∈ scope.names, y.2 ≠ .cell := fun y hy z => by
    have := List.all_eq_true.mp hcell y hy
    rw [z] at this
    cases this
  refine evn_comp (cl := cl) (ys := ys) (js := js) p f hc hi hz hfz ht he hclos hcell' hkind (fun y hy z => ?_) hx hnd (hcl_of fun q hq => map_at hcl q hq) (has_of hcell' fun q hq z => ?_) hjs (fun i j y hj hy => ?_) hs
  · have := List.all_eq_true.mp hnames y hy
    rw [z] at this
    simpa using this
  · have := List.all_eq_true.mp hhas q hq
    rw [z] at this
    have h2 : (cl.lookup q.1).isSome = true := by simpa using this
    exact Option.isSome_iff_exists.mp h2
  · have my : y ∈ ys := List.mem_of_getElem? hy
    have e1 : X.N[j]? = some y := by
      have : (js.map (fun j => X.N[j]?))[i]? = (ys.map some)[i]? := by rw [hN]
      rw [List.getElem?_map, List.getElem?_map, hj, hy] at this
      simpa using this
    have e2 := map_at hK y my
    have e3 := map_at hR y my
    exact ⟨e1, .inr (.inl e2), .inl e2, .inl e3⟩
theorem evn_map0 {elt iter : Expr} {x : Str} {px : Pos} {scope : Scope} (f : D → D) (hi : Src X (.Name x px) iter ρ ds) (hz : ds.length ≤ 1000000) (hfz : ∀ d ∈ ds, Fz (f d))
    (he : ∀ C s₀ H₀ fp, ∀ d ∈ ds, Ev (blk X scope [] [x] C s₀ H₀ fp) elt [some d] (f d))
    (hc : X.calm = true := by rfl) (hclos : closureFor scope X.env = pure [] := by rfl) (hcell : scope.names.all (fun y => !(y.2 == .cell)) = true := by rfl) (hkind : scope.kind = .function := by rfl)
    (hnames : scope.names.all (fun y => !(y.2 == .local) || (scope.names.lookup y.1 == some .local)) = true := by rfl) (hx : scope.names.lookup x = some .local := by rfl) (hhas : scope.names.all (fun y => !(y.2 == .free)) = true := by rfl)
    (hs : ∀ x, foldedSetIterable iter X.env x = pure x := by intro _; rfl) : EvN X (.ListComp elt [⟨.Name x px, iter, [], 0⟩] scope pos) ρ (ds.map f) := by
  have h := evn_compC (X := X) (ρ := ρ) (pos := pos) (ds := ds) (elt := elt) (iter := iter) (x := x) (px := px) (ifs := []) (scope := scope) [] [] [] (fun _ => true) f hi hz (fun d hd _ => hfz d hd) (fun _ _ _ _ _ _ => ets_nil) (fun C s₀ H₀ fp d hd _ => he C s₀ H₀ fp d hd) hc hclos hcell hkind hnames hx (by simp) rfl (by
    rw [List.all_eq_true]
    intro y hy
    rw [List.all_eq_true.mp hhas y hy]
    rfl) rfl rfl rfl rfl hs
  rwa [List.filter_eq_self.mpr (fun _ _ => rfl)] at h
end
end FL
namespace FL
open PySem PySem.Spec PyProof.Rows L2
section
variable {P : Program} {w : World} {K : PySem.W.Frag} {mg : Str → Option Value} {base : Heap} {k : Nat} {x : Str}
end
end FL
namespace FL
open PySem PySem.Spec PyProof.Rows L2
section
variable {X : Cx} {ρ : Ro} {ds : List D} {pos spos py : Pos} {rest : List Stmt} {P : Po}
end
end FL
namespace M
theorem bar_neg {a b g : Int} (ha : 0 < a) (hg : 0 ≤ g) : b * b - 4 * a * (b * b / (4 * a) + 1 + g) < 0 := by
  have h4 : 0 < 4 * a := by omega
  have h1 := Int.lt_mul_ediv_self_add (x := b * b) h4
  have h2 : 4 * a * (b * b / (4 * a) + 1 + g) = 4 * a * (b * b / (4 * a)) + 4 * a + 4 * a * g := by
    rw [Int.mul_add, Int.mul_add, Int.mul_one]
  have h3 : 0 ≤ 4 * a * g := Int.mul_nonneg (by omega) hg
  omega
end M
namespace MT
end MT
namespace MT
end MT
namespace MT
def meas (x y z : Int) : Nat := 3 * x.natAbs + (if -x < y ∧ y ≤ x then (if x = z ∧ y < 0 then 1 else 0) else 2)
end MT
namespace MT
end MT
namespace CM
open PySem PySem.Spec L2 FL
def p_is_whole (ds : List D) (d : D) : Prop := ∃ i : Int, ds = [.int i] ∧ d = .bl true
def p_is_whole_tuple (ds : List D) (d : D) : Prop := ∃ ns : List Int, ds = [.tup (ns.map D.int), .int (ns.length : Int)] ∧ ns.length ≤ 1000 ∧ d = .bl true
def p_bar_of_numbers (ds : List D) (d : D) : Prop := ∃ a b c : Int, ds = [.int a, .int b, .int c] ∧ Bd a 8000 ∧ Bd b 8000 ∧ Bd c 8000 ∧ d = .int (b * b - 4 * a * c)
structure FormN (a b c : Int) : Prop where
  pos : 0 < a
  bar : b * b - 4 * a * c < 0
  sa : Bd a 8000
  sb : Bd b 8000
  sc : Bd c 8000
abbrev formD (a b c : Int) : D := .tup [.int a, .int b, .int c]
def p_require_form (ds : List D) (d : D) : Prop := ∃ a b c : Int, ds = [formD a b c] ∧ FormN a b c ∧ d = .non
def p_law_ints (ds : List D) (d : D) : Prop := ∃ ns : List Int, ds = [.tup (ns.map D.int), .int (ns.length : Int)] ∧ d = .bl true
abbrev cell (ns : List Int) (k : Nat) : Int := ns.getD k 0
abbrev scrD (ns : List Int) : D := .ls (ns.map D.int)
def p_law_cell_at (ds : List D) (d : D) : Prop := ∃ (ns : List Int) (k : Nat), ds = [scrD ns, .int (k : Int)] ∧ d = .int (cell ns k)
def great (c o : Int) : Int := if o % 5 = 0 then (c * 7919 + o) ^ 2 % 10 ^ 40 else c % 50
theorem great_in (c o : Int) : 0 ≤ great c o ∧ great c o < 10 ^ 40 := by
  unfold great
  split
  · exact ⟨Int.emod_nonneg _ (by decide), Int.emod_lt_of_pos _ (by decide)⟩
  · have h1 := Int.emod_nonneg c (show (50 : Int) ≠ 0 by decide)
    have h2 := Int.emod_lt_of_pos c (show (0 : Int) < 50 by decide)
    have h3 : (50 : Int) < 10 ^ 40 := by decide
    omega
theorem great_bd (c o : Int) : Bd (great c o) 133 := by
  have h := great_in c o
  have e : (10 : Int) ^ 40 < 2 ^ 133 := by decide
  refine .of_lt ?_
  have h2 : great c o < 2 ^ 133 := by omega
  omega
instance bd_7919 : Bd 7919 13 := .lit
def p_law_great (ds : List D) (d : D) : Prop := ∃ c o : Int, ds = [.int c, .int o] ∧ Bd c 1048577 ∧ Bd o 1048577 ∧ d = .int (great c o)
def dA (ns : List Int) (k : Nat) : Int := 1 + great (cell ns k) (cell ns (k + 3))
def dB0 (ns : List Int) (k : Nat) : Int := great (cell ns (k + 1)) (cell ns (k + 3) / 5)
def dB (ns : List Int) (k : Nat) : Int := if cell ns (k + 1) / 50 % 2 = 1 then -dB0 ns k else dB0 ns k
def dC (ns : List Int) (k : Nat) : Int := dB ns k * dB ns k / (4 * dA ns k) + 1 + great (cell ns (k + 2)) (1 + cell ns (k + 3) / 25)
theorem dA_pos (ns : List Int) (k : Nat) : 0 < dA ns k := by
  have := (great_in (cell ns k) (cell ns (k + 3))).1
  unfold dA
  omega
theorem d_bar (ns : List Int) (k : Nat) : dB ns k * dB ns k - 4 * dA ns k * dC ns k < 0 := M.bar_neg (dA_pos ns k) (great_in _ _).1
theorem dA_bd (ns : List Int) (k : Nat) : Bd (dA ns k) 134 := by
  unfold dA
  exact Bd.add bd_1 (great_bd _ _) _ (by decide)
theorem dB0_bd (ns : List Int) (k : Nat) : Bd (dB0 ns k) 133 := great_bd _ _
theorem dB_bd (ns : List Int) (k : Nat) : Bd (dB ns k) 133 := by
  have := dB0_bd ns k
  unfold dB
  split
  · exact inferInstance
  · exact this
theorem dC_bd (ns : List Int) (k : Nat) : Bd (dC ns k) 268 := by
  have h0 := dB_bd ns k
  have h1 : Bd (dB ns k * dB ns k) 266 := Bd.mul h0 h0 _ (by decide)
  have h2 : Bd (dB ns k * dB ns k / (4 * dA ns k)) 266 := h1.div (by have := dA_pos ns k; omega)
  unfold dC
  exact Bd.add (Bd.add h2 bd_1 267 (by decide)) (great_bd _ _) _ (by decide)
def Sizes (ns : List Int) : Prop := ∀ k : Nat, Bd (cell ns k) 1048576
def p_law_form_by (ds : List D) (d : D) : Prop := ∃ (ns : List Int) (k : Nat), ds = [scrD ns, .int (k : Int)] ∧ Sizes ns ∧ d = formD (dA ns k) (dB ns k) (dC ns k)
theorem fz_ints (ns : List Int) : Fz (.tup (ns.map D.int)) := .tup fun d hd => by
  obtain ⟨z, _, rfl⟩ := List.mem_map.mp hd
  exact .int z
theorem fz3 (a b c : Int) : Fz (formD a b c) := fz_ints [a, b, c]
def p_law (ds : List D) (d : D) : Prop := ∃ ns : List Int, ds = [scrD ns] ∧ ns.length ≤ 63 ∧ Sizes ns ∧ d = .bl true
theorem law_sp (ns : List Int) (hl : ns.length ≤ 63) (hb : ∀ z ∈ ns, Builtin.Int.intBits z ≤ 1048576) : p_law [.ls (ns.map D.int)] (.bl true) := by
  refine ⟨ns, rfl, hl, fun k => ⟨?_⟩, rfl⟩
  by_cases h : k < ns.length
  · have e : cell ns k = ns[k] := by simp [cell, List.getD, List.getElem?_eq_getElem h]
    rw [e]
    exact hb _ (List.getElem_mem h)
  · have e : cell ns k = 0 := by simp [cell, List.getD, List.getElem?_eq_none (Nat.le_of_not_lt h)]
    rw [e]
    exact Nat.le_trans (bd_0).lt (by decide)
structure Tx (mg : Str → Option Value) : Prop where
  abs : mg "abs" = none
  all : mg "all" = none
  any : mg "any" = none
  bool : mg "bool" = none
  dict : mg "dict" = none
  enumerate : mg "enumerate" = none
  int : mg "int" = none
  isi : mg "isinstance" = none
  len : mg "len" = none
  list : mg "list" = none
  max : mg "max" = none
  min : mg "min" = none
  range : mg "range" = none
  reversed : mg "reversed" = none
  set : mg "set" = none
  sorted : mg "sorted" = none
  str : mg "str" = none
  sum : mg "sum" = none
  tuple : mg "tuple" = none
  zip : mg "zip" = none
def measAt (ρ : Ro) (i : Nat) : Nat := match ρ[i]? with
  | some (some (.tup [.int x, .int y, .int z])) => MT.meas x y z
  | _ => 0
end CM
namespace CM
open PySem PySem.Spec L2 FL FT
end CM
namespace CM
open PySem PySem.Spec L2 FL FT
end CM
namespace CM
open PySem PySem.Spec L2 FL FT
def isL : Option D → Bool
  | some (.lst _ _) => true
  | _ => false
theorem others_of {ρ : Ro} {n : Nat} (h : (ρ.set n none).any isL = false) {l : Addr} : ∀ (j : Nat) (es : List D), j ≠ n → ρ[j]? ≠ some (some (.lst l es)) := fun j es hj e => by
  have : (ρ.set n none)[j]? = some (some (.lst l es)) := by rw [List.getElem?_set_ne (fun z => hj z.symm)]; exact e
  have m := List.mem_of_getElem? this
  rw [List.any_eq_false] at h
  exact absurd rfl (h _ m)
end CM
namespace CM
open PySem PySem.Spec L2 FL FT
end CM
namespace CM
open PySem PySem.Spec L2 FL FT
end CM
namespace CM
open PySem PySem.Spec L2 FL FT
end CM
namespace CM
open PySem PySem.Spec L2 FL FT
end CM
namespace CM
open PySem PySem.Spec L2 FL FT
end CM
namespace ME
end ME
namespace MJ
end MJ
namespace MJ
end MJ
namespace CM
open PySem PySem.Spec L2 FL FT
end CM
namespace CM
open PySem PySem.Spec L2 FL FT
end CM
namespace CM
open PySem PySem.Spec L2 FL FT
end CM
namespace CM
open PySem PySem.Spec L2 FL FT
end CM
namespace CM
open PySem PySem.Spec L2 FL FT
end CM
namespace CM
open PySem PySem.Spec L2 FL FT
section
variable {X : Cx} {e1 e2 : Expr} {ρ : Ro} {p0 p1 p2 p3 : Pos} {m : Nat}
end
end CM
namespace MP
end MP
namespace MG
open MJ
end MG
namespace MG
open MJ
class AbG (G : Type) where
  mul : G → G → G
  one : G
  inv : G → G
  comm : ∀ x y, mul x y = mul y x
  assoc : ∀ x y z, mul (mul x y) z = mul x (mul y z)
  mul_one : ∀ x, mul x one = x
  mul_inv : ∀ x, mul x (inv x) = one
section
variable {G : Type} [AbG G]
open AbG
end
end MG
namespace CM
open PySem PySem.Spec L2 FL FT MG
section
variable {X : Cx} {e1 e2 : Expr} {ρ : Ro} {p0 p1 p2 p3 : Pos} {m : Nat} {i : Int}
end
end CM
namespace CM
open PySem PySem.Spec L2 FL FT MG
end CM
namespace FL
open PySem PySem.Spec PyProof.Rows L2
section
variable {X : Cx} {e a b c tg : Expr} {es : List Expr} {ρ : Ro} {d : D} {ds : List D} {pos : Pos} {i j k : Int} {rest A B : List Stmt} {P : Po}
end
def ItrS (lo st : Int) (n : Nat) : It := ⟨fun i _ => i < n, fun i H x H' => H' = H ∧ x = .int (lo + i * st), fun i _ => n ≤ i⟩
theorem turn_rangeS {P : Program} {w : World} {K : PySem.W.Frag} {tg : Expr} (it : Addr) (lo st : Int) (n : Nat) : Turn P w K tg (ItrS lo st n) [it] it (fun i h => IsRangeIter h it (lo + (i : Nat) * st) ((n : Int) - (i : Nat)) st) where
  mem := by simp
  obj := fun i h st b hb => by
    have e : b = it := by simpa using hb
    subst e
    exact ⟨_, st, fun v z => by
      have z' : Data.fields _ = Data.cell v := z
      cases z'⟩
  keep := fun i h h' st k => k it (by simp) _ st
  item := by
    intro X hP hw hK hc i pins s σ H E I hf st' hg
    subst hP hw hK
    obtain ⟨f0, f1, f2, f3, f4, f5⟩ := hf it (by simp)
    have W := Walks.range (prog := X.prog) (w := X.w) (I.ok.hd hc) it lo st n
    refine W.item i s _ _ hg st' fun v h' tk hv st'' kk => ?_
    obtain ⟨t, rfl⟩ := hv
    have I1 : Inv X pins σ H { s with heap := h', toks := tk } := I.turned (fun b o hb e => kk b o (by simpa using hb) e) f0 f1 f3 f4 f5
    exact ⟨_, rfl, go_of (s := { s with heap := h', toks := tk }) (n := "range_iterator") st'' rfl rfl (by decide) ⟨.int (lo + i * st), H, I1, ⟨t, rfl⟩, ⟨rfl, rfl⟩, st'', fun b hb => (hf b hb).1⟩⟩
  done := by
    intro X hP hw hK hc i pins s σ H E I hf st' hg
    subst hP hw hK
    obtain ⟨f0, f1, f2, f3, f4, f5⟩ := hf it (by simp)
    exact wpAny_pyNext_range_end (I.ok.hd hc) st' (by have : n ≤ i := hg; omega) fun h' eb => ⟨rfl, I.turned (t' := s.toks) (fun b o hb e => eb b o hb e) f0 f1 f3 f4 f5⟩
  self := fun _ _ _ _ _ st h => wpAny_pyIter_rangeiter st h
section
variable {X : Cx} {e a b c tg : Expr} {es : List Expr} {ρ : Ro} {d : D} {ds : List D} {pos : Pos} {i j k : Int} {rest A B : List Stmt} {P : Po}
def manyS (lo hi st : Int) : Nat := ((hi - lo + st - 1) / st).toNat
theorem rangeIt3 {pins : List (Addr × Obj)} {σ : L2.St} {H : Hp} {s : Shared} {R : It → Hp → Prop} {E : Value → Shared → Prop} {lo hi st : Int} {t u v : Tok} {tk : Nat} (I : Inv X pins σ H s) (hs0 : 0 < st) (hs1 : st < 1000) (h1 : -(2 ^ 60) ≤ lo) (h2 : lo < 2 ^ 60) (h3 : -(2 ^ 60) ≤ hi) (h4 : hi < 2 ^ 60)
    (q : R (ItrS lo st (manyS lo hi st)) H) : wpAny (model X.prog X.w) X.A (pyIter (.ref s.heap.objs.size)) (PIE X pins σ tg R) E { s with heap := s.heap.push { cls := .type "range", data := .fields #[.int lo t, .int hi u, .int st v] }, toks := tk } := by
  have size : ((manyS lo hi st : Nat) : Int) = Builtin.Range.rangeSize lo hi st := by
    unfold Builtin.Range.rangeSize manyS
    rw [if_pos hs0]
    split
    · have e : hi - lo + st - 1 = (hi - lo - 1) + st * 1 := by omega
      rw [e, Int.add_mul_ediv_left _ _ (by omega)]
      have : 0 ≤ (hi - lo - 1) / st := Int.ediv_nonneg (by omega) (by omega)
      omega
    · have : (hi - lo + st - 1) / st ≤ 0 := by
        have h := Int.ediv_lt_of_lt_mul (a := hi - lo + st - 1) (b := 1) (c := st) hs0 (by omega)
        omega
      omega
  have hb : Builtin.Range.rangeSize lo hi st < 2 ^ 62 ∧ 0 ≤ Builtin.Range.rangeSize lo hi st := by
    unfold Builtin.Range.rangeSize
    rw [if_pos hs0]
    split
    · have h5 : 0 ≤ (hi - lo - 1) / st := Int.ediv_nonneg (by omega) (by omega)
      have h6 : (hi - lo - 1) / st ≤ hi - lo - 1 := Int.ediv_le_self _ (by omega)
      omega
    · omega
  have small : Builtin.Range.small lo hi st = true := by
    unfold Builtin.Range.small
    have c1 : Builtin.Range.rangeFitsLong lo = true := by simp only [Builtin.Range.rangeFitsLong, Bool.and_eq_true, decide_eq_true_eq]; omega
    have c2 : Builtin.Range.rangeFitsLong hi = true := by simp only [Builtin.Range.rangeFitsLong, Bool.and_eq_true, decide_eq_true_eq]; omega
    have c3 : Builtin.Range.rangeFitsLong st = true := by simp only [Builtin.Range.rangeFitsLong, Bool.and_eq_true, decide_eq_true_eq]; omega
    have c4 : Builtin.Range.rangeFitsLong (Builtin.Range.rangeSize lo hi st) = true := by simp only [Builtin.Range.rangeFitsLong, Bool.and_eq_true, decide_eq_true_eq]; omega
    have c5 : Builtin.Range.rangeFitsLong (hi + (st - 1)) = true := by simp only [Builtin.Range.rangeFitsLong, Bool.and_eq_true, decide_eq_true_eq]; omega
    rw [c1, c2, c3, c4, if_pos hs0, c5]
    simp
  refine wpAny_pyIter_range (IsRange.new ..) small ?_
  have I1 : Inv X pins σ H { s with heap := s.heap.push { cls := .type "range", data := .fields #[.int lo t, .int hi u, .int st v] }, toks := tk } := I.kept fun b o e => Heap.get?_push_of_some _ e
  refine ⟨(s.heap.push { cls := .type "range", data := .fields #[.int lo t, .int hi u, .int st v] }).objs.size, [(s.heap.push { cls := .type "range", data := .fields #[.int lo t, .int hi u, .int st v] }).objs.size], _, _, H, rfl,
    I1.kept (t' := tk) fun b o e => Heap.get?_push_of_some _ e, turn_rangeS _ lo st (manyS lo hi st), ?_, fun b hb => ?_, q⟩
  · have e1 : lo + ((0 : Nat) : Int) * st = lo := by simp
    have e2 : ((manyS lo hi st : Nat) : Int) - ((0 : Nat) : Int) = Builtin.Range.rangeSize lo hi st := by omega
    show IsRangeIter _ _ (lo + ((0 : Nat) : Int) * st) (((manyS lo hi st : Nat) : Int) - ((0 : Nat) : Int)) st
    rw [e1, e2]
    exact Heap.get?_push_size _ rfl
  · have e : b = (s.heap.push { cls := .type "range", data := .fields #[.int lo t, .int hi u, .int st v] }).objs.size := by simpa using hb
    subst e
    exact I1.fpOk (Nat.le_refl _) (I1.hok.fresh (Nat.le_refl _))
theorem srcOk_rangeS {K : PySem.W.Frag} {lo st : Int} {n : Nat} {H : Hp} : SrcOk K (ItrS lo st n) H ((List.range n).map fun (t : Nat) => D.int (lo + t * st)) := by
  intro H3 s3
  refine ⟨fun i hi => (by show n ≤ i; simpa using hi), fun i d hd => ?_⟩
  rw [List.getElem?_map] at hd
  by_cases hn : i < n
  · rw [List.getElem?_range hn] at hd
    cases hd
    refine ⟨hn, fun x H4 ⟨e1, e2⟩ => ⟨e1, by rw [e2]; exact .int _⟩⟩
  · rw [List.getElem?_eq_none (by simpa using hn)] at hd
    cases hd
theorem srcS_RS {Ok : Ro → Prop} {H : Hp} {lo st : Int} {n : Nat} : SrcS X Ok (ItrS lo st n) ρ H ((List.range n).map fun (t : Nat) => D.int (lo + t * st)) := by
  intro ρ' H3 σ3 g r3 _
  exact srcOk_rangeS (K := X.K) (H := H3) H3 (Same.refl H3)
theorem three_inv {K : PySem.W.Frag} {H : Hp} {vs : List V} {d d' d'' : D} (h : IsAll K H vs [d, d', d'']) : ∃ v v' v'', vs = [v, v', v''] ∧ Is K H v d ∧ Is K H v' d' ∧ Is K H v'' d'' := by
  cases h with
  | cons h r =>
    obtain ⟨v', v'', rfl, h', h''⟩ := two_inv r
    exact ⟨_, _, _, rfl, h, h', h''⟩
theorem wk_range3 {p : Pos} {st : Int} (hm : X.mg "range" = none) (ha : Ev X a ρ (.int i)) (hb : Ev X b ρ (.int j)) (hc : Ev X c ρ (.int st)) (hs0 : 0 < st) (hs1 : st < 1000) (h0 : -(2 ^ 60) ≤ i) (h0' : i < 2 ^ 60) (h1 : -(2 ^ 60) ≤ j) (h2 : j < 2 ^ 60) (hg : Gl X "range" := by rfl)
    (hs : starEach [a, b, c] X.env = [(false, eval a X.env), (false, eval b X.env), (false, eval c X.env)] := by rfl) (hs2 : starEach [b, c] X.env = [(false, eval b X.env), (false, eval c X.env)] := by rfl) (hs3 : starEach [c] X.env = [(false, eval c X.env)] := by rfl) :
    Wk X (fun _ => True) tg (.Call (.Name "range" p) [a, b, c] [] pos) ρ ((List.range (manyS i j st)).map fun (t : Nat) => D.int (i + t * st)) := by
  intro pins s σ H R I h
  obtain ⟨r, q⟩ := h
  refine Call_ (ld_blt I hg hm boot_range (PyProof.Rows.callWith_type1 (thn (ea_cons ha (ea_cons hb (ea_cons hc ea_nil hs3) (hs2.trans (by rw [hs3]))) (hs.trans (by rw [hs2])) pos pins s σ H _ I ⟨r.e, fun vs H1 s1 h3 => (show ∃ v v' v'', vs = [v, v', v''] ∧ Is X.K H1 v (.int i) ∧ Is X.K H1 v' (.int j) ∧ Is X.K H1 v'' (.int st) ∧ Same H H1 from by
      obtain ⟨v, v', v'', e, k1, k2, k3⟩ := three_inv h3
      exact ⟨v, v', v'', e, k1, k2, k3, s1⟩)⟩) fun us s1 ⟨vs, H1, I1, r1, q1⟩ => ?_) (by rw [hs, hs2]) (by rw [hs2]; rfl)))
  obtain ⟨v, v', v'', rfl, k1, k2, k3, sm⟩ := q1
  cases k1.int_inv
  cases k2.int_inv
  cases k3.int_inv
  cases r1 with
  | cons r0 rr =>
    cases rr with
    | cons r' rr =>
      cases rr with
      | cons r'' rr =>
        cases rr
        obtain ⟨t, rfl⟩ := r0
        obtain ⟨t', rfl⟩ := r'
        obtain ⟨t'', rfl⟩ := r''
        exact call_range_3 (by omega) (rangeIt3 I1 hs0 hs1 h0 h0' h1 h2 (q _ H1 sm srcS_RS)) (.inl (PyProof.noPylong_small (by omega)))
end
end FL
namespace MP
end MP
namespace CM
open PySem PySem.Spec L2 FL FT MP
end CM
namespace CM
open PySem PySem.Spec L2 FL FT MP
end CM
namespace CM
open PySem PySem.Spec L2 FL FT MG
end CM
namespace FQ
open PySem PyProof.Rows
section
variable {M : Model} {A : Around} {E : Value → Shared → Prop} {s : Shared} {κ : SortKind} {kf : Keyed → Int} {S : Keyed → Prop}
end
end FQ
namespace FQ
open PySem PyProof.Rows
section
variable {kf : Keyed → Int} {T O X X1 X2 Y Y1 Y2 : List Keyed}
end
end FQ
namespace FQ
open PySem PyProof.Rows
section
variable {M : Model} {A : Around} {E : Value → Shared → Prop} {s : Shared} {κ : SortKind} {kf : Keyed → Int} {S : Keyed → Prop}
end
end FQ
namespace FQ
open PySem PyProof.Rows
section
variable {kf : Keyed → Int} {T O X Y : List Keyed}
end
section
variable {M : Model} {A : Around} {E : Value → Shared → Prop} {s : Shared} {κ : SortKind} {kf : Keyed → Int} {S : Keyed → Prop}
end
end FQ
namespace FQ
open PySem PyProof.Rows
section
variable {kf : Keyed → Int}
end
end FQ
namespace FQ
open PySem PyProof.Rows
section
variable {M : Model} {A : Around} {E : Value → Shared → Prop} {s : Shared} {κ : SortKind} {kf : Keyed → Int} {S : Keyed → Prop}
end
end FQ
namespace FQ
open PySem PyProof.Rows
section
variable {kf : Keyed → Int} {arr : Array Keyed}
end
section
variable {prog : Program} {w : World} {A : Around} {E : Value → Shared → Prop} {s : Shared} {κ : SortKind} {kf : Keyed → Int} {S : Keyed → Prop}
end
end FQ
namespace FQ
open PySem PyProof.Rows
section
variable {prog : Program} {w : World} {A : Around} {E : Value → Shared → Prop} {s : Shared} {κ : SortKind} {kf : Keyed → Int} {S : Keyed → Prop}
end
section
variable {kf : Keyed → Int}
end
section
variable {prog : Program} {w : World} {A : Around} {E : Value → Shared → Prop} {s : Shared} {κ : SortKind} {kf : Keyed → Int} {S : Keyed → Prop}
end
end FQ
namespace FQ
open PySem PyProof.Rows
section
variable {prog : Program} {w : World} {A : Around} {E : Value → Shared → Prop} {s : Shared} {κ : SortKind} {kf : Keyed → Int} {S : Keyed → Prop}
end
end FQ
namespace FT
open PySem PySem.W PySem.Calls PyProof.Rows
section
variable {prog : Program} {w : World} {A : Around} {E : Value → Shared → Prop} {s : Shared} {vs : List Value} {r : Nat → Int} {κ : SortKind} {n : Nat}
end
end FT
namespace FT
open PySem PySem.W PySem.Spec PySem.Calls PyProof.Rows L2 FL
section
variable {X : Cx} {pins : List (Addr × Obj)} {σ : L2.St} {H : Hp} {s : Shared}
variable {e : Expr} {ρ : Ro} {d : D} {pos p : Pos} {ts : List (List Int)} {k : Nat}
end
end FT
namespace MS
end MS
namespace FL
open PySem PySem.Spec PyProof.Rows L2
section
variable {X : Cx} {e a b c : Expr} {ρ : Ro} {ds : List D} {pos : Pos} {l : Addr}
end
end FL
namespace CM
open PySem PySem.Spec L2 FL FT
end CM
namespace CM
open PySem PySem.Spec L2 FL FT
end CM
namespace CM
open PySem PySem.Spec L2 FL FT
end CM
namespace CM
open PySem PySem.Spec L2 FL FT
end CM
namespace FT
open PySem PySem.W PySem.Spec PySem.Calls PyProof.Rows L2 FL
end FT
namespace CM
open PySem PySem.Spec L2 FL FT MG
end CM
namespace MD
open MG MJ MP
end MD
namespace MD
open MG MJ MP
end MD
namespace MD
open MG MJ MP CM
end MD
namespace MD
open MG MJ MP CM
end MD
namespace FL
open PySem PySem.Spec PyProof.Rows L2
section
variable {X : Cx} {e a b c : Expr} {es : List Expr} {ρ : Ro} {d x f : D} {ds gs : List D} {pos : Pos} {i j : Int} {k k' : Bool}
end
end FL
namespace CM
open PySem PySem.Spec L2 FL FT FU MG MD MP
end CM
namespace L2
open PySem PySem.Spec PyProof.Rows
section
variable {κ : Type} [DecidableEq κ]
end
section
variable {P : Program} {w : World} {H : Hp} {h : Heap} {a : Addr}
end
section
variable {X : Cx} {pins : List (Addr × Obj)} {σ : St} {H : Hp} {s : Shared} {a : Addr} {y v : V} {u r : Value} {o : Option V} {A : Around} {E : Value → Shared → Prop}
end
section
variable {X : Cx} {pins : List (Addr × Obj)} {σ : St} {H : Hp} {s : Shared} {a : Addr} {kvs : List (Key × V)} {k : Key} {u : Value} {A : Around} {E : Value → Shared → Prop}
end
section
variable {X : Cx} {o i e value : Expr} {pos pos' tpos : Pos} {td ty tv : TE}
end
section
variable {X : Cx} {pos : Pos}
end
section
variable {X : Cx} {pins : List (Addr × Obj)} {σ : St} {H : Hp} {s : Shared} {a : Addr} {y d : V} {u r : Value} {o : Option V} {A : Around} {E : Value → Shared → Prop}
end
section
variable {X : Cx} {o e f : Expr} {apos cpos : Pos} {td ty tx : TE}
end
section
variable {X : Cx} {pins : List (Addr × Obj)} {σ : St} {H : Hp} {s : Shared} {a : Addr} {kvs : List (Key × V)} {A : Around} {E : Value → Shared → Prop}
end
section
variable {X : Cx} {pins : List (Addr × Obj)} {σ : St} {H : Hp} {s : Shared} {a : Addr} {y : V} {u : Value} {A : Around} {E : Value → Shared → Prop}
end
end L2
namespace L2
open PySem PySem.Spec PyProof.Rows
section
variable {X : Cx}
end
end L2
namespace L2
open PySem PySem.Spec PyProof.Rows
section
variable {κ : Type} [DecidableEq κ]
end
end L2
namespace FL
open PySem PySem.Spec PyProof.Rows L2
section
variable {X : Cx} {pins : List (Addr × Obj)} {σ : L2.St} {H : Hp} {s : Shared}
end
section
variable {X : Cx} {e a b c : Expr} {es : List Expr} {ρ : Ro} {d : D} {ds : List D} {pos : Pos} {rest : List Stmt} {P : Po}
variable {ks vs : List D} {t : Bool}
end
section
variable {X : Cx} {e a b c : Expr} {es : List Expr} {ρ : Ro} {d f kd : D} {ds ks vs : List D} {t : Bool} {pos : Pos} {rest : List Stmt} {P : Po}
end
section
variable {X : Cx} {e : Expr} {es : List Expr} {ρ : Ro} {ds ks vs : List D} {t : Bool} {pos : Pos}
end
section
variable {P : Program} {w : World} {K : PySem.W.Frag} {mg : Str → Option Value} {base : Heap}
end
end FL
namespace FO
open PySem PySem.Spec PyProof.Rows
set_option maxRecDepth 100000
section
variable {prog : Program} {w : World} {A : Around} {E : Value → Shared → Prop} {s : Shared}
end
end FO
namespace FL
open PySem PySem.Spec PyProof.Rows L2
section
variable {X : Cx} {e a b c tg : Expr} {es : List Expr} {ρ : Ro} {d d' : D} {ds : List D} {pos : Pos} {i j : Int} {rest A B : List Stmt} {P : Po}
end
end FL
namespace FO
open PySem PySem.Spec PyProof.Rows
set_option maxRecDepth 100000
section
variable {prog : Program} {w : World} {A : Around} {E : Value → Shared → Prop} {s : Shared} {d : Addr} {es : Array DictEntry} {ep : Nat}
end
end FO
namespace FL
open PySem PySem.Spec PyProof.Rows L2
section
variable {X : Cx} {e a b c tg : Expr} {es : List Expr} {ρ : Ro} {d d' : D} {ds ks vs : List D} {t : Bool} {pos : Pos} {rest A B : List Stmt} {P : Po}
end
end FL
namespace FO
open PySem PySem.Spec PyProof.Rows
set_option maxRecDepth 100000
section
variable {prog : Program} {w : World} {A : Around} {E : Value → Shared → Prop} {s : Shared} {d : Addr} {es : Array DictEntry} {ep : Nat}
end
end FO
namespace FL
open PySem PySem.Spec PyProof.Rows L2
section
variable {X : Cx} {e : Expr} {ρ : Ro} {ks vs : List D} {t : Bool} {pos : Pos} {x : Str} {px : Pos}
end
end FL
namespace FT
open PySem PySem.W PySem.Spec PySem.Calls PyProof.Rows L2 FL
section
variable {X : Cx} {pins : List (Addr × Obj)} {σ : L2.St} {H : Hp} {s : Shared}
variable {e : Expr} {ρ : Ro} {d : D} {pos p : Pos} {ns : List Int}
end
end FT
namespace FL
open PySem PySem.W PySem.Spec PySem.Calls PyProof.Rows L2 FT
section
variable {X : Cx}
variable {a b : Expr} {ρ : Ro} {f : D} {ns : List Int} {k : Int}
end
section
variable {X : Cx} {a : Expr} {ρ : Ro} {t k : Bool} {ks vs ds : List D} {pos : Pos}
end
section
variable {X : Cx} {e tg : Expr} {ρ : Ro} {ds : List D}
end
end FL
namespace CM
open PySem MG
end CM
namespace MG
section
variable {G : Type} [AbG G]
open AbG
class FinG (G : Type) [AbG G] where
  all : List G
  mem : ∀ x : G, x ∈ all
variable [FinG G]
end
end MG
namespace CM
open PySem PySem.Spec L2 FL FT MG
section
end
section
end
section
end
section
end
section
end
section
end
end CM
namespace FO
open PySem PySem.Spec PyProof.Rows
section
variable {prog : Program} {w : World} {A : Around} {E : Value → Shared → Prop} {s : Shared} {d : Addr} {es : Array DictEntry} {ep : Nat}
end
end FO
namespace FL
open PySem PySem.Spec PyProof.Rows L2
section
variable {X : Cx} {a b : Expr} {ρ : Ro} {t : Bool} {ks vs ds : List D} {d kd : D} {pos : Pos}
end
end FL
namespace MG
section
variable {G : Type} [AbG G]
open AbG
variable [FinG G]
end
end MG
namespace FL
open PySem PySem.Spec PyProof.Rows L2
end FL
namespace CM
open PySem PySem.Spec L2 FL FT MG
section
end
section
end
end CM
namespace FK
open PySem
end FK
namespace FK
open PySem
end FK
namespace FK
open PySem PySem.Spec PyProof.Rows
section
variable {prog : Program} {w : World} {A : Around} {E : Value → Shared → Prop} {s : Shared} {a : Addr} {S : Int → Prop} {n : Nat}
end
end FK
namespace FK
open PySem PySem.Spec PyProof.Rows
section
variable {prog : Program} {w : World} {A : Around} {R : Result → Shared → Prop} {I : Addr} {fp wr : List Addr} {G : Array GenState → Array GenState → Prop} {n : Nat} {P : Nat → Value → Prop} {St : Nat → Shared → Prop}
end
section
variable {prog : Program} {w : World} {A : Around} {E : Value → Shared → Prop} {s : Shared}
end
end FK
namespace FK
open PySem PySem.Spec PyProof.Rows
set_option maxRecDepth 100000
section
variable {prog : Program} {w : World} {A : Around} {E : Value → Shared → Prop} {s : Shared}
end
end FK
namespace FK
open PySem PySem.Spec PyProof.Rows
section
variable {prog : Program} {w : World} {A : Around} {E : Value → Shared → Prop} {s : Shared}
end
end FK
namespace FK
open PySem PySem.Spec PyProof.Rows
set_option maxRecDepth 100000
end FK
namespace FK
open PySem PySem.Spec PyProof.Rows
set_option maxRecDepth 100000
section
variable {prog : Program} {w : World} {A : Around} {E : Value → Shared → Prop} {s : Shared} {a : Addr} {o : Obj} {es : Array (Int × Value)} {ep : Nat} {t : SetTable}
end
end FK
namespace FK
open PySem PySem.Spec PyProof.Rows
set_option maxRecDepth 100000
section
variable {prog : Program} {w : World} {A : Around} {E : Value → Shared → Prop} {s : Shared} {a it : Addr} {o : Obj} {es : Array (Int × Value)} {ep i slot : Nat} {t : SetTable}
end
end FK
namespace FK
open PySem PySem.Spec PyProof.Rows
set_option maxRecDepth 100000
section
variable {prog : Program} {w : World} {A : Around} {E : Value → Shared → Prop} {s : Shared} {a : Addr} {o : Obj} {es : Array (Int × Value)} {ep : Nat} {t : SetTable}
end
end FK
namespace FK
open PySem PySem.Spec PyProof.Rows
set_option maxRecDepth 100000
section
variable {prog : Program} {w : World} {A : Around} {a it : Addr} {o : Obj} {es : Array (Int × Value)} {ep : Nat} {t : SetTable}
end
end FK
namespace FK
open PySem PySem.Spec PyProof.Rows
set_option maxRecDepth 100000
section
variable {prog : Program} {w : World} {A : Around} {E : Value → Shared → Prop} {s : Shared} {a : Addr} {o : Obj} {es : Array (Int × Value)} {ep : Nat} {t : SetTable}
end
end FK
namespace FK
open PySem PySem.Spec PyProof.Rows
set_option maxRecDepth 100000
section
variable {prog : Program} {w : World} {A : Around} {E : Value → Shared → Prop} {s : Shared} {a it T : Addr} {o : Obj} {es : Array (Int × Value)} {ep i : Nat} {t : SetTable} {ps : List Nat}
end
end FK
namespace FK
open PySem PySem.Spec PyProof.Rows
set_option maxRecDepth 100000
section
variable {prog : Program} {w : World} {A : Around} {E : Value → Shared → Prop} {s : Shared} {a : Addr} {o : Obj} {es : Array (Int × Value)} {ep : Nat} {t : SetTable}
end
section
variable {prog : Program} {w : World} {A : Around} {a it T : Addr} {o : Obj} {es : Array (Int × Value)} {ep : Nat} {t : SetTable} {ps : List Nat}
end
end FK
namespace FK
open PySem PySem.Spec PyProof.Rows
set_option maxRecDepth 100000
section
variable {prog : Program} {w : World} {A : Around} {E : Value → Shared → Prop} {s : Shared} {a : Addr} {o : Obj} {es : Array (Int × Value)} {ep : Nat} {t : SetTable}
end
end FK
namespace FK
open PySem PySem.W PySem.Spec PySem.Calls PyProof.Rows L2 FT
set_option maxRecDepth 100000
section
variable {prog : Program} {w : World} {A : Around} {E : Value → Shared → Prop} {s : Shared} {a : Addr} {S : Int → Prop} {n : Nat}
end
end FK
namespace FK
open PySem PySem.W PySem.Spec PySem.Calls PyProof.Rows L2 FT
set_option maxRecDepth 100000
section
variable {prog : Program} {w : World} {A : Around} {E : Value → Shared → Prop} {s : Shared} {a : Addr} {S : Int → Prop} {n : Nat}
end
end FK
namespace FK
open PySem PySem.W PySem.Spec PySem.Calls PyProof.Rows L2 FL FT
set_option maxRecDepth 100000
section
variable {X : Cx}
end
end FK
namespace FK
open PySem PySem.W PySem.Spec PySem.Calls PyProof.Rows L2 FL FT
set_option maxRecDepth 100000
section
variable {X : Cx} {e : Expr} {ρ : FL.Ro} {d : D} {ns ms : List Int} {pos pos2 p p2 : Pos}
end
end FK
namespace CM
open PySem PySem.Spec L2 FL FT MG
end CM
namespace FL
open PySem PySem.Spec PyProof.Rows L2
section
variable {X : Cx} {a tg : Expr} {ρ : Ro} {ds : List D} {pos p : Pos}
end
end FL
namespace FM
open PySem PySem.Spec PyProof.Rows L2 FL
section
variable {M : Model} {A : Around} {E : Value → Shared → Prop} {s : Shared} {name qualname : Str} {params : Arguments} {body : List Stmt} {sc : Scope} {env : Env} {mg : Str → Option Value} {c Pl : Addr} {ps : Array Value} {pos : Pos} {firstLine : Nat} {cl : List (Str × Addr)} {Q : Value → Shared → Prop}
end
section
variable {X : Cx} {pins : List (Addr × Obj)} {σ : L2.St} {H : Hp} {s : Shared} {E : Value → Shared → Prop} {M : Model} {A : Around}
end
end FM
namespace FM
open PySem PySem.Spec PyProof.Rows L2 FL
section
variable {P : Program} {w : World} {K : PySem.W.Frag} {mg : Str → Option Value} {base : Heap}
end
section
variable {P : Program} {w : World} {K : PySem.W.Frag} {mg : Str → Option Value} {base : Heap}
end
end FM
namespace FM
open PySem PySem.Spec PyProof.Rows L2 FL
section
variable {X : Cx} {Pl : Addr} {dp : Pos} {qn : Str} {e a b : Expr} {ρ : Ro} {d : D} {pos : Pos}
end
section
variable {P : Program} {w : World} {K : PySem.W.Frag} {mg : Str → Option Value} {base : Heap}
end
end FM
namespace MZ
open MP MJ MG
end MZ
namespace MY
open MP MJ MG MZ
end MY
namespace CM
open PySem PySem.Spec L2 FL FT FU MG MP MZ MY
end CM
namespace MG
section
variable {G : Type} [AbG G]
open AbG
end
end MG
namespace MZ
open MP MJ MG
end MZ
namespace MZ
open MP MJ MG
end MZ
namespace MZ
end MZ
namespace MZ
open MP MJ MG
end MZ
namespace CM
open PySem PySem.Spec L2 FL FT FU MG MP MZ MY
end CM
namespace FL
open PySem PySem.Spec PyProof.Rows L2
abbrev sI (i : Int) : Str := Str.ofString (toString i)
section
variable {X : Cx} {a b : Expr} {ρ : Ro} {pos p1 p2 : Pos} {i : Int} {x y : Str} {d1 d2 d : D}
theorem ev_strI {p : Pos} (hm : X.mg "str" = none) (ha : Ev X a ρ (.int i)) (hz : i.natAbs.log2 < 1920) (hg : Gl X "str" := by rfl) (he : starEach [a] X.env = [(false, eval a X.env)] := by rfl) : Ev X (.Call (.Name "str" p) [a] [] pos) ρ (.str (sI i)) :=
  PE.imp (pe_callTy call_str_int hg hm bo_str (ea_cons ha ea_nil he) (by decide) (by decide) he rfl) fun σ H Q ⟨r, q⟩ => ⟨r, fun vs H1 s1 h1 => by
    obtain ⟨v, rfl, hv⟩ := one_inv h1
    exact ⟨i, by rw [hv.int_inv], hz, q _ H1 s1 (.str _)⟩⟩
theorem ev_catS (ha : Ev X a ρ (.str x)) (hb : Ev X b ρ (.str y)) (hz : x.length + y.length ≤ sizeLine) : Ev X (.BinOp a .Add b pos) ρ (.str (x ++ y)) :=
  ev_op op_add_str ha hb fun _ _ H _ h1 h2 q => ⟨x, y, h1.str_inv, h2.str_inv, hz, q _ H (Same.refl H) (.str _)⟩
theorem dec_S {x y : Str} : decide (V.str x = V.str y) = decide (x = y) := by
  by_cases h : x = y
  · subst h; simp
  · rw [decide_eq_false h, decide_eq_false (fun z => h (V.str.inj z))]
theorem rNeS_of : ∀ v1 v2 H Q, Is X.K H v1 (.str x) → Is X.K H v2 (.str y) → (∀ v H', Same H H' → Is X.K H' v (.bl (!decide (x = y))) → Q v H') → rNe v1 v2 H Q := fun v1 v2 H Q h1 h2 q => by
  cases h1.str_inv; cases h2.str_inv
  exact ⟨rfl, by rw [dec_S]; exact q _ H (Same.refl H) (.bl _)⟩
theorem rEqS_of : ∀ v1 v2 H Q, Is X.K H v1 (.str x) → Is X.K H v2 (.str y) → (∀ v H', Same H H' → Is X.K H' v (.bl (decide (x = y))) → Q v H') → rEq v1 v2 H Q := fun v1 v2 H Q h1 h2 q => by
  cases h1.str_inv; cases h2.str_inv
  exact ⟨rfl, by rw [dec_S]; exact q _ H (Same.refl H) (.bl _)⟩
theorem et_neS (ha : Ev X a ρ (.str x)) (hb : Ev X b ρ (.str y)) : Et X (.Compare a [.NotEq] [b] pos) ρ (!decide (x = y)) := et_cmp op_ne ha hb (nomark _) rNeS_of
theorem et_eqS (ha : Ev X a ρ (.str x)) (hb : Ev X b ρ (.str y)) : Et X (.Compare a [.Eq] [b] pos) ρ (decide (x = y)) := et_cmp op_eq ha hb (nomark _) rEqS_of
theorem ev_zfill (ha : Ev X a ρ (.str x)) (hb : Ev X b ρ (.int i)) (hp : PadOk i = true) (hbase : attributeBase a "zfill" X.env (eval a X.env) = eval a X.env := by rfl) (hs : starEach [b] X.env = [(false, eval b X.env)] := by rfl) (hline : (p1.endLine == p2.line) = true := by rfl) :
    Ev X (.Call (.Attribute a "zfill" p1) [b] [] p2) ρ (.str (Txt.zfill x i)) := by
  intro pins s σ H Q I ⟨r, q⟩
  refine Call_method1 hbase hs hline (thn (ha pins s σ H (fun v H1 => v = V.str x ∧ Same H H1) I ⟨r, fun v H1 s1 h1 => ⟨h1.str_inv, s1⟩⟩) fun u s1 hu => ?_)
  obtain ⟨v, H1, I1, rv, rfl, sm⟩ := hu
  obtain ⟨t, rfl⟩ := rv
  refine SB.zfill (thn (hb pins s1 σ H1 (fun v H2 => v = V.int i ∧ Same H1 H2) I1 ⟨r.mono sm, fun v H2 s2 h2 => ⟨h2.int_inv, s2⟩⟩) fun u2 s2 hu => ?_)
  obtain ⟨v2, H2, I2, rv2, rfl, sm2⟩ := hu
  obtain ⟨t2, rfl⟩ := rv2
  exact ⟨i, t2, rfl, hp, fun t' k => ⟨.str _, H2, I2.tok _, ⟨_, rfl⟩, q _ H2 (sm.trans sm2) (.str _)⟩⟩
theorem vals_strs {K : PySem.W.Frag} {H : Hp} : ∀ {xs : List Str} {vs : List V} {us : List Value}, IsAll K H vs (xs.map D.str) → Vals vs us → ∃ l : List (Str × Tok), us = strValues l ∧ l.map (·.1) = xs
  | [], _, _, h, r => by
    cases h
    cases r
    exact ⟨[], rfl, rfl⟩
  | x :: xs, _, _, h, r => by
    cases h with
    | cons h1 h2 =>
      cases r with
      | cons r1 r2 =>
        obtain ⟨l, e1, e2⟩ := vals_strs h2 r2
        cases h1.str_inv
        obtain ⟨t, rfl⟩ := r1
        exact ⟨(x, t) :: l, by rw [e1]; rfl, by rw [List.map_cons, e2]⟩
theorem ev_join {xs : List Str} (ha : Ev X a ρ (.str x)) (hb : EvN X b ρ (xs.map D.str)) (hp : JoinOk x xs = true) (hbase : attributeBase a "join" X.env (eval a X.env) = eval a X.env := by rfl) (hs : starEach [b] X.env = [(false, eval b X.env)] := by rfl) (hline : (p1.endLine == p2.line) = true := by rfl) :
    Ev X (.Call (.Attribute a "join" p1) [b] [] p2) ρ (.str (Txt.join x xs)) := by
  intro pins s σ H Q I ⟨r, q⟩
  refine Call_method1 hbase hs hline (thn (ha pins s σ H (fun v H1 => v = V.str x ∧ Same H H1) I ⟨r, fun v H1 s1 h1 => ⟨h1.str_inv, s1⟩⟩) fun u s1 hu => ?_)
  obtain ⟨v, H1, I1, rv, rfl, sm⟩ := hu
  obtain ⟨t, rfl⟩ := rv
  refine SB.join (thn (hb pins s1 σ H1 (fun v H2 => ∃ l vs, v = V.ref l ∧ Same H1 H2 ∧ H2 l = some (.lst vs) ∧ IsAll X.K H2 vs (xs.map D.str)) I1 ⟨r.mono sm, fun l vs H2 _ s2 h2 h3 => ⟨l, vs, rfl, s2, h2, h3⟩⟩) fun u2 s2 hu => ?_)
  obtain ⟨v2, H2, I2, rv2, l, vs, rfl, sm2, hl, hA⟩ := hu
  obtain rfl : u2 = Value.ref l := rv2
  obtain ⟨its, rvs, pl, hz⟩ := I2.list (.of hl : SqL X.K H2 l vs)
  obtain ⟨ts, rfl, e2⟩ := vals_strs hA rvs
  exact ⟨l, ts, rfl, pl.isList, xs, e2, hp, fun t' k => ⟨.str _, H2, I2.tok _, ⟨_, rfl⟩, q _ H2 (sm.trans sm2) (.str _)⟩⟩
end
def pad (c j : Nat) (x : Str) : Str := ⟨(List.replicate j c ++ x.cps.toList).toArray⟩
theorem pad_zero (c : Nat) (x : Str) : pad c 0 x = x := by unfold pad; simp
theorem pad_len (c j : Nat) (x : Str) : (pad c j x).length = j + x.length := by
  unfold pad
  simp [Str.length]
theorem str_ext {x y : Str} (h : x.cps.toList = y.cps.toList) : x = y := by
  obtain ⟨⟨a⟩⟩ := x
  obtain ⟨⟨b⟩⟩ := y
  simp at h
  subst h
  rfl
end FL
namespace FL
open PySem PySem.Spec PyProof.Rows L2
section
variable {P : Program} {w : World} {K : PySem.W.Frag} {mg : Str → Option Value} {base : Heap}
end
section
variable {X : Cx} {e : Expr} {es : List Expr} {ρ : Ro} {ds fs : List D} {pos p : Pos}
end
end FL
namespace CM
open PySem PySem.Spec L2 FL FT FU MG MP MZ MY
end CM
namespace FL
open PySem PySem.Spec PyProof.Rows L2
set_option maxRecDepth 100000
theorem nolen_lri : typeLookup (.type "list_reverseiterator") "__len__" = pure none := by rw [typeLookup_type, builtinLookup_eq_fast]; kernel_rfl
theorem hint_lri : typeLookup (.type "list_reverseiterator") "__length_hint__" = pure (some (.builtin "list_reverseiterator.__length_hint__")) := by rw [typeLookup_type, builtinLookup_eq_fast]; kernel_rfl
section
variable {prog : Program} {w : World} {A : Around} {E : Value → Shared → Prop} {s : Shared} {I l : Addr} {items : Array Value}
theorem collect_rev {Q : List Value → Shared → Prop} (hh : A.handled = none) (hne : l ≠ I) (hit : s.heap.IsRevIter I l ((items.size : Int) - 1)) (hl : s.heap.IsList l items) (hsz : items.size ≤ sizeLine)
    (hQ : ∀ s', (∀ b o, b ≠ I → s.heap.get? b = some o → s'.heap.get? b = some o) → s'.gens = s.gens → s'.drawn = s.drawn → s'.os = s.os → Q items.toList.reverse s') : wpAny (model prog w) A (collect (.ref I)) Q E s := by
  have W := (Walks.listRev (prog := prog) (w := w) (A := A.in1) (by simp [hh]) I l hne items).toS
  have hIl : I < s.heap.objs.size := by obtain ⟨_, e, _⟩ := hit; exact Heap.lt_size e
  have hll : l < s.heap.objs.size := by obtain ⟨_, e, _⟩ := hl; exact Heap.lt_size e
  have hSf : s.heap.objs.size ∉ [I, l] := fun z => by
    rcases List.mem_cons.mp z with z | z
    · exact absurd z (Nat.ne_of_gt hIl)
    · exact absurd (List.mem_singleton.mp z) (Nat.ne_of_gt hll)
  have hSI : s.heap.objs.size ≠ I := Nat.ne_of_gt hIl
  have hst : (0 : Nat) ≤ items.size ∧ s.heap.IsRevIter I l ((items.size : Int) - 1 - ((0 : Nat) : Int)) ∧ s.heap.IsList l items := ⟨Nat.zero_le _, by simpa using hit, hl⟩
  unfold collect
  refine wpAny_bind (wpAny_runValue (codeAny_builtin PySem.F.entry_proto_collect ?_))
  rw [Around.under_plainId PySem.F.plain_proto_collect _]
  show wpAny _ A.in1 (newList [] >>= fun l => again (.builtin "list.__iadd__" ⟨[l, .ref I], []⟩)) _ _ s
  refine wpAny_bind (wpAny_newObj_type ?_)
  refine wpAny_pure ⟨plainId_quiet PySem.F.plain_list_iadd _, codeAny_builtin PySem.F.entry_list_iadd ?_⟩
  rw [Around.under_plainId PySem.F.plain_list_iadd _]
  have hst₁ := W.frame 0 s (s.heap.push { cls := .type "list", data := .seq ([] : List Value).toArray }) s.toks hst (Nat.le_refl _) fun b _ o e => Heap.get?_push_of_some _ e
  have hT₁ : Shared.TypeIs { s with heap := s.heap.push { cls := .type "list", data := .seq ([] : List Value).toArray }, toks := s.toks } (.ref I) "list_reverseiterator" := Heap.IsRevIter.typeIs hst₁.2.1
  have hS₁ : (s.heap.push { cls := .type "list", data := .seq ([] : List Value).toArray }).get? s.heap.objs.size = some { cls := .type "list", data := .seq ([] : List Value).toArray } := Heap.get?_push_size _ rfl
  have h1 : Builtin.List.listSameRef (.ref s.heap.objs.size) (.ref I) = false := by simp [Builtin.List.listSameRef, hSI]
  show wpAny _ A.in1 (Builtin.List.listExtendWith (.ref s.heap.objs.size) (.ref I) (.ref s.heap.objs.size)) _ _ _
  unfold Builtin.List.listExtendWith
  refine wpAny_bind (wpAny_typeOf hT₁ ?_)
  rw [if_neg (by rw [h1]; decide)]
  refine wpAny_bind (W.self 0 _ _ _ hst₁ ?_)
  refine wpAny_bind (wpAny_holding ?_)
  unfold Builtin.List.listLengthHint
  refine wpAny_bind (wpAny_specialOf hT₁ nolen_lri ?_)
  show wpAny _ A.in1 (specialOf (Value.ref I) (Str.ofString "__length_hint__") >>= _) _ _ _
  refine wpAny_bind (wpAny_specialOf hT₁ hint_lri ?_)
  generalize hid : ("list_reverseiterator.__length_hint__" : String) = id0; (fail_if_success (clear hid id0)); wp_delta; rw [show splitId id0 = some ("list_reverseiterator", "__length_hint__") from by subst hid; decide +kernel]; subst hid
  refine wpAny_bind (wpAny_isInstance (b := true) hT₁ (by rw [isSubtype_type]; kernel_rfl) ?_)
  refine wpAny_pure ?_
  rw [if_neg (by decide)]
  refine wpAny_pure ⟨plainId_quiet PySem.F.plain_extend_loop _, codeAny_extend_loopS W hsz _ hSf _ items.size 0 _ _ _ rfl (Nat.zero_le _) hst₁ hS₁ (ItemsOf.nil _) fun s' acc' c' hm hS' hacc => ?_⟩
  show wpAny _ A (load s.heap.objs.size >>= _) _ _ s'
  refine wpAny_bind (wpAny_load hS' ?_)
  have mv := Moved.drop_new (o := { cls := .type "list", data := .seq ([] : List Value).toArray }) (tk := s.toks) hm (Nat.le_refl _)
  have el : acc'.toList = items.toList.reverse := by
    refine List.ext_getElem (by simp [hacc.1]) fun j p q => ?_
    have hj : j < acc'.size := by simpa using p
    have hj2 : j < items.size := by simpa using q
    have h := hacc.2 j acc'[j] (Array.getElem?_eq_getElem hj)
    have h3 : items[items.size - 1 - j]? = some acc'[j] := h
    rw [Array.getElem?_eq_getElem (by omega)] at h3
    rw [List.getElem_reverse]
    simp only [Array.getElem_toList, Array.length_toList]
    exact (Option.some.inj h3).symm
  have fin := hQ s' (fun b o hb e => mv.heap b o (by simpa using hb) e) mv.gens mv.drawn mv.os
  rw [← el] at fin
  exact wpAny_pure fin
theorem join_rev {x : Str} {t : Tok} {ts : List (Str × Tok)} : MeetsIn prog w (Builtin.«str.join» ⟨[.str x t, .ref I], []⟩) (fun A R s => A.handled = none ∧ l ≠ I ∧ s.heap.IsRevIter I l (((strValues ts).toArray.size : Int) - 1) ∧ s.heap.IsList l (strValues ts).toArray ∧ ts.length ≤ sizeLine ∧ JoinOk x ((ts.map (·.1)).reverse) = true ∧
    ∀ (s' : Shared) (t' : Tok) (k : Nat), (∀ b o, b ≠ I → s.heap.get? b = some o → s'.heap.get? b = some o) → s'.gens = s.gens → s'.drawn = s.drawn → s'.os = s.os → R (.ok (.ret (.str (Txt.join x ((ts.map (·.1)).reverse)) t'))) { s' with toks := k }) := by
  intro A R s ⟨hh, hne, hit, hl, hsz, ok, hQ⟩
  rw [join_tree_other]
  refine wpAny_bind (wpAny_typeOf hit.typeIs ?_)
  show wpAny _ A.in1 ((pyIter (.ref I)).tryCatch _ >>= fun it => collect it >>= fun items => joinTail x items) _ _ s
  refine wpAny_bind (wpAny_tryCatch (wpAny_pyIter_revIter hit ?_))
  refine wpAny_bind (collect_rev (by simp [hh]) hne hit hl (by simpa [strValues] using hsz) fun s' hk hg hd ho => ?_)
  have er : (strValues ts).toArray.toList.reverse = strValues ts.reverse := by simp [strValues]
  rw [er]
  have em : (ts.map (·.1)).reverse = ts.reverse.map (·.1) := by rw [List.map_reverse]
  rw [em] at ok hQ
  unfold JoinOk at ok
  rw [Bool.not_eq_true'] at ok
  have gj : ∀ l : List (Str × Tok), Builtin.Str.tooLong ((l.map (·.1)).toArray.foldl (· + ·.length + x.length) 0) = false → Gives (joinTail x (strValues l)) (joinMade x l) := fun l h => by
    have g0 := gives_joinTail x l h
    cases l with
    | nil => exact g0
    | cons p r => cases r with
      | nil => exact g0
      | cons q r' => exact g0
  have g := gj _ ok
  exact g prog w A R s' (post_join (Q := fun v s => R (.ok (.ret v)) s) ts.reverse ⟨joinFit_length ok, fun t' k => hQ s' t' k hk hg hd ho⟩)
end
section
variable {X : Cx} {a b : Expr} {ρ : Ro} {p1 p2 p3 p4 : Pos} {x : Str} {xs : List Str} {d : D}
theorem ev_joinRev (hc : X.calm = true) (hm : X.mg "reversed" = none) (ha : Ev X a ρ (.str x)) (hb : Ev X b ρ d) (hd : lsD d = some (xs.map D.str)) (hsz : xs.length ≤ 1000) (ok : JoinOk x xs.reverse = true) (hg : Gl X "reversed" := by rfl)
    (hbase : attributeBase a "join" X.env (eval a X.env) = eval a X.env := by rfl) (hs : starEach [Expr.Call (.Name "reversed" p3) [b] [] p4] X.env = [(false, eval (Expr.Call (.Name "reversed" p3) [b] [] p4) X.env)] := by rfl) (hs2 : starEach [b] X.env = [(false, eval b X.env)] := by rfl) (hline : (p1.endLine == p2.line) = true := by rfl) :
    Ev X (.Call (.Attribute a "join" p1) [.Call (.Name "reversed" p3) [b] [] p4] [] p2) ρ (.str (Txt.join x xs.reverse)) := by
  intro pins s σ H Q I ⟨r, q⟩
  refine Call_method1 hbase hs hline (thn (ha pins s σ H (fun v H1 => v = V.str x ∧ Same H H1) I ⟨r, fun v H1 s1 h1 => ⟨h1.str_inv, s1⟩⟩) fun u s1 hu => ?_)
  obtain ⟨v, H1, I1, rv, rfl, sm⟩ := hu
  obtain ⟨t, rfl⟩ := rv
  refine ⟨"str", _, PySem.F.plainAttrs_str, PySem.F.slot_str_join, PySem.F.type_str_join, typeIs_str _ _ _, (fun _ e => nomatch e), method1_meetsIn PySem.F.slot_str_join PySem.F.entry_str_join ?_⟩
  refine Call_ (ld_blt (u := .type "reversed") I1 hg hm (by decide +kernel) (PyProof.Rows.callWith_type1 (thn ((ea_cons hb ea_nil hs2) p4 pins s1 σ H1 (fun vs H2 => ∃ v, vs = [v] ∧ Same H1 H2 ∧ Is X.K H2 v d) I1 ⟨r.mono sm, fun vs H2 s2 h2 => by obtain ⟨v, rfl, hv⟩ := one_inv h2; exact ⟨v, rfl, s2, hv⟩⟩) fun us s2 hu => ?_) hs2 rfl))
  obtain ⟨vs, H2, I2, rvs, v, rfl, sm2, hv⟩ := hu
  obtain ⟨l, vs, rfl, hl, hA⟩ := hv.lsD_inv hd
  obtain ⟨u2, rfl, ru2⟩ := vals1 rvs
  obtain rfl : u2 = Value.ref l := ru2
  obtain ⟨its, rv2, pl, hz⟩ := I2.list hl
  obtain ⟨ts, rfl, e2⟩ := vals_strs hA rv2
  refine call_reversed_list pl.isList ?_
  have hll : l < s2.heap.objs.size := by obtain ⟨_, e, _⟩ := pl.isList; exact Heap.lt_size e
  have fp := I2.fpOk (H' := H2) (Nat.le_refl _) (I2.hok.fresh (Nat.le_refl _))
  obtain ⟨f0, f1, f2, f3, f4, f5⟩ := fp
  have I3 : L2.Inv X pins σ H2 { s2 with heap := s2.heap.push (revObj l (((strValues ts).toArray.size : Int) - 1)) } := I2.kept (t' := s2.toks) fun b o z => Heap.get?_push_of_some _ z
  have lt : ts.length = xs.length := by rw [← e2, List.length_map]
  refine ⟨typeIs_str _ _ _, PySem.F.args_str_join_2 _ _, _, join_rev (I := s2.heap.objs.size) (l := l) (ts := ts), I.ok.hd hc, Nat.ne_of_lt hll, ⟨_, Heap.get?_push_size _ rfl, rfl, rfl⟩, (let ⟨o, ho, rr⟩ := pl.isList; ⟨o, Heap.get?_push_of_some _ ho, rr⟩), (by rw [lt, sizeLine_eq]; omega), (by rw [e2]; exact ok), fun s' t' k hk hg' hd' ho' => ?_⟩
  rw [e2]
  obtain ⟨h', g', d', tk', o'⟩ := s'
  simp only at hk hg' hd' ho'
  subst hg' hd' ho'
  have I4 := I3.turned (h' := h') (t' := k) (it := s2.heap.objs.size) (fun b o hb e => hk b o hb e) f0 f1 f3 f4 f5
  exact ⟨.str _, H2, I4, ⟨_, rfl⟩, q _ H2 (sm.trans sm2) (.str _)⟩
def Pt (X : Cx) (e : Expr) (ρ : Ro) (x : Str) : Prop := ∀ (pins : List (Addr × Obj)) (s : Shared) (σ : L2.St) (H : Hp) (Q : VK), L2.Inv X pins σ H s → RelE X H σ ρ → (∀ H', Same H H' → Q (.str x) H') → wpAny (model X.prog X.w) X.A (eval e X.env) (EP X pins σ Q) X.xe s
theorem pt_of (h : Ev X a ρ (.str x)) : Pt X a ρ x := fun pins s σ H Q I r q => h pins s σ H Q I ⟨r, fun v H' sm hv => by rw [hv.str_inv]; exact q H' sm⟩
theorem pt_str (h : Ev X a ρ (.str x)) (hz : x.length ≤ 100000) : Pt X (.FormattedValue a (-1) none p1) ρ x := fun pins s σ H Q I r q => by
  refine FormattedValue_plain (thn (h pins s σ H (fun v H' => v = V.str x ∧ Same H H') I ⟨r, fun v H' sm hv => ⟨hv.str_inv, sm⟩⟩) fun u s1 hu => ?_)
  obtain ⟨v, H1, I1, rv, rfl, sm⟩ := hu
  obtain ⟨t, rfl⟩ := rv
  exact formatField_str (fun t' tk => ⟨.str x, H1, I1.tok _, ⟨_, rfl⟩, q H1 sm⟩) (by rw [sizeLine_eq]; omega)
end
end FL
namespace FL
open PySem PySem.Spec PyProof.Rows L2
section
variable {X : Cx} {a : Expr} {ρ : Ro} {p1 pos : Pos} {x : Str} {i : Int}
inductive Pts (X : Cx) (ρ : Ro) : List Expr → List Str → Prop
  | nil : Pts X ρ [] []
  | cons {e : Expr} {es : List Expr} {x : Str} {xs : List Str} (h : Pt X e ρ x) (r : Pts X ρ es xs) : Pts X ρ (e :: es) (x :: xs)
def catL (out : Str) (xs : List Str) : Str := xs.foldl (· ++ ·) out
theorem parts_ok {es : List Expr} {xs : List Str} (h : Pts X ρ es xs) : ∀ (out : Str) (pins : List (Addr × Obj)) (s : Shared) (σ : L2.St) (H : Hp) (Q : VK), L2.Inv X pins σ H s → RelE X H σ ρ → out.length + (xs.map (·.length)).sum ≤ 100000 → (∀ H', Same H H' → Q (.str (catL out xs)) H') →
    wpAny (model X.prog X.w) X.A (joinParts out (evalEach es X.env)) (EP X pins σ Q) X.xe s := by
  induction h with
  | nil =>
    intro out pins s σ H Q I r hz q
    simp only [List.map_nil, List.sum_nil] at hz
    exact joinParts_nil ⟨.str out, H, I.tok _, ⟨_, rfl⟩, q H (Same.refl H)⟩ (by rw [sizeLine_eq]; omega)
  | cons h hr ih =>
    rename_i e es x xs
    intro out pins s σ H Q I r hz q
    simp only [List.map_cons, List.sum_cons] at hz
    refine joinParts_cons (thn (h pins s σ H (fun v H' => v = V.str x ∧ Same H H') I r fun H' sm => ⟨rfl, sm⟩) fun u s1 hu => ?_)
    obtain ⟨v, H1, I1, rv, rfl, sm⟩ := hu
    obtain ⟨t, rfl⟩ := rv
    have la : (out ++ x).length = out.length + x.length := Str.length_append out x
    refine ⟨by rw [la, sizeLine_eq]; omega, ih (out ++ x) pins s1 σ H1 Q I1 (r.mono sm) (by rw [la]; omega) fun H' sm' => q H' (sm.trans sm')⟩
theorem ev_fstr {e1 e2 : Expr} {es : List Expr} {xs : List Str} (h : Pts X ρ (e1 :: e2 :: es) xs) (hz : (xs.map (·.length)).sum ≤ 100000) : Ev X (.JoinedStr (e1 :: e2 :: es) pos) ρ (.str (catL Str.empty xs)) := by
  intro pins s σ H Q I ⟨r, q⟩
  refine JoinedStr_many ?_
  have := parts_ok h Str.empty pins s σ H Q I r (by rw [show Str.empty.length = 0 from rfl]; omega) fun H' sm => q _ H' sm (.str _)
  exact this
end
end FL
namespace CM
open PySem PySem.Spec L2 FL FT FU MG
theorem ofS_app (s t : String) : Str.ofString (s ++ t) = Str.ofString s ++ Str.ofString t := by
  refine str_ext ?_
  show _ = ((Str.ofString s).cps ++ (Str.ofString t).cps).toList
  rw [Array.toList_append]
  simp only [Str.ofString_eq_toList, String.toList_append, List.map_append]
theorem sI_neg {n : Nat} : sI (-((n + 1 : Nat) : Int)) = Str.ofString "-" ++ sI ((n + 1 : Nat) : Int) := by
  have e : toString (-((n + 1 : Nat) : Int)) = "-" ++ toString ((n + 1 : Nat) : Int) := rfl
  unfold sI
  rw [e, ofS_app]
def formS (a b c : Int) : Str := Str.ofString "[" ++ sI a ++ Str.ofString ", " ++ sI b ++ Str.ofString ", " ++ sI c ++ Str.ofString "]"
theorem join1 (x y : Str) : Txt.join x [y] = y := by
  have e : Txt.join x [y] = Str.join x [y] := StrLaws.glued_eq_join _ _
  rw [e]
  rfl
theorem join2 (x y z : Str) : Txt.join x [y, z] = y ++ x ++ z := by
  have e : Txt.join x [y, z] = Str.join x [y, z] := StrLaws.glued_eq_join _ _
  rw [e]
  rfl
theorem join3 (x y z u : Str) : Txt.join x [y, z, u] = y ++ x ++ (z ++ x ++ u) := by
  have e : Txt.join x [y, z, u] = Str.join x [y, z, u] := StrLaws.glued_eq_join _ _
  rw [e]
  rfl
theorem app_assoc (x y z : Str) : x ++ y ++ z = x ++ (y ++ z) := by
  refine str_ext ?_
  show ((x.cps ++ y.cps) ++ z.cps).toList = (x.cps ++ (y.cps ++ z.cps)).toList
  simp
theorem app_emp (x : Str) : x ++ Str.ofString "" = x := by
  refine str_ext ?_
  show (x.cps ++ (Str.ofString "").cps).toList = _
  rw [Array.toList_append, show (Str.ofString "").cps.toList = [] from rfl, List.append_nil]
theorem emp_app (x : Str) : Str.empty ++ x = x := by
  refine str_ext ?_
  show (Str.empty.cps ++ x.cps).toList = _
  rw [Array.toList_append, show Str.empty.cps.toList = [] from rfl, List.nil_append]
theorem joinOk_small {x : Str} {xs : List Str} (h : (xs.map (·.length)).sum + xs.length * x.length ≤ 100000) : JoinOk x xs = true := by
  unfold JoinOk Builtin.Str.tooLong
  rw [StrLaws.joinTotal, sizeLine_eq]
  simp only [Bool.not_eq_true', decide_eq_false_iff_not]
  omega
end CM
namespace FL
open PySem PySem.Spec PyProof.Rows L2
section
variable {X : Cx} {e a b c : Expr} {es : List Expr} {ρ : Ro} {d d' : D} {ds gs : List D} {pos : Pos} {i j : Int} {k : Bool} {rest : List Stmt} {P : Po}
end
section
variable {P : Program} {w : World} {K : PySem.W.Frag} {mg : Str → Option Value} {base : Heap}
end
end FL
namespace FL
open PySem PySem.Spec PyProof.Rows L2
section
variable {P : Program} {w : World} {H : Hp} {h : Heap} {a C dx : Addr} {fs : List (Str × V)} {o : Obj}
end
section
variable {X : Cx} {e a b c o : Expr} {es : List Expr} {ρ : Ro} {d : D} {ds : List D} {pos apos : Pos} {C : Addr}
end
section
variable {X : Cx} {pins : List (Addr × Obj)} {σ : L2.St} {H : Hp} {s : Shared}
abbrev Cx.from (X : Cx) (H : Hp) : Cx := { X with H₀ := H }
theorem Inv.from (I : L2.Inv X pins σ H s) (hk : ∀ b, H b = none → X.H₀ b = none) : L2.Inv (Cx.from X H) pins σ H s where
  ok := ⟨I.ok.mod, I.ok.kind, I.ok.glob, I.ok.blt, I.ok.above, I.ok.inj, I.ok.has, I.ok.cab, I.ok.hd, I.ok.frames, I.ok.stk, I.ok.exf, fun b o e => ⟨(I.ok.bs b o e).1, (I.bs b o e).2⟩, I.ok.bsz, I.ok.noex, I.ok.exfs, I.ok.funs, fun b hb => by
    obtain ⟨_, o, ho, _⟩ := I.ok.funs.mem hb
    exact I.base.free b o ho (I.ok.frf b hb) fun z => I.ok.exfs b z hb⟩
  os := I.os
  bare := I.bare
  base := ⟨fun b o e n => I.base.keep b o e (hk b n), fun b o e n => I.base.slot b o e (hk b n), fun b o e n _ => n, I.base.there, fun _ _ h => h, fun _ _ _ h => h, fun b ps h => ⟨#[], by have h' : H b = some (.tbl ps) := h; rw [h']; simp⟩⟩
  loc := I.loc
  cell := I.cell
  free := I.free
  freeC := I.freeC
  pin := I.pin
  hok := I.hok
  len := I.len
theorem Inv.back {pins' : List (Addr × Obj)} {σ' : L2.St} {H' : Hp} {s' : Shared} (I : L2.Inv X pins σ H s) (J : L2.Inv (Cx.from X H) pins' σ' H' s') : L2.Inv X pins' σ' H' s' where
  ok := I.ok
  os := J.os
  bare := J.bare
  base := ⟨fun b o e n h1 h2 => J.base.keep b o e (I.base.free b o e n h2) h1 h2, fun b o e n h1 h2 => J.base.slot b o e (I.base.free b o e n h2) h1 h2, fun b o e n h2 => J.base.free b o e (I.base.free b o e n h2) h2, J.base.there, fun b xs h => J.base.tups b xs (I.base.tups b xs h), fun b o u h => J.base.frzs b o u (I.base.frzs b o u h), fun b ps h => by
    obtain ⟨m1, h1⟩ := I.base.tbls b ps h
    obtain ⟨m2, h2⟩ := J.base.tbls b _ h1
    exact ⟨m1 ++ m2, by rw [h2, Array.append_assoc]⟩⟩
  loc := J.loc
  cell := J.cell
  free := J.free
  freeC := J.freeC
  pin := J.pin
  hok := J.hok
  len := J.len
end
section
variable {P : Program} {w : World} {K : PySem.W.Frag} {mg : Str → Option Value} {base : Heap}
end
section
variable {X : Cx} {a : Expr} {ρ : Ro} {ds : List D} {pos : Pos} {C C' : Addr} {k : Bool}
end
end FL
namespace CM
open PySem PySem.Spec L2 FL FT FU MG
section
variable {X : Cx} {o : Expr} {ρ : Ro} {pos apos : Pos} {C0 C1 C2 C : Addr} {fs : List D} {t : Str}
end
section
variable {K : PySem.W.Frag} {C C' : Addr}
theorem cls_some (o : PySem.W.mroIn K C' (.type "object") = some true) : (PySem.W.clsIn K C').isSome = true := by
  unfold PySem.W.mroIn at o
  cases q : PySem.W.clsIn K C' with
  | none => rw [q] at o; cases o
  | some _ => rfl
theorem kit_cls (o : PySem.W.mroIn K C' (.type "object") = some true) (t : PySem.W.typeIn K (.ref C') = some (.type "type")) : PySem.W.kitCls K (.ref C) (.ref C') = PySem.W.mroIn K C (.ref C') := by
  show (if ((PySem.W.clsIn K C').isSome && PySem.W.typeIn K (.ref C') == some (.type "type")) = true then PySem.W.subIn K (.ref C) (.ref C') else none) = _
  rw [cls_some o, t, if_pos (by decide)]
  rfl
theorem kit_t (h : PySem.W.mroIn K C (.ref C') = some true) (o : PySem.W.mroIn K C' (.type "object") = some true) (t : PySem.W.typeIn K (.ref C') = some (.type "type")) : PySem.W.kitOne K (.ref C) (.ref C') = some true := by
  unfold PySem.W.kitOne
  split
  · rfl
  · rw [kit_cls o t]; exact h
theorem kit_f (s : PySem.W.mroIn K C (.ref C) = some true) (h : PySem.W.mroIn K C (.ref C') = some false) (o : PySem.W.mroIn K C' (.type "object") = some true) (t : PySem.W.typeIn K (.ref C') = some (.type "type")) : PySem.W.kitOne K (.ref C) (.ref C') = some false := by
  unfold PySem.W.kitOne
  split
  · rename_i z
    have e : Value.ref C = Value.ref C' := eq_of_beq z
    cases e
    rw [s] at h
    cases h
  · rw [kit_cls o t]; exact h
end
end CM
namespace XR
open PySem PySem.Spec PyProof.Rows L2 FL
open Classical in
noncomputable def less (h : Heap) (p : Addr → Prop) : Heap := { h with objs := h.objs.mapIdx fun i o => if p i then { o with data := .freed } else o }
theorem less_in {h : Heap} {p : Addr → Prop} {a : Addr} (n : ¬ p a) : (less h p).get? a = h.get? a := by
  unfold Heap.get? less
  simp only [Array.getElem?_mapIdx]
  cases q : h.objs[a]? with
  | none => rfl
  | some o => simp only [Option.map_some, if_neg n]
theorem less_out {h : Heap} {p : Addr → Prop} {a : Addr} (n : p a) : (less h p).get? a = none := by
  unfold Heap.get? less
  simp only [Array.getElem?_mapIdx]
  cases q : h.objs[a]? with
  | none => rfl
  | some o => simp only [Option.map_some, if_pos n]
theorem less_stays {h : Heap} {p : Addr → Prop} : Heap.StaysIn (less h p) h := fun b o e => by
  by_cases n : p b
  · rw [less_out n] at e; cases e
  · rw [less_in n] at e; exact e
structure Flown (P : Program) (w : World) (base : Heap) (l : List Env) (H : Hp) (s : Shared) (C : Addr) (H' : Hp) (e : Addr) (s' : Shared) : Prop where
  os : s'.os = s.os
  bare : AllBare s'.gens
  un : Un (frs l) [] H H' s.heap s'.heap
  ex : ∃ (B : Heap) (a0 : Value), Heap.StaysIn base B ∧ HOk P w H' B ∧ (∀ b o, s.heap.get? b = some o → H b = none → b ∉ frs l → B.get? b = some o) ∧ (∀ b o, s.heap.get? b = some o → b ∉ frs l → ∃ o', B.get? b = some o') ∧ Heap.FlyingW B l e (.ref C) a0 s'.heap
def CXF (P : Program) (w : World) (base : Heap) : CXT := fun l H s E ev s' => ∃ C H' e, ev = .ref e ∧ Flown P w base l H s C H' e s' ∧ E (.ref C) none H'
theorem funFrames_base {h base B : Heap} : ∀ {l : List Env}, h.FunFrames base l → (∀ b ∈ frs l, B.get? b = none) → h.FunFrames B l
  | [], _, _ => trivial
  | env :: rest, f, hb => by
    obtain ⟨k, ⟨L, o, e1, e2, e3, e4⟩, r⟩ := (show env.scope.kind ≠ .module ∧ (∃ L o, env.frame = some L ∧ base.get? L = none ∧ h.get? L = some o ∧ ∀ vs, o.data ≠ .fields vs) ∧ h.FunFrames base rest from f)
    have m : L ∈ frs (env :: rest) := List.mem_filterMap.mpr ⟨env, List.mem_cons_self, e1⟩
    refine (show env.scope.kind ≠ .module ∧ (∃ L o, env.frame = some L ∧ B.get? L = none ∧ h.get? L = some o ∧ ∀ vs, o.data ≠ .fields vs) ∧ h.FunFrames B rest from ⟨k, ⟨L, o, e1, hb L m, e3, e4⟩, funFrames_base r fun b hb' => hb b ?_⟩)
    obtain ⟨z, z1, z2⟩ := List.mem_filterMap.mp hb'
    exact List.mem_filterMap.mpr ⟨z, List.mem_cons_of_mem _ z1, z2⟩
section
variable {X : Cx} {pins : List (Addr × Obj)} {σ : L2.St} {H : Hp} {s : Shared} {E : Value → Shared → Prop} {Q : Unit → Shared → Prop}
theorem own_new (I : L2.Inv X pins σ H s) (hst : X.stack = X.env :: X.outer) (hf : X.env.frame = some X.env.locals) {b : Addr} {o : Obj} (e : X.s₀.heap.get? b = some o) (n : b ∉ X.fs) : b ∉ frs X.stack := by
  rw [hst]
  intro z
  obtain ⟨z, z1, z2⟩ := List.mem_filterMap.mp z
  rcases List.mem_cons.mp z1 with rfl | z1
  · rw [hf] at z2
    cases z2
    exact absurd (Nat.lt_of_lt_of_le (Heap.lt_size e) I.ok.above) (Nat.lt_irrefl _)
  · exact n (List.mem_filterMap.mpr ⟨z, z1, z2⟩)
theorem leave_made {C e : Addr} {h' : Heap} {vs : List Value} (I : L2.Inv X pins σ H s) (hst : X.stack = X.env :: X.outer) (hf : X.env.frame = some X.env.locals) (hex : X.ex = []) (m : Heap.MadeExcOf s.heap h' e (.ref C) vs)
    (q : ∀ s'', Flown X.prog X.w X.base X.outer X.H₀ X.s₀ C H e s'' → Q () s'') : wpAny (model X.prog X.w) X.A (leaving X.env (.ref e)) Q E { s with heap := h' } := by
  have nex : ∀ b : Addr, b ∉ X.ex := fun b z => by rw [hex] at z; cases z
  have fr : X.A.frames = some (X.env :: X.outer) := by rw [← hst]; exact I.ok.frames
  have ff : s.heap.FunFrames X.base (X.env :: X.outer) := by rw [← hst]; exact I.stack
  have inB : ∀ {b : Addr}, b ∉ frs X.stack → (less s.heap (· ∈ frs X.stack)).get? b = s.heap.get? b := fun n => less_in n
  refine wpAny_leaves_madeW (base := less s.heap (· ∈ frs X.stack)) (h := s.heap) fr hf less_stays (funFrames_base ff fun b hb => less_out (p := (· ∈ frs X.stack)) (by show b ∈ frs X.stack; rw [hst]; exact hb)) m fun h2 t fl _ _ up => q _ ?_
  have hokB : HOk X.prog X.w H (less s.heap (· ∈ frs X.stack)) := fun a o e => (I.hok a o e).stay (fun b u hb z => by
    refine (inB fun y => ?_).trans z
    have := I.stkFree b y
    rcases hb with rfl | hb
    · rw [e] at this; cases this
    · rw [hb] at this; cases this) (fun _ z => z) (fun _ _ z => z)
  have keepB : ∀ b o, X.s₀.heap.get? b = some o → X.H₀ b = none → b ∉ frs X.outer → (less s.heap (· ∈ frs X.stack)).get? b = some o := fun b o e n nf => by
    rw [inB (own_new I hst hf e nf)]
    exact I.base.keep b o e n nf (nex b)
  have slot : ∀ b o, X.s₀.heap.get? b = some o → X.H₀ b = none → b ∈ frs X.outer → ∃ sl, h2.get? b = some { o with slots := sl } := fun b o e n hb => by
    obtain ⟨sl, e1⟩ := I.base.slot b o e n hb (nex b)
    obtain ⟨_, o', e2, nd⟩ := I.ok.funs.mem hb
    rw [e] at e2
    cases e2
    obtain ⟨sl2, e3⟩ := up b _ (m.keeps b _ e1) nd
    exact ⟨sl2, e3⟩
  have there : ∀ b o, X.s₀.heap.get? b = some o → b ∉ frs X.outer → ∃ o', (less s.heap (· ∈ frs X.stack)).get? b = some o' := fun b o e nf => by
    obtain ⟨o', z⟩ := I.base.there b o e (nex b)
    exact ⟨o', by rw [inB (own_new I hst hf e nf)]; exact z⟩
  refine ⟨I.os, I.bare, ⟨fun b o e n nf _ => fl.1 b o (keepB b o e n nf), fun b o e n hb _ => slot b o e n hb, fun b o e n _ => I.base.free b o e n (nex b), fun b o e _ => ?_, I.base.tups, I.base.frzs, I.base.tbls⟩, less s.heap (· ∈ frs X.stack), .ref t, fun b o e => ?_, hokB, keepB, there, fl⟩
  · by_cases hb : b ∈ frs X.outer
    · obtain ⟨sl, z⟩ := slot b o e (I.ok.frf b hb) hb
      exact ⟨_, z⟩
    · obtain ⟨o', z⟩ := there b o e hb
      exact ⟨o', fl.1 b o' z⟩
  · have z := I.bk b o e
    rw [inB]
    · exact z
    · intro y
      have := (I.stack.mem y).1
      rw [e] at this
      cases this
theorem flown_out {C e : Addr} {H' : Hp} {s' : Shared} {B h2 : Heap} {a0 : Value} (I : L2.Inv X pins σ H s) (hst : X.stack = X.env :: X.outer) (hf : X.env.frame = some X.env.locals) (hex : X.ex = []) (os : s'.os = s.os) (bare : AllBare s'.gens)
    (un : Un (frs X.stack) [] H H' s.heap s'.heap) (b1 : Heap.StaysIn X.base B) (b2 : HOk X.prog X.w H' B) (b3 : ∀ b o, s.heap.get? b = some o → H b = none → b ∉ frs X.stack → B.get? b = some o) (b4 : ∀ b o, s.heap.get? b = some o → b ∉ frs X.stack → ∃ o', B.get? b = some o')
    (fl2 : Heap.FlyingW B X.outer e (.ref C) a0 h2) (up : s'.heap.UpToSlots h2) : Flown X.prog X.w X.base X.outer X.H₀ X.s₀ C H' e { s' with heap := h2 } := by
  have nex : ∀ b : Addr, b ∉ X.ex := fun b z => by rw [hex] at z; cases z
  have n0 : ∀ b : Addr, b ∉ ([] : List Addr) := fun b z => by cases z
  have keepB : ∀ b o, X.s₀.heap.get? b = some o → X.H₀ b = none → b ∉ frs X.outer → B.get? b = some o := fun b o e n nf =>
    b3 b o (I.base.keep b o e n nf (nex b)) (I.base.free b o e n (nex b)) (own_new I hst hf e nf)
  have sub : ∀ b ∈ frs X.outer, b ∈ frs X.stack := fun b hb => by
    rw [hst]
    obtain ⟨z, z1, z2⟩ := List.mem_filterMap.mp hb
    exact List.mem_filterMap.mpr ⟨z, List.mem_cons_of_mem _ z1, z2⟩
  have slot : ∀ b o, X.s₀.heap.get? b = some o → X.H₀ b = none → b ∈ frs X.outer → ∃ sl, h2.get? b = some { o with slots := sl } := fun b o e n hb => by
    obtain ⟨sl, e1⟩ := I.base.slot b o e n hb (nex b)
    obtain ⟨_, o', e2, nd⟩ := I.ok.funs.mem hb
    rw [e] at e2
    cases e2
    obtain ⟨sl1, e3⟩ := un.slot b _ e1 (I.base.free b o e n (nex b)) (sub b hb) (n0 b)
    obtain ⟨sl2, e4⟩ := up b _ e3 nd
    exact ⟨sl2, e4⟩
  have there : ∀ b o, X.s₀.heap.get? b = some o → b ∉ frs X.outer → ∃ o', B.get? b = some o' := fun b o e nf => by
    obtain ⟨o', z⟩ := I.base.there b o e (nex b)
    exact b4 b o' z (own_new I hst hf e nf)
  refine ⟨os.trans I.os, bare, ⟨fun b o e n nf _ => fl2.1 b o (keepB b o e n nf), fun b o e n hb _ => slot b o e n hb, fun b o e n _ => ?_, fun b o e _ => ?_, fun b xs h => un.tups b xs (I.base.tups b xs h), fun b o u h => un.frzs b o u (I.base.frzs b o u h), fun b ps h => ?_⟩, B, a0, b1, b2, keepB, there, fl2⟩
  · obtain ⟨o', z⟩ := I.base.there b o e (nex b)
    exact un.free b o' z (I.base.free b o e n (nex b)) (n0 b)
  · by_cases hb : b ∈ frs X.outer
    · obtain ⟨sl, z⟩ := slot b o e (I.ok.frf b hb) hb
      exact ⟨_, z⟩
    · obtain ⟨o', z⟩ := there b o e hb
      exact ⟨o', fl2.1 b o' z⟩
  · obtain ⟨m1, h1⟩ := I.base.tbls b ps h
    obtain ⟨m2, h3⟩ := un.tbls b _ h1
    exact ⟨m1 ++ m2, by rw [h3, Array.append_assoc]⟩
theorem leave_on {C e : Addr} {H' : Hp} {s' : Shared} (I : L2.Inv X pins σ H s) (hst : X.stack = X.env :: X.outer) (hf : X.env.frame = some X.env.locals) (hex : X.ex = []) (F : Flown X.prog X.w X.base X.stack H s C H' e s')
    (q : ∀ s'', Flown X.prog X.w X.base X.outer X.H₀ X.s₀ C H' e s'' → Q () s'') : wpAny (model X.prog X.w) X.A (leaving X.env (.ref e)) Q E s' := by
  have fr : X.A.frames = some (X.env :: X.outer) := by rw [← hst]; exact I.ok.frames
  obtain ⟨B, a0, b1, b2, b3, b4, fl⟩ := F.ex
  exact wpAny_leaves_onW fr hf (by rw [← hst]; exact fl) fun h2 fl2 up => q _ (flown_out I hst hf hex F.os F.bare F.un b1 b2 b3 b4 fl2 up)
structure FlownH (P : Program) (w : World) (base : Heap) (l : List Env) (H : Hp) (s : Shared) (C : Addr) (H' : Hp) (e L : Addr) (s' : Shared) : Prop where
  os : s'.os = s.os
  bare : AllBare s'.gens
  un : Un (frs l) [] H H' s.heap s'.heap
  ex : ∃ (B : Heap) (a0 : Value), Heap.StaysIn base B ∧ HOk P w H' B ∧ (∀ b o, s.heap.get? b = some o → H b = none → b ∉ frs l → B.get? b = some o) ∧ (∀ b o, s.heap.get? b = some o → b ∉ frs l → ∃ o', B.get? b = some o') ∧ Heap.HeldW B l e (.ref C) a0 L s'.heap
theorem leave_held {C e : Addr} {H' : Hp} {s' : Shared} (I : L2.Inv X pins σ H s) (hst : X.stack = X.env :: X.outer) (hf : X.env.frame = some X.env.locals) (hex : X.ex = []) (F : FlownH X.prog X.w X.base X.stack H s C H' e X.env.locals s')
    (q : ∀ s'', Flown X.prog X.w X.base X.outer X.H₀ X.s₀ C H' e s'' → Q () s'') : wpAny (model X.prog X.w) X.A (leaving X.env (.ref e)) Q E s' := by
  obtain ⟨B, a0, b1, b2, b3, b4, fl⟩ := F.ex
  unfold leaving
  refine wpAny_bind (wpAny_noteFrame_againW hf fl.2.2.2 (wpAny_landsW fl fun h2 fl2 up => q _ (flown_out (a0 := a0) I hst hf hex F.os F.bare F.un b1 b2 b3 b4 ?_ up)))
  obtain ⟨k1, k2, k3, k4⟩ := fl2
  rw [hst] at k3
  exact ⟨k1, k2, k3.2.2, k4⟩
end
end XR
namespace XR
open PySem PySem.Spec PyProof.Rows L2 FL
def SpX (K : PySem.W.Frag) (Pf : List D → D → Prop) (Px : List D → Addr → Prop) : Sp := fun vs H Q E => ∃ ds, IsAll K H vs ds ∧ ((∃ d, Pf ds d ∧ ∀ v H', Same H H' → Is K H' v d → Q v H') ∨ ∃ C, Px ds C ∧ ∀ H', Same H H' → E (.ref C) none H')
def FnX (P : Program) (w : World) (K : PySem.W.Frag) (mg : Str → Option Value) (base : Heap) (k : Nat) (x : Str) (Pf : List D → D → Prop) (Px : List D → Addr → Prop) : Prop :=
  ∃ f fd ps, FnOk P w K mg base (CXF P w base) k f fd ps (SpX K Pf Px) ∧ mg x = some (.ref f) ∧ PySem.W.keepIn K (.ref f) = true ∧ Binds K fd ps []
def ThrOn (X : Cx) (C : Addr) (ρ : Ro) : Prop := ∀ (pins : List (Addr × Obj)) (σ : L2.St) (H : Hp) (s : Shared) (H' : Hp) (e : Addr) (s' : Shared), L2.Inv X pins σ H s → RelS X X.H₀ H σ ρ → Same H H' → Flown X.prog X.w X.base X.stack H s C H' e s' → X.xe (.ref e) s'
def ThrMd (X : Cx) (C : Addr) (ρ : Ro) : Prop := ∀ (pins : List (Addr × Obj)) (σ : L2.St) (H : Hp) (s : Shared) (e : Addr) (h' : Heap) (vs : List Value), L2.Inv X pins σ H s → RelS X X.H₀ H σ ρ → Heap.MadeExcOf s.heap h' e (.ref C) vs → X.xe (.ref e) { s with heap := h' }
def ThrHd (X : Cx) (C : Addr) (ρ : Ro) : Prop := ∀ (pins : List (Addr × Obj)) (σ : L2.St) (H : Hp) (s : Shared) (H' : Hp) (e : Addr) (s' : Shared), L2.Inv X pins σ H s → RelS X X.H₀ H σ ρ → Same H H' → FlownH X.prog X.w X.base X.stack H s C H' e X.env.locals s' → X.xe (.ref e) s'
structure Thr (X : Cx) (C : Addr) : Prop where
  held : ∀ {ρ : Ro}, ThrHd X C ρ
  made : ∀ {ρ : Ro}, ThrMd X C ρ
  on : ∀ {ρ : Ro}, ThrOn X C ρ
abbrev cxX (P : Program) (w : World) (K : PySem.W.Frag) (mg : Str → Option Value) (base : Heap) (N : List Str) (qual : Str) (st : Stmt) (f : Addr) (cdv : Value) (A : Around) (outer : List Env) (s : Shared) (H : Hp) (E : XK) : Cx :=
  cxOf (CXF P w base) P w K mg base N qual (defScope st) f cdv A outer s H E
section
variable {P : Program} {w : World} {K : PySem.W.Frag} {mg : Str → Option Value} {base : Heap}
theorem thr_def {N : List Str} {qual : Str} {st : Stmt} {f : Addr} {cdv : Value} {A : Around} {outer : List Env} {s : Shared} {H : Hp} {E : XK} {C : Addr} (hE : ∀ H', Same H H' → E (.ref C) none H') : Thr (cxX P w K mg base N qual st f cdv A outer s H E) C where
  held := fun pins σ H1 s1 H2 e s' I r sm2 F => leave_held I rfl rfl rfl F fun s'' F' => ⟨C, H2, e, rfl, F', hE H2 (r.same.trans sm2)⟩
  made := fun pins σ H1 s1 e h' vs I r m => leave_made I rfl rfl rfl m fun s'' F => ⟨C, H1, e, rfl, F, hE H1 r.same⟩
  on := fun pins σ H1 s1 H2 e s' I r sm2 F => leave_on I rfl rfl rfl F fun s'' F' => ⟨C, H2, e, rfl, F', hE H2 (r.same.trans sm2)⟩
theorem fnx_ok {x qual : Str} {st : Stmt} {f : Addr} {fd : FuncData} {N ps : List Str} {k : Nat} {Pf : List D → D → Prop} {Px : List D → Addr → Prop} (F : Fun K x qual st f fd) (S : FnScope N ps (defScope st))
    (hl : ∀ ds d, Pf ds d → ds.length = ps.length ∧ ∀ d ∈ ds, ownA d = none) (hlx : ∀ ds C, Px ds C → ds.length = ps.length ∧ ∀ d ∈ ds, ownA d = none)
    (hbody : ∀ (cdv : Value) (A : Around) (outer : List Env) (s : Shared) (H : Hp) (E : XK), Room k (A.deeper (envOfC qual (defScope st) s.heap.objs.size f cdv)) → ∀ ds d, Pf ds d →
      Do (cxD P w K mg base N qual st f cdv A outer s H E) (defBody st) (ini N ds) { nx := fun _ => d = .non, rt := fun d' => d' = d })
    (hthr : ∀ (cdv : Value) (A : Around) (outer : List Env) (s : Shared) (H : Hp) (E : XK), Room k (A.deeper (envOfC qual (defScope st) s.heap.objs.size f cdv)) → ∀ ds C, Px ds C → Thr (cxX P w K mg base N qual st f cdv A outer s H E) C →
      Do (cxX P w K mg base N qual st f cdv A outer s H E) (defBody st) (ini N ds) { nx := fun _ => False, rt := fun _ => False }) : FnOk P w K mg base (CXF P w base) (k + 1) f fd ps (SpX K Pf Px) := by
  obtain ⟨oc, od, kV, doc, pm, an, cdv, ct, osl, rfl, lk, hcd⟩ := F.ex
  refine fn_of lk hcd S (fun vs H Q E h => ?_) fun A outer s H vs Q E hr h => ?_
  · obtain ⟨ds, h1, ⟨d, h2, _⟩ | ⟨C, h2, _⟩⟩ := h
    · rw [h1.length]; exact (hl ds d h2).1
    · rw [h1.length]; exact (hlx ds C h2).1
  · obtain ⟨ds, h1, ⟨d, h2, q⟩ | ⟨C, h2, q⟩⟩ := h
    · refine ⟨_, PSs.nox (hbody cdv A outer s H E hr ds d h2), ?_⟩
      refine ⟨relS_start (X := cxD P w K mg base N qual st f cdv A outer s H E) h1 (hl ds d h2).2, fun σ' H' ρ' _ r' z => ?_, fun v H' d' sm hv _ z => ?_, fun _ _ _ _ _ z => z.elim, fun _ _ _ _ _ z => z.elim⟩
      · have z' : d = .non := z
        subst z'
        exact q _ H' r'.same .non
      · have z' : d' = d := z
        subst z'
        exact q v H' sm hv
    · refine ⟨_, hthr cdv A outer s H E hr ds C h2 (thr_def q), ?_⟩
      exact ⟨relS_start (X := cxX P w K mg base N qual st f cdv A outer s H E) h1 (hlx ds C h2).2, fun _ _ _ _ _ z => z.elim, fun _ _ _ _ _ _ z => z.elim, fun _ _ _ _ _ z => z.elim, fun _ _ _ _ _ z => z.elim⟩
end
def Rs (X : Cx) (e : Expr) (ρ : Ro) : Prop := ∀ (pins : List (Addr × Obj)) (s : Shared) (σ : L2.St) (H : Hp) (Q : Value → Shared → Prop), L2.Inv X pins σ H s → RelS X X.H₀ H σ ρ → wpAny (model X.prog X.w) X.A (eval e X.env) Q X.xe s
section
variable {X : Cx} {e a b c : Expr} {es : List Expr} {ρ : Ro} {d : D} {ds : List D} {pos : Pos} {rest : List Stmt} {Po' : Po} {C : Addr}
theorem rs_call {k : Nat} {x : Str} {Pf : List D → D → Prop} {Px : List D → Addr → Prop} {p : Pos} (G : FnX X.prog X.w X.K X.mg X.base k x Pf Px) (hr : Room k X.A) (ha : EvA X (e :: es) ρ ds) (hp : Px ds C) (ht : ThrOn X C ρ) (hg : Gl X x := by rfl) (hdb : (x == ("__debug__" : Str)) = false := by decide)
    (he : starEach (e :: es) X.env = (false, eval e X.env) :: starEach es X.env := by rfl) (hpl : (backTo pos (starEach es X.env)).any (·.1) = false := by rfl) : Rs X (.Call (.Name x p) (e :: es) [] pos) ρ := by
  intro pins s σ H Q I rs
  obtain ⟨f, fd, ps, F, hm, hk, hb⟩ := G
  refine wpAny_Call_Name_kw (ld_glob I hg hm ?_ hdb)
  refine PySem.W.callWith_K (h₀ := X.base) I.ok.mod.kin hk (thn (ha pos pins s σ H (fun vs H1 => Same H H1 ∧ IsAll X.K H1 vs ds) I ⟨rs.e, fun vs H' s1 h1 => ⟨s1, h1⟩⟩) fun us s1 ⟨vs, H1, I1, r, sm, hv⟩ => ⟨I1.kIn, ?_⟩) he hpl
  have sp : SpX X.K Pf Px vs H1 (fun _ _ => False) (fun c _ H' => c = .ref C ∧ Same H1 H') := ⟨ds, hv, .inr ⟨C, hp, fun H' s' => ⟨rfl, s'⟩⟩⟩
  have hl : (us ++ []).length = ps.length := by rw [List.append_nil, ← r.length]; exact F.len _ _ _ _ sp
  have hb1 := hb s1 us I1.kIn hl
  rw [List.append_nil] at hb1
  refine wpAny_call (codeAny_mono (F.run X.A X.stack s1 H1 ⟨us, []⟩ us vs (fun _ _ => False) (fun c _ H' => c = .ref C ∧ Same H1 H') hr I1.env0 hb1 r sp) fun r s' hq => ?_)
  cases r with
  | error e =>
    obtain ⟨C', H2, e', rfl, Fl, z, sm2⟩ := (show CXF X.prog X.w X.base X.stack H1 s1 (fun c _ H' => c = .ref C ∧ Same H1 H') e s' from hq)
    cases z
    exact ht pins σ H1 s1 H2 e' s' I1 (rs.mono sm) sm2 Fl
  | ok fl =>
    cases fl with
    | ret u => obtain ⟨_, _, _, _, _, _, _, z⟩ := (show CE X.stack X.prog X.w H1 s1 (fun _ _ => False) u s' from hq); exact z.elim
    | next => exact False.elim hq
    | brk => exact False.elim hq
    | cont => exact False.elim hq
end
end XR
namespace XR
open PySem PySem.Spec PyProof.Rows L2 FL
theorem exc_obj {K : PySem.W.Frag} {h : Heap} {C : Addr} {bmB : List Value} {newId : String} (X : K.In h) (q : PySem.W.excIn K C bmB newId = true) :
    ∃ bm N nm qn bs hd sn sub ab col dd k0 k1 k2 k3 k5, ∃ mN : Str → Option Value, h.get? C = some (excClassObj nm qn C N bs bm hd sn sub ab col dd k0 k1 k2 k3 k5 newId) ∧ h.Ns N mN ∧ mN "__init__" = none ∧ OwnTail h bmB bm := by
  unfold PySem.W.excIn at q
  split at q
  case h_2 => cases q
  case h_1 dd cd sl ho =>
    split at q
    case h_2 => cases q
    case h_1 C' bm k0 k1 k2 k3 n k5 hm hs =>
      simp only [Bool.and_eq_true, beq_iff_eq, Bool.not_eq_true'] at q
      obtain ⟨⟨⟨⟨⟨e1, e2⟩, hdel⟩, ht⟩, hok⟩, hni⟩ := q
      subst e1 e2
      cases cd with
      | mk nm bs mro ns qn hd sn sub ab col del =>
        have hm' : mro = _ := hm
        have hdel' : del = false := hdel
        subst hm' hdel'
        have hsl : sl = #[k0, k1, k2, k3, some (.builtin n), k5] := by
          cases sl with
          | mk l =>
            have : l = _ := hs
            rw [this]
        subst hsl
        exact ⟨bm, ns, nm, qn, bs, hd, sn, sub, ab, col, dd, k0, k1, k2, k3, k5, _, X _ _ ho, .of_isNs (PySem.W.isNs_of_in X hok), PySem.W.nsMap_none_of_in X hok hni, PySem.W.tail_of_in X ht⟩
section
variable {X : Cx} {e a b c : Expr} {es : List Expr} {ρ : Ro} {d : D} {ds : List D} {pos : Pos} {rest : List Stmt} {Pp : Po} {C : Addr}
theorem do_raise {x : Str} {bmB bmN : List Value} {B Bn newId nid initId inN : String} {np cpos : Pos} (ht : ThrMd X C ρ) (q : PySem.W.excIn X.K C bmB newId = true) (Fn : ExcBaseFacts Bn newId inN bmN) (hBn : bmB.contains (.type Bn) = true) (FB : ExcBaseFacts B nid initId bmB) (hm : X.mg x = some (.ref C))
    (hh : X.A.handled = none) (ha : EvA X (e :: es) ρ ds) (hl : ds.length ≤ 1000) (hg : Gl X x := by rfl) (hdb : (x == ("__debug__" : Str)) = false := by decide)
    (he : starEach (e :: es) X.env = (false, eval e X.env) :: starEach es X.env := by rfl) (hpl : (backTo cpos (starEach es X.env)).any (·.1) = false := by rfl) :
    Do X (.Raise (some (.Call (.Name x np) (e :: es) [] cpos)) none pos :: rest) ρ Pp := by
  intro pins s σ H D I ⟨r, _⟩
  refine wpAny_execs_cons ?_
  obtain ⟨bm, N, nm, qn, bs, hd, sn, sub, ab, col, dd, k0, k1, k2, k3, k5, mN, hC, hN, hni, T⟩ := exc_obj I.ok.mod.kin q
  refine wpAny_Raise_call_subU (C := C) (nm := nm) (q := qn) (N := N) (bs := bs) (bm := bm) (hdct := hd) (sn := sn) (sub := sub) (ab := ab) (col := col) (dd := dd) (k0 := k0) (k1 := k1) (k2 := k2) (k3 := k3) (k5 := k5)
    Fn hBn FB (mN := mN) (T.hasType FB.hasBase) hh (by rw [he]; show (false || (backTo cpos (starEach es X.env)).any (·.1)) = false; rw [hpl]; rfl) hni (ld_glob I hg hm ⟨rfl, ?_⟩ hdb)
  have h := thn (ha cpos pins s σ H (fun vs H1 => Same H H1 ∧ IsAll X.K H1 vs ds) I ⟨r.e, fun vs H' s1 h1 => ⟨s1, h1⟩⟩) (Q' := fun us s2 => us.length ≤ sizeLine ∧ (∀ b o, X.base.get? b = some o → s2.heap.get? b = some o) ∧ ∀ h' e, Heap.MadeExcOf s2.heap h' e (.ref C) us → X.xe (.ref e) { s2 with heap := h' })
    fun us s2 ⟨vs, H1, I1, rr, sm, hv⟩ => ⟨by rw [← rr.length, hv.length, sizeLine_eq]; omega, I1.bk, fun h' e m => ht pins σ H1 s2 e h' us I1 (r.mono sm) m⟩
  rw [he] at h ⊢
  exact Calls.evalArgs_plain (wpAny_mono h (fun vs s₂ h₂ => ⟨rfl, h₂.1, h₂.2.1 _ _ hC, hN.keeps h₂.2.1, T.keeps h₂.2.1, h₂.2.2⟩) fun _ _ y => y)
def tX (X : Cx) (ρ : Ro) : TE := fun σ H _ => RelS X X.H₀ H σ ρ
theorem Rs.pe (h : Rs X e ρ) : PE X e (tX X ρ) := fun pins s σ H Q I r => h pins s σ H _ I r
theorem do_exprX (h : Rs X e ρ) (hs : swapsWith e none pos.line X.env = pure false := by rfl) : Do X (.Expr e pos :: rest) ρ Pp :=
  PSs.imp (pss_cons (u := tNever) (ps_expr h.pe hs) pss_never) fun _ _ _ ⟨r, _⟩ => r
theorem do_setX (n : Nat) {x : Str} {pos' : Pos} (h : Rs X e ρ) (hN : X.N.Nodup) (hi : X.N[n]? = some x := by rfl) (hx : Loc X.env.scope x := by first | exact Or.inl rfl | exact Or.inr rfl)
    (hs : swapsWith e (some (.Name x pos')) pos.line X.env = pure false := by rfl) (hf : X.fn x = true ∨ X.env.scope.names.lookup x = some .local := by first | exact .inl rfl | exact .inr rfl) : Do X (.Assign [.Name x pos'] e pos :: rest) ρ Pp :=
  PSs.imp (pss_cons (u := tNever) (ps_set hN hi hx h.pe hs hf) pss_never) fun _ _ _ ⟨r, _⟩ => r
def RsA (X : Cx) (es : List Expr) (ρ : Ro) : Prop := PA X es fun σ H _ => RelS X X.H₀ H σ ρ
theorem ra_here (h : Rs X e ρ) (hs : starEach (e :: es) X.env = (false, eval e X.env) :: starEach es X.env := by rfl) : RsA X (e :: es) ρ :=
  PA.imp (pa_cons h.pe (t := fun _ _ _ => False) (fun _ _ _ _ _ _ _ z => z.elim) hs) fun _ _ _ r => r
end
end XR
namespace XR
open PySem PySem.Spec PyProof.Rows L2 FL
section
variable {X : Cx} {pins : List (Addr × Obj)} {σ : L2.St} {H H' : Hp} {s s' : Shared} {C e : Addr}
theorem land {B h5 : Heap} {a0 : Value} (I : L2.Inv X pins σ H s) (os : s'.os = s.os) (bare : AllBare s'.gens) (un : Un (frs X.stack) [] H H' s.heap s'.heap) (b2 : HOk X.prog X.w H' B)
    (b3 : ∀ b o, s.heap.get? b = some o → H b = none → b ∉ frs X.stack → B.get? b = some o) (b4 : ∀ b o, s.heap.get? b = some o → b ∉ frs X.stack → ∃ o', B.get? b = some o')
    (fl : Heap.FlyingW B X.stack e (.ref C) a0 h5) (up : s'.heap.UpToSlots h5) : L2.Inv X pins σ H' { s' with heap := h5 } := by
  have n0 : ∀ b : Addr, b ∉ ([] : List Addr) := fun b z => by cases z
  have slot : ∀ b o, s.heap.get? b = some o → H b = none → b ∈ frs X.stack → ∃ sl, h5.get? b = some { o with slots := sl } := fun b o e n hb => by
    obtain ⟨sl, e1⟩ := un.slot b o e n hb (n0 b)
    obtain ⟨_, o', e2, nd⟩ := I.stack.mem hb
    rw [e] at e2
    cases e2
    obtain ⟨sl2, e3⟩ := up b _ e1 nd
    exact ⟨sl2, e3⟩
  have un5 : Un (frs X.stack) [] H H' s.heap h5 := by
    refine ⟨fun b o e n nf _ => fl.1 b o (b3 b o e n nf), fun b o e n hb _ => slot b o e n hb, un.free, fun b o e _ => ?_, un.tups, un.frzs, un.tbls⟩
    by_cases hb : b ∈ frs X.stack
    · obtain ⟨sl, z⟩ := slot b o e (I.stkFree b hb) hb
      exact ⟨_, z⟩
    · obtain ⟨o', z⟩ := b4 b o e hb
      exact ⟨o', fl.1 b o' z⟩
  have ce : CE X.stack X.prog X.w H s (fun _ H2 => H2 = H') Value.none { s' with heap := h5 } := ⟨.non, H', os, bare, un5, b2.kept fl.1, rfl, rfl⟩
  obtain ⟨v, H2, J, _, z⟩ := I.after ce
  subst z
  exact J
end
section
variable {X : Cx} {ρ : Ro} {pos : Pos} {rest body : List Stmt} {P : Po} {h0 : ExceptHandler} {hs : List ExceptHandler}
end
end XR
namespace XR
open PySem PySem.Spec PyProof.Rows L2 FL
section
variable {X : Cx} {pins : List (Addr × Obj)} {σ : L2.St} {H H' : Hp} {s s' : Shared} {C e : Addr}
theorem obj_get {P : Program} {w : World} {h : Heap} {a : Addr} {o : HO} (x : ObjOk P w H h a o) : ∃ ob, h.get? a = some ob := by
  cases o with
  | lst xs => obtain ⟨_, _, _, _, e⟩ := x; exact ⟨_, e⟩
  | tup xs => obtain ⟨_, _, _, ob, e, _⟩ := x; exact ⟨_, e⟩
  | dK kvs => obtain ⟨_, _, _, _, o, _, _, e, _⟩ := x; exact ⟨_, e⟩
  | dT kvs => obtain ⟨_, _, _, _, o, _, _, e, _⟩ := x; exact ⟨_, e⟩
  | set S n => obtain ⟨o, _, _, _, e, _⟩ := x; exact ⟨_, e⟩
  | ins C dx fs => obtain ⟨_, _, _, e, _⟩ := x; exact ⟨_, e⟩
  | own y => obtain ⟨_, e⟩ := x; exact ⟨_, e⟩
  | xd fs => obtain ⟨_, ⟨_, _, _, e, _⟩, _⟩ := x; exact ⟨_, e⟩
  | rng lo hi => obtain ⟨_, _, _, e⟩ := x; exact ⟨_, e⟩
  | frz ob u => obtain ⟨e, _⟩ := x; exact ⟨_, e⟩
  | tbl ps => exact ⟨_, (show h.get? a = some _ from x)⟩
  | met f y => exact ⟨_, (show h.get? a = some _ from x)⟩
  | ext φ => obtain ⟨_, ⟨_, e⟩, _⟩ := x; exact ⟨_, e⟩
theorem landE {B h5 : Heap} {a0 : Value} {oe : Obj} (I : L2.Inv X pins σ H s) (os : s'.os = s.os) (bare : AllBare s'.gens) (un : Un (frs X.stack) [] H H' s.heap s'.heap) (b2 : HOk X.prog X.w H' B)
    (b3 : ∀ b o, s.heap.get? b = some o → H b = none → b ∉ frs X.stack → B.get? b = some o) (b4 : ∀ b o, s.heap.get? b = some o → b ∉ frs X.stack → ∃ o', B.get? b = some o')
    (fl : Heap.FlyingW B X.stack e (.ref C) a0 h5) (up : s'.heap.UpToSlots h5) (he : h5.get? e = some oe) : L2.Inv X pins σ (upd H' e (.frz oe (.own e))) { s' with heap := h5 } := by
  have n0 : ∀ b : Addr, b ∉ ([] : List Addr) := fun b z => by cases z
  have nH : H' e = none := by
    cases q : H' e with
    | none => rfl
    | some u =>
      obtain ⟨ob, z⟩ := obj_get (b2 e u q)
      rw [fl.2.1] at z
      cases z
  have nS : s.heap.get? e = none := by
    cases q : s.heap.get? e with
    | none => rfl
    | some o =>
      exfalso
      by_cases hb : e ∈ frs X.stack
      · obtain ⟨_, o', e2, nd⟩ := fl.2.2.1.mem hb
        obtain ⟨o3, vs, _, _, _, z1, _, z2, _⟩ := fl.2.2.2
        rw [z1] at e2
        cases e2
        exact nd _ z2
      · obtain ⟨o', z⟩ := b4 e o q hb
        rw [fl.2.1] at z
        cases z
  have keepu : ∀ {b : Addr} {u : HO}, H' b = some u → upd H' e (.frz oe (.own e)) b = some u := fun z => by rw [upd_ne (ne_of_none z nH)]; exact z
  have slot : ∀ b o, s.heap.get? b = some o → H b = none → b ∈ frs X.stack → ∃ sl, h5.get? b = some { o with slots := sl } := fun b o e n hb => by
    obtain ⟨sl, e1⟩ := un.slot b o e n hb (n0 b)
    obtain ⟨_, o', e2, nd⟩ := I.stack.mem hb
    rw [e] at e2
    cases e2
    obtain ⟨sl2, e3⟩ := up b _ e1 nd
    exact ⟨sl2, e3⟩
  have un5 : Un (frs X.stack) [] H (upd H' e (.frz oe (.own e))) s.heap h5 := by
    refine ⟨fun b o e n nf _ => fl.1 b o (b3 b o e n nf), fun b o e n hb _ => slot b o e n hb, fun b o z n hx => ?_, fun b o e _ => ?_, fun b xs z => keepu (un.tups b xs z), fun b o u z => keepu (un.frzs b o u z), fun b ps z => ?_⟩
    · rw [upd_ne (fun y => by subst y; rw [nS] at z; cases z)]
      exact un.free b o z n hx
    · by_cases hb : b ∈ frs X.stack
      · obtain ⟨sl, z⟩ := slot b o e (I.stkFree b hb) hb
        exact ⟨_, z⟩
      · obtain ⟨o', z⟩ := b4 b o e hb
        exact ⟨o', fl.1 b o' z⟩
    · obtain ⟨more, y⟩ := un.tbls b ps z
      exact ⟨more, keepu y⟩
  have hok : HOk X.prog X.w (upd H' e (.frz oe (.own e))) h5 := fun b u z => by
    by_cases hb : b = e
    · subst hb
      rw [upd_same] at z
      cases z
      exact ⟨he, _, he⟩
    · rw [upd_ne hb] at z
      exact ((b2.kept fl.1) b u z).stay (fun _ _ _ y => y) (fun _ y => keepu y) (fun _ _ y => keepu y)
  have ce : CE X.stack X.prog X.w H s (fun _ H2 => H2 = upd H' e (.frz oe (.own e))) Value.none { s' with heap := h5 } := ⟨.non, _, os, bare, un5, hok, rfl, rfl⟩
  obtain ⟨v, H2, J, _, z⟩ := I.after ce
  subst z
  exact J
theorem unbind_ok {M : Model} {A : Around} {E : Value → Shared → Prop} {i : Nat} {x : Str} {v : V} {Q : Unit → Shared → Prop} (I : L2.Inv X pins σ H s) (hN : X.N.Nodup) (hi : X.N[i]? = some x) (hk : X.env.scope.names.lookup x = some .local) (hv : σ[i]? = some (some v))
    (h : ∀ s', L2.Inv X pins (σ.set i none) H s' → Q () s') : wpAny M A (unbindName X.env x) Q E s := by
  obtain ⟨m, hn, hl⟩ := id I.loc
  have hcls : (X.env.scope.kind == .class || (X.env.scope.kind == .module && X.env.locals != X.env.globals)) = false := by rw [I.ok.kind]; rfl
  have hiσ : i < σ.length := by rw [I.len]; exact (List.getElem?_eq_some_iff.mp hi).1
  have cne := I.cne
  obtain ⟨u, _, lk⟩ := hl i x v hi hv (.inl hk)
  have mu : m x = some u := by
    rcases lk with ⟨_, z⟩ | ⟨z, _⟩
    · exact z
    · have z' : X.env.scope.names.lookup x = some .cell ∨ X.env.scope.names.lookup x = some .free := z
      rw [hk] at z'
      rcases z' with z' | z' <;> cases z'
  refine wpAny_unbindName_local hk hn mu hcls fun h' u' hn' hs => ?_
  obtain ⟨oL, _, _, hoL, _⟩ := id hn
  have old : ∀ {b : Addr} {o : Obj}, X.s₀.heap.get? b = some o → b ≠ X.env.locals := fun z => Nat.ne_of_lt (Nat.lt_of_lt_of_le (Heap.lt_size z) I.ok.above)
  refine h _ ⟨I.ok, I.os, I.bare, ⟨fun b o e n hb hx => (hs.2 b (old e)).trans (I.base.keep b o e n hb hx), fun b o e n hb hx => ?_, I.base.free, fun b o e hx => ?_, I.base.tups, I.base.frzs, I.base.tbls⟩, ⟨_, hn', fun j y v' e1 e2 e3 => ?_⟩, fun y c e => ?_, I.free, I.freeC, fun p hp => ?_, fun b ob z => ?_, by simpa using I.len⟩
  · obtain ⟨sl, e1⟩ := I.base.slot b o e n hb hx
    exact ⟨sl, (hs.2 b (old e)).trans e1⟩
  · obtain ⟨o', e1⟩ := I.base.there b o e hx
    exact ⟨o', (hs.2 b (old e)).trans e1⟩
  · by_cases hj : j = i
    · subst hj
      rw [List.getElem?_set_self hiσ] at e2
      cases e2
    · rw [List.getElem?_set_ne (Ne.symm hj)] at e2
      obtain ⟨u', r', q⟩ := hl j y v' e1 e2 e3
      refine ⟨u', r', ?_⟩
      rcases q with ⟨k, e⟩ | ⟨k, c, e, z⟩
      · refine .inl ⟨k, ?_⟩
        have : y ≠ x := fun e => hj (nodup_ix hN e1 (e ▸ hi))
        simp [this, e]
      · exact .inr ⟨k, c, e, z.sameBut hs (cne y c e)⟩
  · obtain ⟨w', z⟩ := I.cell y c e
    exact ⟨w', z.sameBut hs (cne y c e)⟩
  · obtain ⟨e, n, ne, nf, d⟩ := I.pin p hp
    exact ⟨(hs.2 p.1 ne).trans e, n, ne, nf, d⟩
  · refine (I.hok b ob z).stay (fun c w' hc q => (hs.2 c ?_).trans q) (fun _ q => q) fun _ _ q => q
    rintro rfl
    rcases hc with rfl | hc
    · rw [I.free] at z; cases z
    · rw [I.free] at hc; cases hc
end
end XR
namespace XR
open PySem PySem.Spec PyProof.Rows L2 FL
abbrev tr (X : Cx) (H : Hp) (pins : List (Addr × Obj)) (E : Value → Shared → Prop) : Cx := { X with H₀ := H, pn := X.pn ++ pins, xe := E }
abbrev sui (X : Cx) (e : Addr) : Cx := { X with A := X.A.mark (some (.ref e)), calm := false, xe := fun _ _ => False }
section
variable {X : Cx} {pins pins' : List (Addr × Obj)} {σ : L2.St} {H : Hp} {s : Shared} {E : Value → Shared → Prop} {e : Addr}
theorem tr_in (I : L2.Inv X pins σ H s) (sm : Same X.H₀ H) : L2.Inv (tr X H pins E) [] σ H s := by
  have J := Inv.from I (fun b z => by
    cases hb : X.H₀ b with
    | none => rfl
    | some u => rw [sm b u hb] at z; cases z)
  exact ⟨⟨J.ok.mod, J.ok.kind, J.ok.glob, J.ok.blt, J.ok.above, J.ok.inj, J.ok.has, J.ok.cab, J.ok.hd, J.ok.frames, J.ok.stk, J.ok.exf, J.ok.bs, J.ok.bsz, J.ok.noex, J.ok.exfs, J.ok.funs, J.ok.frf⟩, J.os, J.bare, J.base, J.loc, J.cell, J.free, J.freeC, fun p hp => J.pin p (by simpa using hp), J.hok, J.len⟩
theorem tr_out {σ' : L2.St} {H' : Hp} {s' : Shared} (I : L2.Inv X pins σ H s) (J : L2.Inv (tr X H pins E) pins' σ' H' s') : L2.Inv X pins σ' H' s' :=
  Inv.back I (X := X) ⟨⟨J.ok.mod, J.ok.kind, J.ok.glob, J.ok.blt, J.ok.above, J.ok.inj, J.ok.has, J.ok.cab, J.ok.hd, J.ok.frames, J.ok.stk, J.ok.exf, J.ok.bs, J.ok.bsz, J.ok.noex, J.ok.exfs, J.ok.funs, J.ok.frf⟩, J.os, J.bare, J.base, J.loc, J.cell, J.free, J.freeC, fun p hp => J.pin p (List.mem_append_left _ hp), J.hok, J.len⟩
theorem sui_in (I : L2.Inv X pins σ H s) : L2.Inv (sui X e) pins σ H s :=
  ⟨⟨I.ok.mod, I.ok.kind, I.ok.glob, I.ok.blt, I.ok.above, I.ok.inj, I.ok.has, I.ok.cab, fun z => (nomatch z), I.ok.frames, I.ok.stk, I.ok.exf, I.ok.bs, I.ok.bsz, I.ok.noex, I.ok.exfs, I.ok.funs, I.ok.frf⟩, I.os, I.bare, I.base, I.loc, I.cell, I.free, I.freeC, I.pin, I.hok, I.len⟩
theorem sui_out {σ' : L2.St} {H' : Hp} {s' : Shared} (J : L2.Inv X pins σ H s) (I : L2.Inv (sui X e) pins σ' H' s') : L2.Inv X pins σ' H' s' :=
  ⟨J.ok, I.os, I.bare, I.base, I.loc, I.cell, I.free, I.freeC, I.pin, I.hok, I.len⟩
end
def Hnd (X : Cx) (hs : List ExceptHandler) (C : Addr) (ρ : Ro) (P : Po) : Prop :=
  ∀ (pins : List (Addr × Obj)) (σ : L2.St) (H : Hp) (s : Shared) (D : Ends) (e : Addr) (B : Heap) (a0 : Value), Heap.FlyingW B X.stack e (.ref C) a0 s.heap →
    (∀ h', Heap.FlyingW B X.stack e (.ref C) a0 h' → s.heap.UpToSlots h' → L2.Inv X pins σ H { s with heap := h' }) →
    (∀ h' oe, Heap.FlyingW B X.stack e (.ref C) a0 h' → s.heap.UpToSlots h' → h'.get? e = some oe → L2.Inv X pins σ (upd H e (.frz oe (.own e))) { s with heap := h' }) → H e = none → tPo X ρ P D σ H →
    wpAny (model X.prog X.w) X.A (handleBy (.ref e) X.env hs) (SP X pins D) X.xe s
section
variable {X : Cx} {ρ : Ro} {pos : Pos} {rest body : List Stmt} {P : Po} {h0 : ExceptHandler} {hs : List ExceptHandler} {C C' : Addr}
theorem up_refl (h : Heap) : h.UpToSlots h := fun b o e _ => ⟨o.slots, e⟩
theorem do_tryX {M : Ro → Prop} (hst : X.stack = X.env :: X.outer) (hf : X.env.frame = some X.env.locals) (hz : ∀ (i : Nat) (d : D), ρ[i]? = some (some d) → Fz d)
    (hb : ∀ (H : Hp) (pins : List (Addr × Obj)) (E : Value → Shared → Prop), ThrOn (tr X H pins E) C ρ → Do (tr X H pins E) body ρ { nx := fun _ => False, rt := fun _ => False })
    (hh : Hnd X (h0 :: hs) C ρ { P with nx := M }) (h2 : ∀ ρ', M ρ' → Do X rest ρ' P) : Do X (.Try body (h0 :: hs) [] [] pos :: rest) ρ P := by
  refine do_seq (M := M) ?_ h2
  intro pins s σ H D I q
  refine wpAny_Try_except ?_
  have fr : X.A.frames = some (X.env :: X.outer) := by rw [← hst]; exact I.ok.frames
  have nmu : ∀ a, ¬ Mu ρ a := fun a ⟨i, d, e1, e2⟩ => (hz i d e1).no_own e2
  refine wpAny_mono (hb H pins (fun e s1 => wpAny (model X.prog X.w) X.A (noteFrame e X.env) (fun _ s2 => wpAny (model X.prog X.w) X.A (setFlight e none) (fun _ s3 => wpAny (model X.prog X.w) X.A (handleBy e X.env (h0 :: hs)) (SP X pins D) X.xe s3) X.xe s2) X.xe s1) ?_ [] s σ H { nx := fun _ _ => False, rt := fun _ _ => False } (tr_in I q.1.same) ⟨⟨Same.refl _, q.1.len, fun i d e => let ⟨v, a, b, _⟩ := q.1.val i d e; ⟨v, a, b, .inl (hz i d e)⟩, fun a m => (nmu a m).elim⟩, fun _ _ _ _ _ z => z.elim, fun _ _ _ _ _ _ z => z.elim, fun _ _ _ _ _ z => z.elim, fun _ _ _ _ _ z => z.elim⟩) (fun f s1 z => ?_) fun _ _ z => z
  · intro pins' σ' H1 s1 H' e s' I1 r sm F
    obtain ⟨B, a0, b1, b2, b3, b4, fl⟩ := F.ex
    have I2 := tr_out I I1
    have un : Un (frs X.stack) [] H1 H' s1.heap s'.heap := F.un
    have b3' : ∀ b o, s1.heap.get? b = some o → H1 b = none → b ∉ frs X.stack → B.get? b = some o := b3
    have b4' : ∀ b o, s1.heap.get? b = some o → b ∉ frs X.stack → ∃ o', B.get? b = some o' := b4
    have sH : Same H H' := fun b o z => sm b o (r.same b o z)
    have toH : ∀ {ρ2 : Ro} {H2 : Hp}, Go ρ H' ρ2 H2 → Go ρ H ρ2 H2 := fun g => ⟨fun b o z n => g.kept b o (sH b o z) n, fun a m => (g.mu a m).imp id fun z => by
      cases hb : H a with
      | none => rfl
      | some u => rw [sH a u hb] at z; cases z⟩
    have nE : H' e = none := by
      cases z : H' e with
      | none => rfl
      | some u =>
        obtain ⟨ob, y⟩ := obj_get (b2 e u z)
        rw [fl.2.1] at y
        cases y
    refine wpAny_looks_onW fr hf (by rw [← hst]; exact fl) fun h4 held4 up4 => ?_
    refine wpAny_landsW held4 fun h5 fl5 up5 => ?_
    rw [← hst] at fl5
    refine hh pins σ' H' { s' with heap := h5 } D e B a0 fl5 (fun h6 fl6 up6 => land (s' := s') I2 F.os F.bare un b2 b3' b4' fl6 ((up4.trans up5).trans up6)) (fun h6 oe fl6 up6 hoe => landE (s' := s') I2 F.os F.bare un b2 b3' b4' fl6 ((up4.trans up5).trans up6) hoe) nE ?_
    refine ⟨⟨fun b o z => sH b o (q.1.same b o z), r.len, fun i d z => ?_, fun a m => (nmu a m).elim⟩, fun σ2 H2 ρ2 g => q.2.1 σ2 H2 ρ2 (toH g), q.2.2.1, fun σ2 H2 ρ2 g => q.2.2.2.1 σ2 H2 ρ2 (toH g), fun σ2 H2 ρ2 g => q.2.2.2.2 σ2 H2 ρ2 (toH g)⟩
    obtain ⟨v, a, b, _⟩ := r.val i d z
    exact ⟨v, a, b.mono sm, .inl (hz i d z)⟩
  · cases f with
    | next => obtain ⟨_, _, _, z⟩ := z; exact z.elim
    | brk => obtain ⟨_, _, _, z⟩ := z; exact z.elim
    | cont => obtain ⟨_, _, _, z⟩ := z; exact z.elim
    | ret u => obtain ⟨_, _, _, _, _, z⟩ := z; exact z.elim
end
end XR
namespace XR
open PySem PySem.Spec PyProof.Rows L2 FL
section
variable {X : Cx} {ρ : Ro} {pos np : Pos} {P : Po} {hs : List ExceptHandler} {C : Addr} {c : Value} {x : Str} {b₀ : Stmt} {suite body : List Stmt} {nm : Option Str}
theorem fly_ty {B h : Heap} {l : List Env} {e : Addr} {a0 : Value} {M : Model} (fl : Heap.FlyingW B l e (.ref C) a0 h) : PySem.W.Looks M h (typeOf (.ref e)) (.ref C) := by
  obtain ⟨ob, hob, hc⟩ := fl.there
  rw [← hc]
  exact (PySem.W.Looks.ld hob).andThen .now
theorem hnd_as (i : Nat) {n : Str} (hm : X.mg x = some c) (he : PySem.W.exmOne X.K (.ref C) c = some true) (h : ∀ e, Do (sui X e) (b₀ :: suite) (ρ.set i (some (.exn C))) { nx := fun _ => False, rt := P.rt }) (hN : X.N.Nodup) (hi : X.N[i]? = some n := by rfl) (hk : X.env.scope.names.lookup n = some .local := by rfl)
    (hg : Gl X x := by rfl) (hd : (x == ("__debug__" : Str)) = false := by decide) : Hnd X (.ExceptHandler (some (.Name x np)) (some n) (b₀ :: suite) pos :: hs) C ρ P := by
  intro pins σ H s D e B a0 fl inv invE nE q
  have J : L2.Inv X pins σ H s := inv s.heap fl (up_refl _)
  refine wpAny_handleBy_cons (codeAny_handlers_test (ld_glob (X := sui X e) (sui_in J) hg hm ?_ hd)) (by intro z; cases z)
  refine PySem.W.exm_one J.kIn (fly_ty fl) he _ _ _ _ (fun _ _ z => z) ?_
  refine codeAny_handlers_suite_as ?_
  refine lands_againW fl fun h6 fl6 up6 => ?_
  obtain ⟨oe, hoe, hc⟩ := fl6.there
  have J6 := invE h6 oe fl6 up6 hoe
  have sm : Same H (upd H e (.frz oe (.own e))) := fun b u z => by rw [upd_ne (ne_of_none z nE)]; exact z
  refine store_ok (X := sui X e) (sui_in J6) hN hi (.inl hk) (v := .ref e) rfl (fun s7 J7 => ?_) (.inr hk)
  have r7 : RelS X X.H₀ (upd H e (.frz oe (.own e))) (σ.set i (some (.ref e))) (ρ.set i (some (.exn C))) := (q.1.mono sm).set (.exn upd_same hc) i (.inl (.exn C)) (fun a z => by cases z)
  refine wpAny_mono (h e pins s7 _ _ { nx := fun _ _ => False, rt := D.rt, bk := fun _ _ => False, ct := fun _ _ => False } J7 ⟨⟨r7.same, r7.len, r7.val, r7.own⟩, fun _ _ _ _ _ z => z.elim, q.2.2.1, fun _ _ _ _ _ z => z.elim, fun _ _ _ _ _ z => z.elim⟩) (fun f s8 z => ?_) fun _ _ z => False.elim z
  cases f with
  | next => obtain ⟨_, _, _, y⟩ := z; exact y.elim
  | brk => obtain ⟨_, _, _, y⟩ := z; exact y.elim
  | cont => obtain ⟨_, _, _, y⟩ := z; exact y.elim
  | ret u =>
    obtain ⟨v, σ', H2, J8, rv, hq⟩ := z
    have J8' := sui_out J J8
    have hl : i < σ'.length := by rw [J8'.len]; exact (List.getElem?_eq_some_iff.mp hi).1
    refine wpAny_bind (wpAny_bindName (store_ok J8' hN hi (.inl hk) (v := .non) rfl (fun s9 J9 => ?_) (.inr hk)))
    refine wpAny_onRaise (unbind_ok J9 hN hi hk (by rw [List.getElem?_set_self hl]) fun s10 J10 => ⟨v, _, H2, J10, rv, hq⟩)
theorem exm_own {K : PySem.W.Frag} {C' : Addr} {b : Bool} (hb : PySem.W.mroIn K C' (.type "BaseException") = some true) (t : PySem.W.typeIn K (.ref C') = some (.type "type")) (h : PySem.W.mroIn K C (.ref C') = some b) : PySem.W.exmOne K (.ref C) (.ref C') = some b := by
  have i : (PySem.W.clsIn K C').isSome = true := by
    unfold PySem.W.mroIn at hb
    cases q : PySem.W.clsIn K C' with
    | none => rw [q] at hb; cases hb
    | some _ => rfl
  unfold PySem.W.exmOne
  rw [if_pos (by rw [show PySem.W.subIn K (.ref C') (.type "BaseException") = some true from hb]; rfl)]
  show (if ((PySem.W.clsIn K C').isSome && PySem.W.typeIn K (.ref C') == some (.type "type")) = true then PySem.W.subIn K (.ref C) (.ref C') else none) = _
  rw [i, t, if_pos (by decide)]
  exact h
end
end XR
namespace XR
open PySem PySem.Spec PySem.Calls PyProof.Rows PySem.W PySem.Builtin PySem.Builtin.ObjectAttr PySem.Builtin.Getset_descriptor
section
variable {prog : Program} {w : World} {A : Around} {E : Value → Shared → Prop} {s : Shared} {K : Frag} {x D : Addr}
abbrev Of (h : Heap) (x D : Addr) : Prop := ∃ ox, h.get? x = some ox ∧ ox.cls = .ref D
theorem of_ty {M : Model} {h : Heap} (I : Of h x D) : Looks M h (typeOf (.ref x)) (.ref D) := by
  obtain ⟨ox, hx, hc⟩ := I
  rw [← hc]
  exact (Looks.ld hx).andThen .now
theorem of_find {M : Model} {h : Heap} (X : K.In h) (ha : findIn K (.ref D) "__class__" = some (some (.builtin "object.__class__")))
    (hn : specialIn K (.builtin "object.__class__") "__get__" = some (some (.builtin "getset_descriptor.__get__"))) (htk : takesIn K (.builtin "object.__class__") = some true) : Looks M h (find (.ref x) (.ref D) "__class__") (.bind (.builtin "getset_descriptor.__get__") (.builtin "object.__class__")) := by
  have q1 := looks_findIn (M := M) X ha
  have q2 : Looks M h (getOf (some (.builtin "object.__class__"))) (some (.builtin "getset_descriptor.__get__")) := looks_specialIn X hn
  have q3 := looks_takesIn (M := M) X htk
  refine q1.andThen (q2.andThen ?_)
  have q4 : Looks M h (dataDescriptor? (some (.builtin "object.__class__")) (some (.builtin "getset_descriptor.__get__"))) (some (.builtin "getset_descriptor.__get__", .builtin "object.__class__")) := q3.andThen .now
  exact q4.andThen (Looks.tag .now)
theorem of_get {s : Shared} {tp : Value} {R : Result → Shared → Prop} (X : K.In s.heap) (I : Of s.heap x D) (hm : mroIn K D (.type "object") = some true) (h : R (.ok (.ret (.ref D))) s) :
    codeAny (model prog w) A (.call (.builtin "getset_descriptor.__get__") ⟨[.builtin "object.__class__", .ref x, tp], []⟩) R s := by
  obtain ⟨h1, g1, d1, t1, o1⟩ := s
  have q0 := of_ty (M := model prog w) I
  have q1 := looks_mroIn (M := model prog w) X hm
  refine codeAny_call_builtin KF.slot_gs.plain KF.entry_gs (KF.slot_gs.check _ _ _ _ _ _ _ _ KF.type_class
    (KF.args_gs _ _ _) ?_)
  unfold Builtin.«getset_descriptor.__get__»
  unfold descrGet
  rw [dga_obj]
  refine wpAny_bind (wpAny_pure ?_)
  unfold descrGetter descrCheckInstance
  unfold descrNameAndClass isInstance
  simp only [KF.owner_class]
  repeat lk
  refine ⟨Code.quiet_builtin _ (by decide +kernel),
    codeAny_builtin KF.entry_class ?_⟩
  unfold Builtin.«object.__class__»
  unfold shownTypeOf
  repeat lk
  exact h
structure ExF (K : Frag) (D : Addr) : Prop where
  ga : findIn K (.ref D) "__getattribute__" = some (some (.builtin "BaseException.__getattribute__"))
  gr : findIn K (.ref D) "__getattr__" = some none
  at_ : findIn K (.ref D) "__class__" = some (some (.builtin "object.__class__"))
  sp : specialIn K (.builtin "object.__class__") "__get__" = some (some (.builtin "getset_descriptor.__get__"))
  tk : takesIn K (.builtin "object.__class__") = some true
  ob : mroIn K D (.type "object") = some true
  be : mroIn K D (.type "BaseException") = some true
theorem ExF.cls (f : ExF K D) : (clsIn K D).isSome = true := by
  have o := f.ob
  unfold mroIn at o
  cases q : clsIn K D with
  | none => rw [q] at o; cases o
  | some _ => rfl
theorem exc_check {M : Model} {h : Heap} {g : Array GenState} {d : Drawn} {t : Nat} {os : OsState} {nameV : Value} {Q : Unit → Shared → Prop} (X : K.In h) (I : Of h x D) (f : ExF K D) (hq : Q () ⟨h, g, d, t, os⟩) : wpAny M A (checkBuiltinCall "BaseException.__getattribute__" ⟨[.ref x, nameV], []⟩) Q E ⟨h, g, d, t, os⟩ := by
  have k1 : builtinKind "BaseException.__getattribute__" = some .slot := by decide +kernel
  have k2 : splitId "BaseException.__getattribute__" = some ("BaseException", "__getattribute__") := by decide +kernel
  have k3 := PySem.F.args_bexc_ga (.ref x) nameV
  have k4 : Looks M h (isInstance (.ref x) (.type "BaseException")) true := (of_ty (M := M) I).andThen (looks_subIn X f.be)
  simp only [checkBuiltinCall, k1, k2]
  refine wpAny_bind (k4.at ?_)
  repeat (first | exact hq | wp_step)
theorem exc_entry {h : Heap} {g : Array GenState} {d : Drawn} {t : Nat} {os : OsState} {tk : Tok} {Q : PySem.Fin → Shared → Prop} (X : K.In h) (I : Of h x D) (f : ExF K D)
    (hq : Q (.done (.ret (.ref D))) ⟨h, g, d, t, os⟩) : wpAny (model prog w) A (Builtin.«object.__getattribute__» ⟨[.ref x, .str "__class__" tk], []⟩) Q E ⟨h, g, d, t, os⟩ := by
  have k0 := of_ty (M := model prog w) I
  have k1 := of_find (M := model prog w) (x := x) X f.at_ f.sp f.tk
  refine wpAny_bind (wpAny_pure (wpAny_bind (wpAny_pure (wpAny_bind (k0.at (wpAny_bind (k1.at ?_)))))))
  show wpAny _ _ (holding [Value.builtin "object.__class__"] (call (.builtin "getset_descriptor.__get__") [.builtin "object.__class__", .ref x, .ref D]) >>= ret) _ _ _
  exact wpAny_bind (wpAny_holding (wpAny_call (of_get (s := ⟨h, g, d, t, os⟩) X I f.ob (wpAny_pure hq))))
theorem exc_class {Q : Option Value → Shared → Prop} (X : K.In s.heap) (I : Of s.heap x D) (f : ExF K D) (h : Q (some (.ref D)) { s with toks := s.toks + 1 }) : wpAny (model prog w) A (getAttr? (.ref x) "__class__") Q E s := by
  obtain ⟨h1, g1, d1, t1, o1⟩ := s
  have k0 := of_ty (M := model prog w) I
  have k1 := looks_findIn (M := model prog w) X f.ga
  have k2 := looks_findIn (M := model prog w) X f.gr
  unfold getAttr? getAttrBy? getAttrBy
  refine wpAny_bind (wpAny_mkText (wpAny_bind (wpAny_attempt (wpAny_holding (wpAny_bind (k0.at (wpAny_bind (k1.at ?_))))))))
  have k3 : (Value.builtin "BaseException.__getattribute__" == Value.builtin "object.__getattribute__") = false := by decide +kernel
  dsimp only
  rw [k3, Bool.and_false, if_neg (by decide)]
  unfold getAttrByItsOwn
  refine wpAny_bind (show wpAny _ _ (typeLookup (.ref D) "__getattr__") _ _ _ from k2.at ?_)
  refine wpAny_bind (wpAny_attempt (wpAny_holding ?_))
  show wpAny _ _ (boundAndCalled (.builtin "BaseException.__getattribute__") (.ref x) (.str "__class__" t1)) _ _ _
  have k4 := PySem.F.excAttr_ValueError.ga.bind (.ref x)
  have fin : codeAny (model prog w) A (.call (.builtin "BaseException.__getattribute__") ⟨[.ref x, .str "__class__" t1], []⟩) (fun r s' => r = .ok (.ret (.ref D)) ∧ s' = ⟨h1, g1, d1, t1 + 1, o1⟩) ⟨h1, g1, d1, t1 + 1, o1⟩ :=
    codeAny_call_builtin PySem.F.excAttr_ValueError.ga.plain PySem.F.entry_bexc_ga (exc_check X I f (exc_entry X I f ⟨rfl, rfl⟩))
  unfold boundAndCalled
  rw [k4]
  refine wpAny_bind (wpAny_pure ?_)
  refine wpAny_call (codeAny_mono fin fun r s' z => ?_)
  obtain ⟨rfl, rfl⟩ := z
  exact handed_on rfl (wpAny_pure h)
theorem cls_obj {h : Heap} (X : K.In h) (f : ExF K D) : ∃ c' d' cd sl, h.get? D = some ⟨c', d', .cls cd, sl⟩ := by
  obtain ⟨cd0, q⟩ := Option.isSome_iff_exists.mp f.cls
  unfold clsIn at q
  split at q
  · rename_i c' d' cd' sl' ho
    exact ⟨c', d', cd', sl', X _ _ ho⟩
  · cases q
theorem kitx_exc (f : ExF K D) : KitX K (.ref x) (.ref D) (fun h => Of h x D) where
  ty := fun _ _ _ I => of_ty I
  it := fun _ _ X _ => by
    obtain ⟨_, _, _, _, o⟩ := cls_obj X f
    intro A1 Q1 E1 s1 k1 q1
    unfold isType
    unfold loadHead
    exact wpAny_bind (wpAny_loadPart (k1 _ _ o) (wpAny_pure q1))
  ne := fun h tp dd its n sl X htp => Bool.eq_false_iff.mpr fun q => by
    obtain ⟨_, _, _, _, o⟩ := cls_obj X f
    cases beq_iff_eq.mp q
    rw [o] at htp
    cases htp
  ca := fun X I k => exc_class X I f k
end
end XR
namespace XR
open PySem PySem.Spec PyProof.Rows L2 FL
theorem call_isiE {X : Cx} {C : Addr} {k : Bool} {cv : V} {c : Value} (f : ExF X.K C) (hc : ∀ u, RelV cv u → u = c) (hk : PySem.W.kitOne X.K (.ref C) c = some k) :
    CallR X (.builtin "isinstance") (fun vs H Q => ∃ v, vs = [v, cv] ∧ Is X.K H v (.exn C) ∧ Q (.bl k) H) := by
  intro pins s σ H xs us Q I r h
  obtain ⟨v, rfl, h, q⟩ := h
  obtain ⟨u, w', rfl, rx, ry⟩ := vals2 r
  obtain rfl := hc _ ry
  obtain ⟨a, o, rfl, e1, e2⟩ := h.exn_inv
  obtain rfl : u = Value.ref a := rx
  obtain ⟨e3, _⟩ := (show ObjOk X.prog X.w H s.heap a (.frz o (.own a)) from I.hok a _ e1)
  exact PySem.W.kia_one (kitx_exc f) I.kIn ⟨o, e3, e2⟩ hk (fun z => nomatch z) fun tk => ⟨.bl k, H, I.tok tk, rfl, q⟩
section
variable {X : Cx} {a : Expr} {ρ : Ro} {pos : Pos} {C C' : Addr} {k : Bool}
theorem ev_isiE {x : Str} {p p2 : Pos} (hm : X.mg "isinstance" = none) (ha : Ev X a ρ (.exn C)) (hmC : X.mg x = some (.ref C')) (f : ExF X.K C) (hk : PySem.W.kitOne X.K (.ref C) (.ref C') = some k)
    (hg : Gl X "isinstance" := by rfl) (hgT : Gl X x := by rfl) (hd : (x == ("__debug__" : Str)) = false := by decide)
    (he : starEach [a, .Name x p2] X.env = [(false, eval a X.env), (false, eval (.Name x p2) X.env)] := by rfl) (hb : (backTo pos (starEach [.Name x p2] X.env)).any (·.1) = false := by rfl) :
    Ev X (.Call (.Name "isinstance" p) [a, .Name x p2] [] pos) ρ (.bl k) :=
  ev_callB (call_isiE (cv := .ref C') f (fun u z => z) hk) hm (by decide +kernel) (ea_cons ha (ea_cons (d := .ob C') (PE.imp (pe_glob hgT hmC (v := .ref C') rfl hd) fun _ H _ ⟨_, q⟩ => q _ H (Same.refl H) (.ob C')) ea_nil) he) (fun vs H Q h q => by
    obtain ⟨v, v', rfl, h1, h2⟩ := two_inv h
    cases h2.ob_inv
    exact ⟨v, rfl, h1, q _ H (Same.refl H) (.bl k)⟩) hg (by decide) (by decide) he hb
end
end XR
namespace XR
open PySem PySem.Spec PyProof.Rows L2 FL
theorem kit_ve {K : PySem.W.Frag} {C : Addr} {b : Bool} (h : PySem.W.mroIn K C (.type "ValueError") = some b) : PySem.W.kitOne K (.ref C) (.type "ValueError") = some b := by
  show (if (Value.ref C == Value.type "ValueError") = true then some true else PySem.W.kitCls K (.ref C) (.type "ValueError")) = some b
  rw [if_neg (by intro z; cases beq_iff_eq.mp z)]
  show (if PySem.W.kitMeta "ValueError" = true then PySem.W.subIn K (.ref C) (.type "ValueError") else none) = some b
  rw [if_pos (by decide +kernel)]
  exact h
theorem obs_inv {K : PySem.W.Frag} {H : Hp} : ∀ {cs : List Addr} {xs : List V}, IsAll K H xs (cs.map D.ob) → xs = cs.map V.ref
  | [], _, h => by cases h; rfl
  | c :: cs, _, h => by
    cases h with
    | cons a b =>
      cases a.ob_inv
      rw [obs_inv b]
      rfl
theorem refs_inv : ∀ {cs : List Addr} {us : List Value}, Vals (cs.map V.ref) us → us = cs.map Value.ref
  | [], _, h => by cases h; rfl
  | c :: cs, _, h => by
    cases h with
    | cons a b =>
      have a' : _ = Value.ref c := a
      rw [a', refs_inv b]
      rfl
theorem call_isiET {X : Cx} {C : Addr} {k : Bool} {cs : List Addr} (f : ExF X.K C) (hk : PySem.W.kitAny X.K (.ref C) (cs.map Value.ref) = some k) :
    CallR X (.builtin "isinstance") (fun vs H Q => ∃ v tp, vs = [v, tp] ∧ Is X.K H v (.exn C) ∧ Is X.K H tp (.tup (cs.map D.ob)) ∧ Q (.bl k) H) := by
  intro pins s σ H xs us Q I r h
  obtain ⟨v, tp, rfl, h, h2, q⟩ := h
  obtain ⟨u, w', rfl, rx, ry⟩ := vals2 r
  obtain ⟨a, o, rfl, e1, e2⟩ := h.exn_inv
  obtain rfl : u = Value.ref a := rx
  obtain ⟨b, ys, rfl, g1, g2⟩ := h2.tup_inv
  obtain rfl : w' = Value.ref b := ry
  obtain ⟨its, r2, ⟨ob, p1, p2, n, p3⟩, _⟩ := I.tuple g1
  cases obs_inv g2
  cases refs_inv r2
  obtain ⟨e3, _⟩ := (show ObjOk X.prog X.w H s.heap a (.frz o (.own a)) from I.hok a _ e1)
  obtain ⟨oc, od, oda, osl⟩ := ob
  obtain rfl : oc = Value.type "tuple" := p2
  obtain rfl : oda = .seq (cs.map Value.ref).toArray n := p3
  exact PySem.W.kia_tup (kitx_exc f) I.kIn ⟨o, e3, e2⟩ p1 hk (fun z => nomatch z) fun tk => ⟨.bl k, H, I.tok tk, rfl, q⟩
section
variable {X : Cx} {a c : Expr} {ρ : Ro} {pos : Pos} {C : Addr} {k : Bool}
theorem ev_isiEB {x : Str} {U : String} {p p2 : Pos} (hm : X.mg "isinstance" = none) (ha : Ev X a ρ (.exn C)) (hmT : X.mg x = none) (hv : bootBuiltins x = some (.type U)) (f : ExF X.K C) (hk : PySem.W.kitOne X.K (.ref C) (.type U) = some k)
    (hg : Gl X "isinstance" := by rfl) (hgT : Gl X x := by rfl) (hn : x ≠ "__name__" := by decide) (hd : (x == ("__debug__" : Str)) = false := by decide)
    (he : starEach [a, .Name x p2] X.env = [(false, eval a X.env), (false, eval (.Name x p2) X.env)] := by rfl) (hb : (backTo pos (starEach [.Name x p2] X.env)).any (·.1) = false := by rfl) :
    Ev X (.Call (.Name "isinstance" p) [a, .Name x p2] [] pos) ρ (.bl k) :=
  ev_callB (call_isiE (cv := .ty U) f (fun u z => z) hk) hm (by decide +kernel) (ea_cons ha (ea_cons (ev_ty hmT hv hgT hn hd) ea_nil) he) (fun vs H Q h q => by
    obtain ⟨v, v', rfl, h1, h2⟩ := two_inv h
    cases h2.ty_inv
    exact ⟨v, rfl, h1, q _ H (Same.refl H) (.bl k)⟩) hg (by decide) (by decide) he hb
theorem ev_cls {x : Str} {C' : Addr} {p2 : Pos} (hm : X.mg x = some (.ref C')) (hg : Gl X x := by rfl) (hd : (x == ("__debug__" : Str)) = false := by decide) : Ev X (.Name x p2) ρ (.ob C') :=
  PE.imp (pe_glob hg hm (v := .ref C') rfl hd) fun _ H _ ⟨_, q⟩ => q _ H (Same.refl H) (.ob C')
theorem ev_isiET {cs : List Addr} {p : Pos} (hm : X.mg "isinstance" = none) (ha : Ev X a ρ (.exn C)) (hc : Ev X c ρ (.tup (cs.map D.ob))) (f : ExF X.K C) (hk : PySem.W.kitAny X.K (.ref C) (cs.map Value.ref) = some k)
    (hg : Gl X "isinstance" := by rfl) (he : starEach [a, c] X.env = [(false, eval a X.env), (false, eval c X.env)] := by rfl) (h1 : starEach [c] X.env = [(false, eval c X.env)] := by rfl) (hb : (backTo pos (starEach [c] X.env)).any (·.1) = false := by rfl) :
    Ev X (.Call (.Name "isinstance" p) [a, c] [] pos) ρ (.bl k) :=
  ev_callB (call_isiET f hk) hm (by decide +kernel) (ea_cons ha (ea_cons hc ea_nil h1) (he.trans (by rw [h1]))) (fun vs H Q h q => by
    obtain ⟨v, v', rfl, h1, h2⟩ := two_inv h
    exact ⟨v, v', rfl, h1, h2, q _ H (Same.refl H) (.bl k)⟩) hg (by decide) (by decide) (he.trans (by rw [h1])) hb
end
end XR
namespace XR
open PySem PySem.Spec PyProof.Rows L2 FL
def RsF (X : Cx) (e : Expr) (ρ : Ro) (C : Addr) : Prop := ∀ (pins : List (Addr × Obj)) (s : Shared) (σ : L2.St) (H : Hp) (Q : Value → Shared → Prop) (E : Value → Shared → Prop), L2.Inv X pins σ H s → RelE X H σ ρ →
  (∀ H1 s1 H2 a s', L2.Inv X pins σ H1 s1 → Same H H1 → Same H1 H2 → Flown X.prog X.w X.base X.stack H1 s1 C H2 a s' → E (.ref a) s') → wpAny (model X.prog X.w) X.A (eval e X.env) Q E s
section
variable {X : Cx} {e a b c : Expr} {es : List Expr} {ρ : Ro} {d : D} {ds : List D} {pos : Pos} {C : Addr}
theorem rsf_call {k : Nat} {x : Str} {Pf : List D → D → Prop} {Px : List D → Addr → Prop} {p : Pos} (hxe : X.xe = fun _ _ => False) (G : FnX X.prog X.w X.K X.mg X.base k x Pf Px) (hr : Room k X.A) (ha : EvA X (e :: es) ρ ds) (hp : Px ds C) (hg : Gl X x := by rfl) (hdb : (x == ("__debug__" : Str)) = false := by decide)
    (he : starEach (e :: es) X.env = (false, eval e X.env) :: starEach es X.env := by rfl) (hpl : (backTo pos (starEach es X.env)).any (·.1) = false := by rfl) : RsF X (.Call (.Name x p) (e :: es) [] pos) ρ C := by
  intro pins s σ H Q E I rs hE
  obtain ⟨f, fd, ps, F, hm, hk, hb⟩ := G
  refine wpAny_Call_Name_kw (ld_glob I hg hm ?_ hdb)
  refine PySem.W.callWith_K (h₀ := X.base) I.ok.mod.kin hk (wpAny_mono (ha pos pins s σ H (fun vs H1 => Same H H1 ∧ IsAll X.K H1 vs ds) I ⟨rs, fun vs H' s1 h1 => ⟨s1, h1⟩⟩) (fun us s1 ⟨vs, H1, I1, r, sm, hv⟩ => ⟨I1.kIn, ?_⟩) fun _ _ z => by rw [hxe] at z; exact z.elim) he hpl
  have sp : SpX X.K Pf Px vs H1 (fun _ _ => False) (fun c _ H' => c = .ref C ∧ Same H1 H') := ⟨ds, hv, .inr ⟨C, hp, fun H' s' => ⟨rfl, s'⟩⟩⟩
  have hl : (us ++ []).length = ps.length := by rw [List.append_nil, ← r.length]; exact F.len _ _ _ _ sp
  have hb1 := hb s1 us I1.kIn hl
  rw [List.append_nil] at hb1
  refine wpAny_call (codeAny_mono (F.run X.A X.stack s1 H1 ⟨us, []⟩ us vs (fun _ _ => False) (fun c _ H' => c = .ref C ∧ Same H1 H') hr I1.env0 hb1 r sp) fun r s' hq => ?_)
  cases r with
  | error e =>
    obtain ⟨C', H2, e', rfl, Fl, z, sm2⟩ := (show CXF X.prog X.w X.base X.stack H1 s1 (fun c _ H' => c = .ref C ∧ Same H1 H') e s' from hq)
    cases z
    exact hE H1 s1 H2 e' s' I1 sm sm2 Fl
  | ok fl =>
    cases fl with
    | ret u => obtain ⟨_, _, _, _, _, _, _, z⟩ := (show CE X.stack X.prog X.w H1 s1 (fun _ _ => False) u s' from hq); exact z.elim
    | next => exact False.elim hq
    | brk => exact False.elim hq
    | cont => exact False.elim hq
end
theorem note_same {x : Value} {env env' : Env} (h : env.frame = env'.frame) : noteFrame x env = noteFrame x env' := by
  unfold noteFrame PySem.frameOf
  rw [h]
section
variable {M : Model} {A : Around} {E : Value → Shared → Prop} {s : Shared} {env : Env}
def endX (M : Model) (A : Around) (E : Value → Shared → Prop) (Q : Value → Shared → Prop) (acc : Value) (cenv : Env) (r : Result) (s' : Shared) : Prop :=
  match r with
  | .ok _ => ∃ m, s'.heap.Ns cenv.locals m ∧ ∀ h', Heap.SameBut cenv.locals s'.heap h' → Q acc { s' with heap := h' }
  | .error x => ∃ m, s'.heap.Ns cenv.locals m ∧ ∀ h', Heap.SameBut cenv.locals s'.heap h' → wpAny M A (PySem.passOn "comprehension.variables-let-go" x cenv : Sem Value) (fun _ _ => False) E { s' with heap := h' }
theorem compX {e : Expr} {scope : Scope} {pos : Pos} {newAcc first : Sem Value} {g : Comprehension} {gs : List Comprehension} {cl : List (Str × Addr)} {Q : Value → Shared → Prop}
    (hcl : clausesOf e = g :: gs) (hs : ∀ x, foldedSetIterable g.iter env x = pure x) (hclos : closureFor scope env = pure cl) (hkind : scope.kind = .function) (hnames : ∀ x ∈ scope.names, x.2 = .local → scope.names.lookup x.1 = some .local)
    (h : wpAny M A first (fun x s₁ => wpAny M A (pyIter x) (fun it s₂ => wpAny M A newAcc (fun acc s₃ => wpAny M A (newFunctionEnv scope env.globals cl [] env.qual none .none (some env)) (fun cenv s₄ =>
        codeAny M A (.compStart e 0 it acc { cenv with scope := relabel scope env }) (endX M A E Q acc { cenv with scope := relabel scope env }) s₄) E s₃) E s₂) E s₁) E s) :
    wpAny M A (comprehension e scope env pos newAcc false first none) Q E s := by
  unfold comprehension
  rw [hclos, hcl]
  refine wpAny_bind (wpAny_mono h (fun x s₁ h₁ => wpAny_bind (wpAny_standAt (wpAny_bind (wpAny_of_eq (hs x) (wpAny_bind (wpAny_holding (wpAny_mono h₁ (fun it s₂ h₂ => wpAny_standIf (wpAny_bind (wpAny_mono h₂ (fun acc s₃ h₃ =>
    wpAny_bind (wpAny_pure (wpAny_bind (wpAny_mono h₃ (fun cenv s₄ h₄ => ?_) fun _ _ h' => h')))) fun _ _ h' => h'))) fun _ _ h' => h'))))))) fun _ _ h' => h')
  dsimp only
  have hv : ∀ y ∈ (scope.names.filter fun y => (y.2 == .local || y.2 == .cell) && y.1 != (".0" : Str)).reverse, y.2 = .local → Env.kindOf { cenv with scope := relabel scope env } y.1 = some .local :=
    fun y hy hl => lookup_relabel_local (hnames y (List.mem_filter.mp (List.mem_reverse.mp hy)).1 hl)
  refine wpAny_holding (wpAny_bind (wpAny_attempt (wpAny_holding (wpAny_run (codeAny_mono h₄ fun r s' hr => ?_)))))
  cases r with
  | ok f =>
    obtain ⟨m, hn, hr⟩ := (show ∃ m, s'.heap.Ns cenv.locals m ∧ ∀ h', Heap.SameBut cenv.locals s'.heap h' → Q acc { s' with heap := h' } from hr)
    exact wpAny_bind (wpAny_holding (wpAny_comp_letGo (cenv := { cenv with scope := relabel scope env }) hkind _ s' m hv hn fun h' m' _ hs' => wpAny_pure (hr h' hs')))
  | error y =>
    obtain ⟨m, hn, hr⟩ := (show ∃ m, s'.heap.Ns cenv.locals m ∧ ∀ h', Heap.SameBut cenv.locals s'.heap h' → wpAny M A (PySem.passOn "comprehension.variables-let-go" y { cenv with scope := relabel scope env } : Sem Value) (fun _ _ => False) E { s' with heap := h' } from hr)
    exact wpAny_bind (wpAny_holding (wpAny_comp_letGo (cenv := { cenv with scope := relabel scope env }) hkind _ s' m hv hn fun h' m' _ hs' => wpAny_mono (hr h' hs') (fun _ _ f => f.elim) fun _ _ z => z))
end
section
variable {prog : Program} {w : World} {A : Around} {R : Result → Shared → Prop} {s : Shared}
theorem loopX {elt target iter : Expr} {scope : Scope} {pos : Pos} {it acc : Value} {env : Env} (I : Nat → Shared → Prop) (E : Value → Shared → Prop) (hE : ∀ x s, E x s → notedBy (model prog w) A env (fun x s' => R (.error x) s') x s)
    (turn : ∀ n s, I n s → wpAny (model prog w) A (pyNext it) (fun r s₁ => match r with
      | none => R (.ok .next) s₁
      | some v => wpAny (model prog w) A (letOwnedTupleGo target it v) (fun _ s₁' => wpAny (model prog w) A (assign target env v) (fun _ s₂ =>
          wpAny (model prog w) A (eval elt env) (fun x s₄ => wpAny (model prog w) A (call (.builtin "list.append") [acc, x]) (fun _ s₅ => ∃ m, m < n ∧ I m s₅) (fun _ _ => False) s₄) E s₂) (fun _ _ => False) s₁') (fun _ _ => False) s₁) (fun _ _ => False) s)
    (n : Nat) (h : I n s) : codeAny (model prog w) A (.compLoop (.ListComp elt [⟨target, iter, [], 0⟩] scope pos) 0 it acc env) R s := by
  refine codeAny_loop rfl I (fun n s hI => ?_) n h
  show wpAny _ A ((compTurn (.ListComp elt [⟨target, iter, [], 0⟩] scope pos) 0 it acc env).onRaise (fun x => do noteFrame x env; theTreesLotGoes x)) _ _ s
  refine wpAny_noted ?_
  rw [compTurn_list]
  refine wpAny_bind (wpAny_standAt (wpAny_bind (wpAny_mono (turn n s hI) (fun r s₁ h₁ => ?_) fun _ _ h' => h'.elim)))
  cases r with
  | none => exact wpAny_pure h₁
  | some v =>
    refine wpAny_bind (wpAny_mono h₁ (fun _ s₁' h₁' => ?_) fun _ _ h' => h'.elim)
    refine wpAny_bind (wpAny_mono h₁' (fun _ s₂ h₂ => wpAny_bind (wpAny_tests_nil ?_)) fun _ _ h' => h'.elim)
    exact wpAny_bind (wpAny_bind (wpAny_mono h₂ (fun x s₄ h₄ => wpAny_bind (wpAny_mono h₄ (fun _ s₅ h₅ => wpAny_pure (wpAny_pure ⟨rfl, h₅⟩)) fun _ _ h' => h'.elim)) fun x s' hx => hE x s' hx))
end
theorem pass_held {M : Model} {A : Around} {E : Value → Shared → Prop} {s : Shared} {base : Heap} {cenv : Env} {L e : Addr} {cls a0 : Value} {what : String} {Q : Value → Shared → Prop} (hf : cenv.frame = some L) (ht : s.heap.TracedAtW base e cls a0 (rawInt L)) (h : E (.ref e) s) :
    wpAny M A (PySem.passOn what (.ref e) cenv : Sem Value) Q E s := by
  obtain ⟨oe, vs, T, oT, ts, he, hcls, hd, h1, hnT, hTe, hT, hdT, h3⟩ := ht
  unfold PySem.passOn
  refine wpAny_bind (wpAny_field he hd h1 ?_)
  rw [if_neg (show ¬ ((Value.ref T == Value.none) = true) from by simp)]
  unfold setFlight
  refine wpAny_bind (wpAny_bind (wpAny_field he hd h1 ?_))
  rw [if_pos (show (Value.ref T != Value.none) = true from by simp), hf]
  refine wpAny_setField hT hdT (Array.getElem?_eq_some_iff.mp h3).1 ?_
  have e1 : s.heap.update T (Obj.mapFields (·.setIfInBounds 3 (rawInt L))) = s.heap := Heap.update_setField_same s.heap T oT ts 3 (rawInt L) hT hdT h3
  show wpAny M A (throw (Value.ref e) : Sem Value) Q E { s with heap := s.heap.update T (Obj.mapFields (·.setIfInBounds 3 (rawInt L))) }
  rw [e1]
  exact wpAny_throw h
end XR
namespace XR
open PySem PySem.Spec PyProof.Rows L2 FL
theorem rs_comp {X : Cx} {elt iter : Expr} {x : Str} {px : Pos} {scope : Scope} {cl : List (Str × Addr)} {pos : Pos} {ys : List Str} {js : List Nat} {ρ : Ro} {ds : List D} {Ce : Addr} (n : Nat) (f : D → D)
    (hc : X.calm = true) (hst : X.stack = X.env :: X.outer) (hf : X.env.frame = some X.env.locals) (ht : ThrHd X Ce ρ) (hi : Src X (.Name x px) iter ρ ds) (hz : ds.length ≤ 1000000) (hn : n < ds.length)
    (he : ∀ C s₀ H₀ fp, ∀ i d, i < n → ds[i]? = some d → Ev (blk X scope cl (x :: ys) C s₀ H₀ fp) elt (some d :: freesD js ρ) (f d))
    (hx : ∀ C s₀ H₀ fp, ∀ d, ds[n]? = some d → RsF (blk X scope cl (x :: ys) C s₀ H₀ fp) elt (some d :: freesD js ρ) Ce)
    (hclos : closureFor scope X.env = pure cl) (hcell : ∀ y ∈ scope.names, y.2 ≠ .cell) (hkind : scope.kind = .function)
    (hnames : ∀ y ∈ scope.names, y.2 = .local → scope.names.lookup y.1 = some .local) (hxl : scope.names.lookup x = some .local) (hnd : (x :: ys).Nodup)
    (hcl : ∀ y c, cl.lookup y = some c → X.env.cells.lookup y = some c)
    (hhas : ∀ y, (relabel scope X.env).names.lookup y = some .cell ∨ (relabel scope X.env).names.lookup y = some .free → ∃ c, cl.lookup y = some c)
    (hjs : js.length = ys.length) (hjy : ∀ (i j : Nat) (y : Str), js[i]? = some j → ys[i]? = some y → X.N[j]? = some y ∧ Vis X.env.scope y ∧ (X.env.kindOf y = some .cell ∨ X.env.kindOf y = some .free) ∧ ((relabel scope X.env).names.lookup y = some .cell ∨ (relabel scope X.env).names.lookup y = some .free))
    (hs : ∀ x, foldedSetIterable iter X.env x = pure x := by intro _; rfl) : Rs X (.ListComp elt [⟨.Name x px, iter, [], 0⟩] scope pos) ρ := by
  intro pins s σ H Q I rs
  rw [eval_ListComp]
  refine compX rfl hs hclos hkind hnames (thn (hi pins s σ H (fun J H2 => Same H H2 ∧ SrcOk X.K J H2 ds) I ⟨rs.e, fun J H' s1 ok => ⟨s1, ok⟩⟩) fun v s1 h1 => thn h1 fun itv s2 h2 => ?_)
  obtain ⟨it, fp, tn, J, H2, e, I2, T, st2, f2, sm2, src⟩ := h2
  subst e
  refine wpAny_newObj_type (wpAny_newFunctionEnv hcell (by intro y hy; simp at hy) (fun h₁ hns₁ hsb₁ => ?_) hkind)
  dsimp only at hns₁ hsb₁ ⊢
  have hD : H2 s2.heap.objs.size = none := I2.hok.fresh (Nat.le_refl _)
  generalize eD : s2.heap.objs.size = D at hD hns₁ hsb₁ ⊢
  generalize eH : s2.heap.push { cls := .type "list", dict := none, data := .seq ([] : List Value).toArray } = P3 at hns₁ hsb₁ ⊢
  have k23 : ∀ b o, s2.heap.get? b = some o → P3.get? b = some o := fun b o q => by rw [← eH]; exact Heap.get?_push_of_some _ q
  have hDo : P3.get? D = some { cls := .type "list", dict := none, data := .seq ([] : List Value).toArray } := by rw [← eH, ← eD]; exact Heap.get?_push_size _ rfl
  have I3 : Inv X pins σ (upd H2 D (.lst [])) { s2 with heap := P3, toks := s2.toks } := I2.laid (t' := s2.toks) k23 (Nat.le_of_eq eD) ⟨Nat.zero_le _, [], 0, .nil, hDo⟩
  have hCs : P3.objs.size = D + 1 := by rw [← eH, Heap.size_push, eD]
  generalize eC : P3.objs.size = C at hns₁ hsb₁ hCs ⊢
  have k34 : ∀ b o, P3.get? b = some o → h₁.get? b = some o := fun b o q => hsb₁.extBut b o (by rw [← eC]; exact Nat.ne_of_lt (Heap.lt_size q)) (Heap.get?_push_of_some _ q)
  have fpD : ∀ b ∈ fp, b < D := fun b hb => by
    obtain ⟨o, q, _⟩ := T.obj 0 _ st2 b hb
    rw [← eD]
    exact Heap.lt_size q
  have hC0 : upd H2 D (.lst []) C = none := I3.hok.fresh (by show P3.objs.size ≤ C; rw [eC]; exact Nat.le_refl _)
  have nC : ∀ b o, P3.get? b = some o → b ≠ C := fun b o q => by rw [← eC]; exact Nat.ne_of_lt (Heap.lt_size q)
  have okY : (blk X scope cl (x :: ys) C { s2 with heap := P3, toks := s2.toks } (upd H2 D (.lst [])) fp).Ok := by
    refine ⟨I3.ok.mod, hkind, I3.ok.glob, I3.ok.blt, by show P3.objs.size ≤ C; rw [eC]; exact Nat.le_refl _, fun y z c h1 h2 => I3.ok.inj y z c (hcl y c h1) (hcl z c h2), fun y hy => hhas y hy, fun y c hf _ => (by cases hf),
      I3.ok.hd, I3.ok.frames, .inl rfl, fun b hb => ⟨(by show b ≠ C; rw [hCs]; exact Nat.ne_of_lt (Nat.lt_succ_of_lt (fpD b hb))), fun y c hy => (f2 b hb).2.2.2.2.1 y c (hcl y c hy)⟩, fun b o q => ?_, ?_, fun b o q hb => ?_, fun b hb z => ?_, I3.stack, I3.stkFree⟩
    · exact I3.bs b o q
    · exact Nat.le_trans I3.ok.bsz I3.sz
    · rcases (f2 b hb).2.2.2.1 with z | z
      · exact I3.ok.noex b o q z
      · exact absurd (Nat.lt_of_lt_of_le (Heap.lt_size (I3.ok.bs b o q).1) z) (Nat.lt_irrefl _)
    · rcases List.mem_cons.mp (I3.stkSub b z) with z | z
      · exact (f2 b hb).2.1 z
      · exact (f2 b hb).2.2.1 z
  generalize eY : blk X scope cl (x :: ys) C { s2 with heap := P3, toks := s2.toks } (upd H2 D (.lst [])) fp = Y at okY
  have IY : Inv Y [] (none :: frees js σ) (upd H2 D (.lst [])) { s2 with heap := h₁, toks := s2.toks + ([] : List (Str × Value)).length } := by
    subst eY
    refine ⟨okY, I3.os.trans I3.os.symm |>.trans rfl, I3.bare, Un.kept k34, ⟨_, hns₁, fun i y v h1 h2 h3 => ?_⟩, fun y c hy => ?_, hC0, fun y c hy => I3.freeC y c (hcl y c hy), fun p hp => absurd (show p ∈ ([] : List (Addr × Obj)) from hp) (by simp), I3.hok.kept k34, ?_⟩
    · cases i with
      | zero => cases h2
      | succ i =>
        have h1' : ys[i]? = some y := h1
        have h2' : (frees js σ)[i]? = some (some v) := h2
        unfold frees at h2'
        rw [List.getElem?_map] at h2'
        cases q : js[i]? with
        | none => rw [q] at h2'; cases h2'
        | some j =>
          rw [q] at h2'
          have h4 : (σ[j]?).join = some v := Option.some.inj h2'
          have h5 : σ[j]? = some (some v) := by
            cases z : σ[j]? with
            | none => rw [z] at h4; cases h4
            | some o => rw [z] at h4; have h4' : o = some v := h4; rw [h4']
          obtain ⟨n1, n2, n3, n4⟩ := hjy i j y q h1'
          obtain ⟨m, _, hl⟩ := I3.loc
          obtain ⟨u, ru, lk⟩ := hl j y v n1 h5 n2
          refine ⟨u, ru, .inr ⟨n4, ?_⟩⟩
          obtain ⟨c, hc'⟩ := hhas y n4
          rcases lk with ⟨z, _⟩ | ⟨_, c', e1, e2⟩
          · rcases n3 with n3 | n3 <;> (rw [n3] at z; cases z)
          · have : c' = c := Option.some.inj (e1.symm.trans (hcl y c hc'))
            subst this
            obtain ⟨o, ho, hod⟩ := e2
            exact ⟨c', hc', o, k34 _ _ ho, hod⟩
    · obtain ⟨v, o, ho, hod⟩ := I3.cell y c (hcl y c hy)
      exact ⟨v, o, k34 _ _ ho, hod⟩
    · show (frees js σ).length + 1 = (x :: ys).length
      unfold frees
      simp [hjs]
  have eYA : Y.A = X.A := by rw [← eY]; rfl
  have eYp : Y.prog = X.prog := by rw [← eY]; rfl
  have eYw : Y.w = X.w := by rw [← eY]; rfl
  have eYK : Y.K = X.K := by rw [← eY]; rfl
  have eYb : Y.base = X.base := by rw [← eY]; rfl
  have eYst : Y.stack = X.stack := by rw [← eY]; rfl
  have eYe : Y.env = compEnvC scope cl C X.env := by rw [← eY]; rfl
  have eYH : Y.H₀ = upd H2 D (.lst []) := by rw [← eY]; rfl
  have eYc : Y.calm = true := by rw [← eY]; exact hc
  have eYx : Y.xe = fun _ _ => False := by rw [← eY]; rfl
  have eYex : Y.ex = fp := by rw [← eY]; rfl
  have eYfs : Y.fs = frs X.stack := by rw [← eY]; rfl
  have eYs : Y.s₀ = { s2 with heap := P3, toks := s2.toks } := by rw [← eY]; rfl
  have eYl : Y.env.locals = C := by rw [eYe]; rfl
  have eYf : Y.env.frame = X.env.frame := by rw [eYe]; rfl
  have he' : ∀ i d, i < n → ds[i]? = some d → Ev Y elt (some d :: freesD js ρ) (f d) := by rw [← eY]; exact he C _ _ fp
  have hx' : ∀ d, ds[n]? = some d → RsF Y elt (some d :: freesD js ρ) Ce := by rw [← eY]; exact hx C _ _ fp
  have hg' : PG Y (.Name x px) (gName 0) := by
    rw [← eY]
    exact pg_name hnd rfl (.inl (lookup_relabel_local hxl)) (.inr (lookup_relabel_local hxl))
  have T' : Turn Y.prog Y.w Y.K (.Name x px) J fp it tn := by rw [eYp, eYw, eYK]; exact T
  have stat : ∀ {H' : Hp}, (∀ b ∈ fp, H' b = none) → ∀ b ∈ fp, FpOk Y [] H' b := fun {H'} hn b hb => by
    obtain ⟨_, g1, g2, g3, g4, g5⟩ := f2 b hb
    refine ⟨hn b hb, (by rw [eYl, hCs]; exact Nat.ne_of_lt (Nat.lt_succ_of_lt (fpD b hb))), fun z => ?_, .inl (by rw [eYex]; exact hb), fun y c hy => ?_, fun p hp => ?_⟩
    · rw [eYfs] at z
      rcases List.mem_cons.mp (I3.stkSub b z) with z | z
      · exact g1 z
      · exact g2 z
    · rw [eYe] at hy
      exact g4 y c (hcl y c hy)
    · have e0 : Y.pn = [] := by rw [← eY]; rfl
      rw [e0] at hp
      exact absurd (show p ∈ ([] : List (Addr × Obj)) from hp) (by simp)
  -- the exception leaves the block
  let Ex : Value → Shared → Prop := fun ev s' => ∃ (σ8 : L2.St) (p8 : List (Addr × Obj)) (H8 : Hp) (s8 : Shared) (H9 : Hp) (a : Addr), ev = .ref a ∧ Inv Y p8 σ8 H8 s8 ∧ Same H2 H8 ∧ Same H8 H9 ∧ Flown Y.prog Y.w Y.base Y.stack H8 s8 Ce H9 a s'
  have out : ∀ ev s', Ex ev s' → notedBy (model X.prog X.w) X.A (compEnvC scope cl C X.env) (fun x s' => endX (model X.prog X.w) X.A X.xe Q (.ref D) (compEnvC scope cl C X.env) (.error x) s') ev s' := by
    rintro ev s' ⟨σ8, p8, H8, s8, H9, a, rfl, I8, q8, q9, F⟩
    rw [eYp, eYw, eYb, eYst] at F
    obtain ⟨B, a0, b1, b2, b3, b4, fl⟩ := F.ex
    have fr : X.A.frames = some (X.env :: X.outer) := by rw [← hst]; exact I.ok.frames
    unfold notedBy
    rw [note_same (env := compEnvC scope cl C X.env) (env' := X.env) rfl]
    have fl' := fl
    rw [hst] at fl'
    refine wpAny_looks_onW fr hf fl' fun h5 hd up => ?_
    obtain ⟨m, hm, _⟩ := id I8.loc
    rw [eYl] at hm
    obtain ⟨o, es, ep, ho, hod, hor⟩ := hm
    have hC8 : H8 C = none := by rw [← eYl]; exact I8.free
    have nfr : C ∉ frs X.stack := fun z => by
      obtain ⟨k1, o', k2, k3⟩ := I3.stack.mem z
      exact nC C o' k2 rfl
    have hBC : B.get? C = some o := b3 C o ho hC8 nfr
    refine ⟨m, ⟨o, es, ep, hd.1 C o hBC, hod, hor⟩, fun h6 sb => ?_⟩
    have n0 : ∀ b : Addr, b ∉ ([] : List Addr) := fun b z => by cases z
    have sb2 : ∀ b, b ≠ C → h6.get? b = h5.get? b := fun b z => sb.2 b z
    have tr6 : h6.TracedAtW (less B (· = C)) a (.ref Ce) a0 (rawInt X.env.locals) := by
      obtain ⟨oe, vs, T0, oT, ts, g1, g2, g3, g4, g5, g6, g7, g8, g9⟩ := hd.2.2.2
      have na : a ≠ C := fun z => by have := hd.2.1; rw [z, hBC] at this; cases this
      have nT : T0 ≠ C := fun z => by rw [z, hBC] at g5; cases g5
      exact ⟨oe, vs, T0, oT, ts, (sb2 a na).trans g1, g2, g3, g4, (less_in (p := (· = C)) nT).trans g5, g6, (sb2 T0 nT).trans g7, g8, g9⟩
    refine pass_held (base := less B (· = C)) (cls := .ref Ce) (a0 := a0) (L := X.env.locals) hf tr6 ?_
    have un8 := I8.base
    rw [eYfs, eYex, eYH, eYs] at un8
    have hC9 : H9 C = none := F.un.free C o ho hC8 (n0 C)
    have lin : ∀ {h : Heap} {b : Addr}, b ≠ C → (less h (· = C)).get? b = h.get? b := fun {h b} z => less_in (p := (· = C)) z
    have lof : ∀ {h : Heap} {b : Addr} {u : Obj}, (less h (· = C)).get? b = some u → b ≠ C ∧ h.get? b = some u := fun {h b u} z => by
      by_cases y : b = C
      · rw [less_out (p := (· = C)) y] at z; cases z
      · exact ⟨y, by rw [lin y] at z; exact z⟩
    have un6 : Un (frs X.stack) fp (upd H2 D (.lst [])) H8 P3 (less s8.heap (· = C)) := by
      refine ⟨fun b o q n hb hx => (lin (nC b o q)).trans (un8.keep b o q n hb hx), fun b o q n hb hx => ?_, un8.free, fun b o q hx => ?_, un8.tups, un8.frzs, un8.tbls⟩
      · obtain ⟨sl, q2⟩ := un8.slot b o q n hb hx
        exact ⟨sl, (lin (nC b o q)).trans q2⟩
      · obtain ⟨o', q2⟩ := un8.there b o q hx
        exact ⟨o', (lin (nC b o q)).trans q2⟩
    have hok8 : HOk X.prog X.w H8 (less s8.heap (· = C)) := fun b ob q => by
      have q5 := I8.hok b ob q
      rw [eYp, eYw] at q5
      refine q5.stay (fun c w' hc' q' => (lin ?_).trans q') (fun _ q' => q') fun _ _ q' => q'
      rintro rfl
      rcases hc' with rfl | hc'
      · rw [hC8] at q; cases q
      · rw [hC8] at hc'; cases hc'
    have hok9 : HOk X.prog X.w H9 (less B (· = C)) := fun b ob q => by
      refine (b2 b ob q).stay (fun c w' hc' q' => (lin ?_).trans q') (fun _ q' => q') fun _ _ q' => q'
      rintro rfl
      rcases hc' with rfl | hc'
      · rw [hC9] at q; cases q
      · rw [hC9] at hc'; cases hc'
    have IX : Inv X pins σ H8 { s8 with heap := less s8.heap (· = C) } := by
      have os8 : s8.os = s2.os := by have := I8.os; rw [eYs] at this; exact this
      refine I3.call' (s' := { s8 with heap := less s8.heap (· = C) }) (ch := fp) os8 un6 hok8 I8.bare fun b hb => ?_
      obtain ⟨_, g1, g2, g3, g4, g5⟩ := f2 b hb
      exact ⟨g3, g1, g4, g5⟩
    have slot : ∀ b o, (less s8.heap (· = C)).get? b = some o → H8 b = none → b ∈ frs X.stack → ∃ sl, h6.get? b = some { o with slots := sl } := fun b o q nn hb => by
      obtain ⟨y1, y2⟩ := lof q
      obtain ⟨sl, e1⟩ := F.un.slot b o y2 nn hb (n0 b)
      obtain ⟨_, o', e2, nd⟩ := IX.stack.mem hb
      rw [q] at e2
      cases e2
      obtain ⟨sl2, e3⟩ := up b _ e1 nd
      exact ⟨sl2, (sb2 b y1).trans e3⟩
    refine ht pins σ H8 _ H9 a _ IX (rs.mono (sm2.trans q8)) q9 ⟨F.os, F.bare, ⟨fun b o q nn nf _ => ?_, fun b o q nn hb _ => slot b o q nn hb, fun b o q nn _ => F.un.free b o (lof q).2 nn (n0 b), fun b o q _ => ?_, F.un.tups, F.un.frzs, F.un.tbls⟩, less B (· = C), a0, ?_, hok9, fun b o q nn nf => ?_, fun b o q nf => ?_, ?_, ?_, ?_, tr6⟩
    · obtain ⟨y1, y2⟩ := lof q
      exact (sb2 b y1).trans (hd.1 b o (b3 b o y2 nn nf))
    · obtain ⟨y1, y2⟩ := lof q
      by_cases hb : b ∈ frs X.stack
      · obtain ⟨sl, z⟩ := slot b o q (IX.stkFree b hb) hb
        exact ⟨_, z⟩
      · obtain ⟨o', z⟩ := b4 b o y2 hb
        exact ⟨o', (sb2 b y1).trans (hd.1 b o' z)⟩
    · intro b o q
      rw [lin (nC b o (I3.bk b o q))]
      exact b1 b o q
    · obtain ⟨y1, y2⟩ := lof q
      rw [lin y1]
      exact b3 b o y2 nn nf
    · obtain ⟨y1, y2⟩ := lof q
      obtain ⟨o', z⟩ := b4 b o y2 nf
      exact ⟨o', (lin y1).trans z⟩
    · intro b o q
      obtain ⟨y1, y2⟩ := lof q
      exact (sb2 b y1).trans (hd.1 b o y2)
    · have na : a ≠ C := fun z => by have := hd.2.1; rw [z, hBC] at this; cases this
      exact (lin na).trans hd.2.1
    · have key : ∀ l : List Env, h5.FunFrames B l → h6.FunFrames (less B (· = C)) l := by
        intro l
        induction l with
        | nil => exact fun _ => trivial
        | cons env r ih =>
          rintro ⟨k1, ⟨L, o, e1, e2, e3, e4⟩, k3⟩
          have nL : L ≠ C := fun z => by rw [z, hBC] at e2; cases e2
          exact ⟨k1, ⟨L, o, e1, (lin nL).trans e2, (sb2 L nL).trans e3, e4⟩, ih k3⟩
      rw [hst]
      exact key _ hd.2.2.1
  -- the loop
  have loop : ∀ s₃ : Shared, s₃ = { s2 with heap := h₁, toks := s2.toks + ([] : List (Str × Value)).length } →
      codeAny (model X.prog X.w) X.A (.compLoop (.ListComp elt [⟨.Name x px, iter, [], 0⟩] scope pos) 0 (.ref it) (.ref D) (compEnvC scope cl C X.env))
        (endX (model X.prog X.w) X.A X.xe Q (.ref D) (compEnvC scope cl C X.env)) s₃ := by
    rintro s₃ rfl
    refine loopX (fun k s' => ∃ i z H' zs, i ≤ n ∧ k = n - i ∧ Inv Y [] (z :: frees js σ) H' s' ∧ tn i s'.heap ∧ (∀ b ∈ fp, H' b = none) ∧ H' D = some (.lst zs) ∧ zs.length ≤ i ∧ Same H2 H') Ex out ?_ n
      ⟨0, none, _, [], Nat.zero_le _, rfl, IY, T.keep 0 _ _ st2 (fun b _ o q => k34 b o (k23 b o q)), fun b hb => ?_, upd_same, Nat.le_refl _, same_new hD⟩
    · rintro k s4 ⟨i, z, H4, zs, hin, rfl, I4, st4, fr4, hz4, hzl, q4⟩
      rw [← eYe, ← eYA, ← eYp, ← eYw]
      have hlt : i < ds.length := Nat.lt_of_le_of_lt hin hn
      obtain ⟨go, step⟩ := (src H4 q4).2 i ds[i] (by simp [hlt])
      refine thn (T'.item Y rfl rfl rfl eYc i [] s4 _ H4 _ I4 (stat fr4) st4 go) fun r s5 ⟨u, hr, h5⟩ => ?_
      subst hr
      refine thn h5 fun _ s6 ⟨y, H6, I6, r6, y6, st6, fr6⟩ => ?_
      have I6' := I6.pinned (stat fr6) (T.obj _ _ st6)
      obtain ⟨e6, v6⟩ := step y H6 y6
      subst e6
      have back : ∀ {σ7 : L2.St} {H7 : Hp} {s7 : Shared}, Inv Y ([] ++ pinsAt fp s6.heap) σ7 H7 s7 → tn (i + 1) s7.heap ∧ ∀ b ∈ fp, H7 b = none := fun {σ7 H7 s7} I7 =>
        ⟨T.keep _ _ _ st6 fun b hb o e => (I7.pin (b, o) (List.mem_append_right _ (List.mem_append_right _ (mem_pinsAt hb e)))).1, fun b hb => by
          obtain ⟨o, e, _⟩ := T.obj _ _ st6 b hb
          exact (I7.pin (b, o) (List.mem_append_right _ (List.mem_append_right _ (mem_pinsAt hb e)))).2.1⟩
      refine wpAny_mono (hg' _ s6 _ H6 y u (fun σ' H' => σ' = some y :: frees js σ ∧ H' = H6) I6' r6 ⟨rfl, rfl⟩) (fun _ s7 ⟨σ7, H7, I7, e7, e7'⟩ => ?_) fun _ _ z => by rw [eYx] at z; exact z
      subst e7 e7'
      have rE : RelE Y H7 (some y :: frees js σ) (some ds[i] :: freesD js ρ) := relE_blk eYK (rs.e.mono (sm2.trans q4)) v6
      by_cases hi' : i < n
      · refine wpAny_mono (he' i ds[i] hi' (by simp [hlt]) _ s7 _ H7 (fun v H' => Same H7 H') I7 ⟨rE, fun v H' s' _ => s'⟩) (fun u9 s9 ⟨v9, H9, I9, r9, q9⟩ => ?_) fun _ _ z => by rw [eYx] at z; exact z.elim
        have hz9 : H9 D = some (.lst zs) := q9 _ _ hz4
        refine wpAny_mono (mt_append (X := Y) _ s9 _ H9 (.ref D) [v9] (.ref D) [u9] (fun _ H' => H' = upd H9 D (.lst (zs ++ [v9]))) I9 rfl (.cons r9 .nil) ⟨D, zs, v9, rfl, rfl, hz9, by rw [sizeLine_eq]; omega, rfl⟩) (fun _ s10 ⟨_, H10, I10, _, e10⟩ => ?_) fun _ _ z => by rw [eYx] at z; exact z
        subst e10
        obtain ⟨c1, c2⟩ := back I10
        refine ⟨n - (i + 1), by omega, i + 1, some y, _, zs ++ [v9], hi', rfl, I10.unpinned, c1, c2, upd_same, by simp; omega, fun b o h => ?_⟩
        rw [upd_ne (ne_of_none h hD)]
        exact q9 _ _ (q4 b o h)
      · have ein : i = n := by omega
        subst ein
        exact hx' ds[i] (by simp [hlt]) _ s7 _ H7 _ Ex I7 rE fun H1 s1 Hb a s' J1 m1 m2 F => ⟨_, _, H1, s1, Hb, a, rfl, J1, q4.trans m1, m2, F⟩
    · rw [upd_ne (Nat.ne_of_lt (fpD b hb))]
      exact (f2 b hb).1
  exact codeAny_compStart_list (loop _ rfl) (T.self _ 0 _ _ _ (T.keep 0 _ _ st2 (fun b _ o q => k34 b o (k23 b o q))) (loop _ rfl))
end XR
namespace XR
open PySem PySem.Spec PyProof.Rows L2 FL
section
variable {X : Cx} {e a b c : Expr} {es : List Expr} {ρ : Ro} {d : D} {ds : List D} {pos p1 p2 : Pos} {C : Addr}
theorem ev_callX {k : Nat} {x : Str} {Pf : List D → D → Prop} {Px : List D → Addr → Prop} {p : Pos} (G : FnX X.prog X.w X.K X.mg X.base k x Pf Px) (hr : Room k X.A) (ha : EvA X (e :: es) ρ ds) (hp : Pf ds d) (hg : Gl X x := by rfl) (hdb : (x == ("__debug__" : Str)) = false := by decide)
    (he : starEach (e :: es) X.env = (false, eval e X.env) :: starEach es X.env := by rfl) (hpl : (backTo pos (starEach es X.env)).any (·.1) = false := by rfl) : Ev X (.Call (.Name x p) (e :: es) [] pos) ρ d := by
  intro pins s σ H Q I ⟨rs, q⟩
  obtain ⟨f, fd, ps, F, hm, hk, hb⟩ := G
  refine wpAny_Call_Name_kw (ld_glob I hg hm ?_ hdb)
  refine PySem.W.callWith_K (h₀ := X.base) I.ok.mod.kin hk (thn (ha pos pins s σ H (fun vs H1 => Same H H1 ∧ IsAll X.K H1 vs ds) I ⟨rs, fun vs H' s1 h1 => ⟨s1, h1⟩⟩) fun us s1 ⟨vs, H1, I1, r, sm, hv⟩ => ⟨I1.kIn, ?_⟩) he hpl
  have sp : SpX X.K Pf Px vs H1 (fun v H' => Same H1 H' ∧ Is X.K H' v d) (fun _ _ _ => False) := ⟨ds, hv, .inl ⟨d, hp, fun v H' s' h' => ⟨s', h'⟩⟩⟩
  have hl : (us ++ []).length = ps.length := by rw [List.append_nil, ← r.length]; exact F.len _ _ _ _ sp
  have hb1 := hb s1 us I1.kIn hl
  rw [List.append_nil] at hb1
  refine wpAny_call (codeAny_mono (F.run X.A X.stack s1 H1 ⟨us, []⟩ us vs (fun v H' => Same H1 H' ∧ Is X.K H' v d) (fun _ _ _ => False) hr I1.env0 hb1 r sp) fun r s' hq => ?_)
  cases r with
  | error e =>
    obtain ⟨C', H2, e', rfl, Fl, z⟩ := (show CXF X.prog X.w X.base X.stack H1 s1 (fun _ _ _ => False) e s' from hq)
    exact z.elim
  | ok fl =>
    cases fl with
    | ret u =>
      obtain ⟨v, H2, I2, rv, sm2, hv2⟩ := I1.after (show CE X.stack X.prog X.w H1 s1 (fun v H' => Same H1 H' ∧ Is X.K H' v d) u s' from hq)
      exact ⟨v, H2, I2, rv, q v H2 (sm.trans sm2) hv2⟩
    | next => exact False.elim hq
    | brk => exact False.elim hq
    | cont => exact False.elim hq
theorem rs_recv {name : Str} (h : Rs X a ρ) (hbase : attributeBase a name X.env (eval a X.env) = eval a X.env := by rfl) (hs : starEach [b] X.env = [(false, eval b X.env)] := by rfl) (hline : (p1.endLine == p2.line) = true := by rfl) : Rs X (.Call (.Attribute a name p1) [b] [] p2) ρ :=
  fun pins s σ H Q I r => Call_method1 hbase hs hline (h pins s σ H _ I r)
theorem rs_tuple {p : Pos} (hm : X.mg "tuple" = none) (h : Rs X a ρ) (hg : Gl X "tuple" := by rfl) (he : starEach [a] X.env = [(false, eval a X.env)] := by rfl) : Rs X (.Call (.Name "tuple" p) [a] [] pos) ρ := by
  intro pins s σ H Q I r
  refine wpAny_Call_Name_kw (ld_blt I hg hm bo_tuple ?_ (by decide) (by decide))
  exact PyProof.Rows.callWith_type1 (wpAny_mono (ra_here h he pos pins s σ H (fun _ _ => False) I r) (fun _ _ ⟨_, _, _, _, z⟩ => z.elim) fun _ _ z => z) he rfl
theorem rs_comp0 {elt iter : Expr} {x : Str} {px : Pos} {scope : Scope} {Ce : Addr} (n : Nat) (f : D → D) (ht : ThrHd X Ce ρ) (hi : Src X (.Name x px) iter ρ ds) (hz : ds.length ≤ 1000000) (hn : n < ds.length)
    (he : ∀ C s₀ H₀ fp, ∀ i d, i < n → ds[i]? = some d → Ev (blk X scope [] [x] C s₀ H₀ fp) elt (some d :: freesD [] ρ) (f d))
    (hx : ∀ C s₀ H₀ fp, ∀ d, ds[n]? = some d → RsF (blk X scope [] [x] C s₀ H₀ fp) elt (some d :: freesD [] ρ) Ce)
    (hc : X.calm = true := by rfl) (hst : X.stack = X.env :: X.outer := by rfl) (hf : X.env.frame = some X.env.locals := by rfl)
    (hclos : closureFor scope X.env = pure [] := by rfl) (hcell : scope.names.all (fun y => !(y.2 == .cell) && !(y.2 == .free)) = true := by rfl) (hkind : scope.kind = .function := by rfl)
    (hnames : scope.names.all (fun y => !(y.2 == .local) || (scope.names.lookup y.1 == some .local)) = true := by rfl) (hxl : scope.names.lookup x = some .local := by rfl)
    (hs : ∀ x, foldedSetIterable iter X.env x = pure x := by intro _; rfl) : Rs X (.ListComp elt [⟨.Name x px, iter, [], 0⟩] scope pos) ρ := by
  have hc2 : ∀ y ∈ scope.names, y.2 ≠ .cell ∧ y.2 ≠ .free := fun y hy => by
    have := List.all_eq_true.mp hcell y hy
    constructor
    · intro z; rw [z] at this; cases this
    · intro z; rw [z] at this; cases this
  refine rs_comp (ys := []) (js := []) (cl := []) n f hc hst hf ht hi hz hn he hx hclos (fun y hy => (hc2 y hy).1) hkind (fun y hy z => ?_) hxl (by simp) (fun y c h => by cases h) (no_free hc2) rfl (fun i j y h => by cases h) hs
  have := List.all_eq_true.mp hnames y hy
  rw [z] at this
  simpa using this
end
end XR
namespace FL
open PySem PySem.Spec PyProof.Rows L2
section
variable {X : Cx} {a b : Expr} {ρ : Ro} {x y : Str} {i : Int} {p1 p2 pos : Pos}
theorem ev_stripC (ha : Ev X a ρ (.str x)) (hb : Ev X b ρ (.str y)) (hz : x.length ≤ 100000) (hbase : attributeBase a "strip" X.env (eval a X.env) = eval a X.env := by rfl) (hs : starEach [b] X.env = [(false, eval b X.env)] := by rfl) (hline : (p1.endLine == p2.line) = true := by rfl) :
    Ev X (.Call (.Attribute a "strip" p1) [b] [] p2) ρ (.str (Txt.stripChars x y)) := by
  intro pins s σ H Q I ⟨r, q⟩
  refine Call_method1 hbase hs hline (thn (ha pins s σ H (fun v H1 => v = V.str x ∧ Same H H1) I ⟨r, fun v H1 s1 h1 => ⟨h1.str_inv, s1⟩⟩) fun u s1 hu => ?_)
  obtain ⟨v, H1, I1, rv, rfl, sm⟩ := hu
  obtain ⟨t, rfl⟩ := rv
  refine SB.stripChars (thn (hb pins s1 σ H1 (fun v H2 => v = V.str y ∧ Same H1 H2) I1 ⟨r.mono sm, fun v H2 s2 h2 => ⟨h2.str_inv, s2⟩⟩) fun u2 s2 hu => ?_) (by rw [sizeLine_eq]; omega)
  obtain ⟨v2, H2, I2, rv2, rfl, sm2⟩ := hu
  obtain ⟨t2, rfl⟩ := rv2
  exact ⟨y, t2, rfl, fun t' k => ⟨.str _, H2, I2.tok _, ⟨_, rfl⟩, q _ H2 (sm.trans sm2) (.str _)⟩⟩
theorem ev_starts (ha : Ev X a ρ (.str x)) (hb : Ev X b ρ (.str y)) (hbase : attributeBase a "startswith" X.env (eval a X.env) = eval a X.env := by rfl) (hs : starEach [b] X.env = [(false, eval b X.env)] := by rfl) (hline : (p1.endLine == p2.line) = true := by rfl) :
    Ev X (.Call (.Attribute a "startswith" p1) [b] [] p2) ρ (.bl (Txt.startswith x y)) := by
  intro pins s σ H Q I ⟨r, q⟩
  refine Call_method1 hbase hs hline (thn (ha pins s σ H (fun v H1 => v = V.str x ∧ Same H H1) I ⟨r, fun v H1 s1 h1 => ⟨h1.str_inv, s1⟩⟩) fun u s1 hu => ?_)
  obtain ⟨v, H1, I1, rv, rfl, sm⟩ := hu
  obtain ⟨t, rfl⟩ := rv
  refine SB.startswith (thn (hb pins s1 σ H1 (fun v H2 => v = V.str y ∧ Same H1 H2) I1 ⟨r.mono sm, fun v H2 s2 h2 => ⟨h2.str_inv, s2⟩⟩) fun u2 s2 hu => ?_)
  obtain ⟨v2, H2, I2, rv2, rfl, sm2⟩ := hu
  obtain ⟨t2, rfl⟩ := rv2
  exact ⟨y, t2, rfl, ⟨.bl _, H2, I2, rfl, q _ H2 (sm.trans sm2) (.bl _)⟩⟩
theorem ev_ends (ha : Ev X a ρ (.str x)) (hb : Ev X b ρ (.str y)) (hbase : attributeBase a "endswith" X.env (eval a X.env) = eval a X.env := by rfl) (hs : starEach [b] X.env = [(false, eval b X.env)] := by rfl) (hline : (p1.endLine == p2.line) = true := by rfl) :
    Ev X (.Call (.Attribute a "endswith" p1) [b] [] p2) ρ (.bl (Txt.endswith x y)) := by
  intro pins s σ H Q I ⟨r, q⟩
  refine Call_method1 hbase hs hline (thn (ha pins s σ H (fun v H1 => v = V.str x ∧ Same H H1) I ⟨r, fun v H1 s1 h1 => ⟨h1.str_inv, s1⟩⟩) fun u s1 hu => ?_)
  obtain ⟨v, H1, I1, rv, rfl, sm⟩ := hu
  obtain ⟨t, rfl⟩ := rv
  refine SB.endswith (thn (hb pins s1 σ H1 (fun v H2 => v = V.str y ∧ Same H1 H2) I1 ⟨r.mono sm, fun v H2 s2 h2 => ⟨h2.str_inv, s2⟩⟩) fun u2 s2 hu => ?_)
  obtain ⟨v2, H2, I2, rv2, rfl, sm2⟩ := hu
  obtain ⟨t2, rfl⟩ := rv2
  exact ⟨y, t2, rfl, ⟨.bl _, H2, I2, rfl, q _ H2 (sm.trans sm2) (.bl _)⟩⟩
theorem ev_countS (ha : Ev X a ρ (.str x)) (hb : Ev X b ρ (.str y)) (hbase : attributeBase a "count" X.env (eval a X.env) = eval a X.env := by rfl) (hs : starEach [b] X.env = [(false, eval b X.env)] := by rfl) (hline : (p1.endLine == p2.line) = true := by rfl) :
    Ev X (.Call (.Attribute a "count" p1) [b] [] p2) ρ (.int (Txt.count x y)) := by
  intro pins s σ H Q I ⟨r, q⟩
  refine Call_method1 hbase hs hline (thn (ha pins s σ H (fun v H1 => v = V.str x ∧ Same H H1) I ⟨r, fun v H1 s1 h1 => ⟨h1.str_inv, s1⟩⟩) fun u s1 hu => ?_)
  obtain ⟨v, H1, I1, rv, rfl, sm⟩ := hu
  obtain ⟨t, rfl⟩ := rv
  refine SB.count (thn (hb pins s1 σ H1 (fun v H2 => v = V.str y ∧ Same H1 H2) I1 ⟨r.mono sm, fun v H2 s2 h2 => ⟨h2.str_inv, s2⟩⟩) fun u2 s2 hu => ?_)
  obtain ⟨v2, H2, I2, rv2, rfl, sm2⟩ := hu
  obtain ⟨t2, rfl⟩ := rv2
  exact ⟨y, t2, rfl, ⟨.int _, H2, I2.tok _, ⟨_, rfl⟩, q _ H2 (sm.trans sm2) (.int _)⟩⟩
theorem ev_ixS {c : Nat} (ha : Ev X a ρ (.str x)) (hb : Ev X b ρ (.int i)) (hz : x.length ≤ 100000) (hi : atI x.cps.toList i = some c) (hs : PlainIx b := by exact fun _ _ => rfl) : Ev X (.Subscript a b pos) ρ (.str ⟨#[c]⟩) :=
  PE.imp (pe_ix ix_str ha hb hs) fun σ H Q ⟨r, q⟩ => ⟨r, fun v1 H1 s1 h1 => ⟨r.mono s1, fun v2 H2 s2 h2 => ⟨x, i, c, h1.str_inv, h2.int_inv, by rw [sizeLine_eq]; omega, hi, q _ H2 (s1.trans s2) (.str _)⟩⟩⟩
theorem op_mulT : OpR X (binaryOp .Mult) (fun v u H Q => ∃ z n, v = .str z ∧ u = .int n ∧ MulOk z n ∧ Q (.str (Txt.mul z n)) H) := by
  intro pins s σ H v u v' u' Q I rx ry h
  obtain ⟨z, n, rfl, rfl, ok, q⟩ := h
  obtain ⟨t, rfl⟩ := rx
  obtain ⟨t', rfl⟩ := ry
  exact SB.mul ok fun t2 k => ⟨.str _, H, I.tok _, ⟨_, rfl⟩, q⟩
theorem ev_mulS (ha : Ev X a ρ (.str x)) (hb : Ev X b ρ (.int i)) (ok : MulOk x i) : Ev X (.BinOp a .Mult b pos) ρ (.str (Txt.mul x i)) :=
  ev_op op_mulT ha hb fun _ _ H _ h1 h2 q => ⟨x, i, h1.str_inv, h2.int_inv, ok, q _ H (Same.refl H) (.str _)⟩
theorem op_inT : OpR X (compareOp .In) (fun v u H Q => ∃ y z, v = .str y ∧ u = .str z ∧ Q (.bl (Txt.contains z y)) H) := by
  intro pins s σ H v u v' u' Q I rx ry h
  obtain ⟨y, z, rfl, rfl, q⟩ := h
  obtain ⟨t, rfl⟩ := rx
  obtain ⟨t', rfl⟩ := ry
  exact SB.contains ⟨.bl _, H, I, rfl, q⟩
theorem ev_inS (ha : Ev X a ρ (.str y)) (hb : Ev X b ρ (.str x)) (hm : behindInMarks .In b = false := by rfl) : Ev X (.Compare a [.In] [b] pos) ρ (.bl (Txt.contains x y)) :=
  ev_cmp op_inT ha hb hm fun _ _ H _ h1 h2 q => ⟨y, x, h1.str_inv, h2.str_inv, q _ H (Same.refl H) (.bl _)⟩
end
end FL
namespace FL
open PySem PySem.Spec PyProof.Rows L2
section
variable {X : Cx} {a b e tg : Expr} {ρ : Ro} {x y : Str} {i : Int} {p1 p2 pos : Pos}
theorem sl_text : SlR X (fun v lo hi H Q => ∃ z, v = .str z ∧ z.length ≤ sizeLine ∧ Q (.str (Txt.slice z lo hi)) H) := by
  intro pins s σ H v u vl vu lo hi sl Q I rx hs pl pu q
  obtain ⟨z, rfl, hz, q⟩ := q
  obtain ⟨t, rfl⟩ := rx
  have key : ∀ (l r : Option (Int × Tok)), l.map (·.1) = lo → r.map (·.1) = hi → s.heap.IsSlice sl l r none → wpAny (model X.prog X.w) X.A (getItem (.str z t) (.ref sl)) (EP X pins σ Q) X.xe s := by
    rintro l r rfl rfl h
    refine wpAny_getItem_str_slice h rfl ?_
    exact post_val_or_str ⟨Nat.le_trans (Txt.slice_le z _ _) hz, fun t' k => ⟨.str _, H, I.tok _, ⟨_, rfl⟩, q⟩⟩
  refine ⟨"str", _, PySem.F.slot_str_getitem.lookup, typeIs_str _ _ _, ?_⟩
  cases pl with
  | none =>
    cases pu with
    | none => exact key none none rfl rfl hs
    | int j u => exact key none (some (j, u)) rfl rfl hs
  | int k t' =>
    cases pu with
    | none => exact key (some (k, t')) none rfl rfl hs
    | int j u => exact key (some (k, t')) (some (j, u)) rfl rfl hs
theorem ev_sliceS {lo hi : Option Expr} {l u : Option Int} (he : Ev X e ρ (.str x)) (hl : EvO X lo ρ l) (hu : EvO X hi ρ u) (hz : x.length ≤ 100000) : Ev X (.Subscript e (.Slice lo hi none p2) pos) ρ (.str (Txt.slice x l u)) := by
  refine PE.imp (pe_slice sl_text he hl hu) ?_
  rintro σ H Q ⟨r, q⟩
  refine ⟨r, fun v H1 s1 h1 => ⟨r.mono s1, fun H2 s2 => ⟨r.mono (s1.trans s2), fun H3 s3 => ?_⟩⟩⟩
  exact ⟨x, h1.str_inv, by rw [sizeLine_eq]; omega, q _ H3 (s1.trans (s2.trans s3)) (.str _)⟩
theorem ev_lenS {p : Pos} (hm : X.mg "len" = none) (ha : Ev X a ρ (.str x)) (hz : x.length ≤ 100000) (hg : Gl X "len" := by rfl) (he : starEach [a] X.env = [(false, eval a X.env)] := by rfl) : Ev X (.Call (.Name "len" p) [a] [] pos) ρ (.int (x.length : Int)) :=
  ev_len hm ha (if_pos (Nat.le_trans hz (by decide))) hg he
theorem call_intT : CallR X (.type "int") (fun xs H Q => ∃ z n, xs = [.str z] ∧ z.length ≤ 640 ∧ PySem.intText? z = some n ∧ Q (.int n) H) := by
  intro pins s σ H xs us Q I r h
  obtain ⟨z, n, rfl, hl, hn, q⟩ := h
  cases r with
  | cons r1 r2 =>
    cases r2
    obtain ⟨t, rfl⟩ := r1
    exact PySem.W.KIN.call_text hn hl ⟨.int n, H, I.tok _, ⟨_, rfl⟩, q⟩
theorem ev_intS {p : Pos} (hm : X.mg "int" = none) (ha : Ev X a ρ (.str x)) (hz : x.length ≤ 640) (hn : PySem.intText? x = some i) (hg : Gl X "int" := by rfl) (he : starEach [a] X.env = [(false, eval a X.env)] := by rfl) : Ev X (.Call (.Name "int" p) [a] [] pos) ρ (.int i) :=
  PE.imp (pe_callTy call_intT hg hm bo_int (ea_cons ha ea_nil he) (by decide) (by decide) he rfl) fun σ H Q ⟨r, q⟩ => ⟨r, fun vs H1 s1 h1 => by
    obtain ⟨v, rfl, h⟩ := one_inv h1
    exact ⟨x, i, by rw [h.str_inv], hz, hn, q _ H1 s1 (.int _)⟩⟩
def Itx (x : Str) : It where
  go := fun i _ => i < x.cps.size
  yld := fun i H v H' => H' = H ∧ ∃ c, x.cps[i]? = some c ∧ v = .str ⟨#[c]⟩
  stop := fun i _ => x.cps.size ≤ i
theorem turn_text {P : Program} {w : World} {K : PySem.W.Frag} {x : Str} {t : Tok} {n : String} (it : Addr) (hn : ["enumerate", "zip", "dict_itemiterator", "dict_reverseitemiterator", "odict_iterator", "itertools.zip_longest", "itertools.pairwise"].contains n = false)
    (W : ∀ A : Around, A.handled = none → Walks P w A it [it] [it] x.cps.size (SignAt x) (fun i h => h.IsStrIter it n x t i)) (hself : ∀ (A : Around) (i : Nat) (s : Shared) (Q : Value → Shared → Prop) (E : Value → Shared → Prop), s.heap.IsStrIter it n x t i → Q (.ref it) s → wpAny (model P w) A (pyIter (.ref it)) Q E s) :
    Turn P w K tg (Itx x) [it] it (fun i h => i ≤ x.cps.size ∧ h.IsStrIter it n x t i) where
  mem := by simp
  obj := fun i h st b hb => by
    have e : b = it := by simpa using hb
    subst e
    obtain ⟨_, o, h1, h2, h3⟩ := st
    exact ⟨o, h1, fun v z => by rw [h3] at z; cases z⟩
  keep := fun i h h' st k => by
    obtain ⟨h0, o, h1, h2⟩ := st
    exact ⟨h0, o, k it (by simp) _ h1, h2⟩
  item := by
    intro X hP hw hK hc i pins s σ H E I hf st hg
    subst hP hw hK
    obtain ⟨f0, f1, f2, f3, f4, f5⟩ := hf it (by simp)
    refine (W X.A (I.ok.hd hc)).item i s _ _ hg st.2 fun v h' tk hv st' kk => ?_
    obtain ⟨c, t', e1, rfl⟩ := hv
    have I1 : Inv X pins σ H { s with heap := h', toks := tk } := I.turned (fun b o hb e => kk b o (by simpa using hb) e) f0 f1 f3 f4 f5
    obtain ⟨o, g1, g2, g3⟩ := id st'
    exact ⟨_, rfl, go_of (s := { s with heap := h', toks := tk }) (n := n) g1 g2 g3 hn ⟨.str ⟨#[c]⟩, H, I1, ⟨t', rfl⟩, ⟨rfl, c, e1, rfl⟩, ⟨hg, st'⟩, fun b hb => (hf b hb).1⟩⟩
  done := by
    intro X hP hw hK hc i pins s σ H E I hf st hg
    subst hP hw hK
    obtain ⟨f0, f1, f2, f3, f4, f5⟩ := hf it (by simp)
    have e : i = x.cps.size := Nat.le_antisymm st.1 hg
    subst e
    exact (W X.A (I.ok.hd hc)).done s _ _ st.2 fun h' tk eb => ⟨rfl, I.turned (t' := tk) (fun b o hb e => eb b o (by simpa using hb) e) f0 f1 f3 f4 f5⟩
  self := fun A i s Q E st h => hself A i s Q E st.2 h
theorem pi_text {tl : TE} (hl : PE X e tl) : PI X tg e (fun σ H R => tl σ H fun v H1 => ∃ z, v = .str z ∧ R (Itx z) H1) := by
  intro pins s σ H R I h
  refine thn (hl pins s σ H _ I h) fun v s1 ⟨u, H1, I1, r1, q1⟩ => ?_
  obtain ⟨z, rfl, q⟩ := q1
  obtain ⟨t, rfl⟩ := r1
  have fin : ∀ n : String, ["enumerate", "zip", "dict_itemiterator", "dict_reverseitemiterator", "odict_iterator", "itertools.zip_longest", "itertools.pairwise"].contains n = false →
      (∀ A : Around, A.handled = none → Walks X.prog X.w A s1.heap.objs.size [s1.heap.objs.size] [s1.heap.objs.size] z.cps.size (SignAt z) (fun i h => h.IsStrIter s1.heap.objs.size n z t i)) →
      (∀ (A : Around) (i : Nat) (s : Shared) (Q : Value → Shared → Prop) (E : Value → Shared → Prop), s.heap.IsStrIter s1.heap.objs.size n z t i → Q (.ref s1.heap.objs.size) s → wpAny (model X.prog X.w) A (pyIter (.ref s1.heap.objs.size)) Q E s) →
      PIE X pins σ tg R (.ref s1.heap.objs.size) { s1 with heap := s1.heap.push { cls := .type n, data := .fields #[.str z t, .int 0 0] } } := fun n hn W hself => by
    refine ⟨s1.heap.objs.size, [s1.heap.objs.size], _, _, H1, rfl, I1.kept (t' := s1.toks) fun b o e => Heap.get?_push_of_some _ e, turn_text _ hn W hself, ⟨Nat.zero_le _, _, Heap.get?_push_size _ rfl, rfl, rfl⟩, fun b hb => ?_, q⟩
    have e : b = s1.heap.objs.size := by simpa using hb
    subst e
    exact I1.fpOk (Nat.le_refl _) (I1.hok.fresh (Nat.le_refl _))
  cases ha : z.cps.all (· < 128)
  · exact wpAny_pyIter_wide ha (fin "str_iterator" (by decide) (fun A hA => Walks.strWide hA _ z t) fun A i s Q E st q => wpAny_pyIter_striter_wide st q)
  · exact wpAny_pyIter_ascii ha (fin "str_ascii_iterator" (by decide) (fun A hA => Walks.strAscii hA _ z t) fun A i s Q E st q => wpAny_pyIter_striter_ascii st q)
abbrev sgn (x : Str) : List D := x.cps.toList.map fun c => D.str ⟨#[c]⟩
theorem srcOk_text {K : PySem.W.Frag} {H : Hp} : SrcOk K (Itx x) H (sgn x) := by
  intro H3 _
  refine ⟨fun i hi => by simpa [Itx] using hi, fun i d hd => ?_⟩
  rw [List.getElem?_map] at hd
  cases q : x.cps.toList[i]? with
  | none => rw [q] at hd; cases hd
  | some c =>
    rw [q] at hd
    cases hd
    have hi : i < x.cps.size := by simpa using (List.getElem?_eq_some_iff.mp q).1
    refine ⟨hi, fun v H4 ⟨e1, c', e2, e3⟩ => ⟨e1, ?_⟩⟩
    rw [Array.getElem?_toList] at q
    rw [q] at e2
    cases e2
    rw [e3]
    exact .str _
theorem src_text (h : Ev X e ρ (.str x)) : Src X tg e ρ (sgn x) :=
  PI.imp (pi_text h) fun σ H R ⟨r, q⟩ => ⟨r, fun v H1 s1 h1 => ⟨x, h1.str_inv, q _ H1 s1 srcOk_text⟩⟩
theorem wk_text (h : Ev X e ρ (.str x)) : Wk X (fun _ => True) tg e ρ (sgn x) :=
  PI.imp (pi_text h) fun σ H R ⟨r, q⟩ => ⟨r.e, fun v H1 s1 h1 => ⟨x, h1.str_inv, q _ H1 s1 fun _ H3 _ _ _ _ => srcOk_text (K := X.K) (H := H3) H3 (Same.refl H3)⟩⟩
theorem is_strs {K : PySem.W.Frag} {H : Hp} : ∀ xs : List Str, IsAll K H (xs.map V.str) (xs.map D.str)
  | [] => .nil
  | _ :: r => .cons (.str _) (is_strs r)
theorem vals_of_strs : ∀ l : List (Str × Tok), Vals ((l.map (·.1)).map V.str) (strValues l)
  | [] => .nil
  | (_, t) :: r => .cons ⟨t, rfl⟩ (vals_of_strs r)
theorem evn_split (ha : Ev X a ρ (.str x)) (hb : Ev X b ρ (.str y)) (hy : (y.length == 0) = false) (hz : x.length ≤ 100000) (hbase : attributeBase a "split" X.env (eval a X.env) = eval a X.env := by rfl) (hs : starEach [b] X.env = [(false, eval b X.env)] := by rfl) (hline : (p1.endLine == p2.line) = true := by rfl) :
    EvN X (.Call (.Attribute a "split" p1) [b] [] p2) ρ ((Txt.split x y).map D.str) := by
  intro pins s σ H Q I ⟨r, q⟩
  refine Call_method1 hbase hs hline (thn (ha pins s σ H (fun v H1 => v = V.str x ∧ Same H H1) I ⟨r, fun v H1 s1 h1 => ⟨h1.str_inv, s1⟩⟩) fun u s1 hu => ?_)
  obtain ⟨v, H1, I1, rv, rfl, sm⟩ := hu
  obtain ⟨t, rfl⟩ := rv
  have hsz : x.length ≤ sizeLine := by rw [sizeLine_eq]; omega
  refine ⟨"str", _, PySem.F.plainAttrs_str, PySem.F.slot_str_split, PySem.F.type_str_split, typeIs_str _ _ _, (fun _ e => nomatch e), method1_meets PySem.F.slot_str_split PySem.F.entry_str_split (thn (hb pins s1 σ H1 (fun v H2 => v = V.str y ∧ Same H1 H2) I1 ⟨r.mono sm, fun v H2 s2 h2 => ⟨h2.str_inv, s2⟩⟩) fun u2 s2 hu => ?_)⟩
  obtain ⟨v2, H2, I2, rv2, rfl, sm2⟩ := hu
  obtain ⟨t2, rfl⟩ := rv2
  refine ⟨typeIs_str _ _ _, PySem.F.args_str_split_2 _ _, ?_⟩
  have put : ∀ (l : List (Str × Tok)) (k : Nat), l.map (·.1) = Txt.split x y → EP X pins σ Q (.ref s2.heap.objs.size) { s2 with toks := k, heap := s2.heap.push { cls := .type "list", data := .seq (strValues l).toArray } } := fun l k hl => by
    have e := vals_of_strs l
    rw [hl] at e
    have hlen := split_le x y
    refine ⟨.ref s2.heap.objs.size, upd H2 s2.heap.objs.size (.lst ((Txt.split x y).map V.str)), I2.laid (t' := k) (fun b o q => Heap.get?_push_of_some _ q) (Nat.le_refl _) ⟨?_, _, 0, e, Heap.get?_push_size _ rfl⟩, rfl, ?_⟩
    · rw [List.length_map, sizeLine_eq]; omega
    · have nw : H2 s2.heap.objs.size = none := I2.hok.fresh (Nat.le_refl _)
      exact q _ _ _ ((sm.trans sm2).free nw) ((sm.trans sm2).trans (same_new nw)) upd_same (is_strs _)
  cases h1 : (decide (x.length < y.length) || decide (Builtin.Str.strKind x < Builtin.Str.strKind y))
  · cases hf : (Builtin.Str.occurrences x y 0 x.length (x.length + 1)).isEmpty
    · refine ⟨_, meets_str_split_sep x y t t2 h1 hy hf hsz ?_, ?_⟩
      · have := split_le x y
        unfold Txt.split at this
        rw [if_neg (ne_true_of_eq_false h1), if_neg (ne_true_of_eq_false hf)] at this
        rw [sizeLine_eq]; omega
      show wants (EP X pins σ Q) X.xe _ { s2 with toks := _, heap := s2.heap.push { cls := .type "list", data := .seq (strsFrom s2.toks (Builtin.Str.partsBetween x (Builtin.Str.occurrences x y 0 x.length (x.length + 1)) y.length)).toArray } }
      rw [strsFrom_eq]
      exact put (numbered s2.toks _) _ ((numbered_texts _ _).trans ((if_neg (ne_true_of_eq_false h1)).trans (if_neg (ne_true_of_eq_false hf))).symm)
    · exact ⟨_, meets_str_split_not_found x y t t2 h1 hy hf, put [(x, t)] s2.toks ((if_neg (ne_true_of_eq_false h1)).trans (if_pos hf)).symm⟩
  · exact ⟨_, meets_str_split_cannot_occur x y t t2 h1, put [(x, t)] s2.toks (if_pos h1).symm⟩
end
end FL
namespace FL
open PySem PySem.Spec PyProof.Rows L2
def EvF (X : Cx) (e : Expr) (ρ : Ro) (x : Str) : Prop := ∀ (pins : List (Addr × Obj)) (s : Shared) (σ : L2.St) (H : Hp) (Q : Value → Shared → Prop), L2.Inv X pins σ H s → RelE X H σ ρ →
  (∀ H' s' t, L2.Inv X pins σ H' s' → Same H H' → s.toks ≤ t → t < s'.toks → Q (.str x t) s') → wpAny (model X.prog X.w) X.A (eval e X.env) Q X.xe s
def EvP (X : Cx) (e : Expr) (ρ : Ro) (d : D) : Prop := ∀ (pins : List (Addr × Obj)) (s : Shared) (σ : L2.St) (H : Hp) (Q : VK), L2.Inv X pins σ H s → 0 < s.toks → tD X ρ d σ H Q → wpAny (model X.prog X.w) X.A (eval e X.env) (EP X pins σ Q) X.xe s
section
variable {X : Cx} {a b c e : Expr} {ρ : Ro} {x y z : Str} {i : Int} {p1 p2 pos : Pos}
theorem evf_str {j : Nat} : EvF X (.Constant (.str x) j pos) ρ x := fun pins s σ H Q I r q => Calls.Constant_str (q H _ _ (I.tok _) (Same.refl H) (Nat.le_refl _) (Nat.lt_succ_self _))
theorem ev_toks {d : D} (h : Ev X e ρ d) {pins : List (Addr × Obj)} {s : Shared} {σ : L2.St} {H : Hp} {n : Nat} (I : L2.Inv X pins σ H s) (r : RelE X H σ ρ) (hn : n ≤ s.toks) {Q : Value → Shared → Prop}
    (q : ∀ v u H' s', L2.Inv X pins σ H' s' → Same H H' → RelV v u → Is X.K H' v d → n ≤ s'.toks → Q u s') : wpAny (model X.prog X.w) X.A (eval e X.env) Q X.xe s :=
  wpAny_mono (wpAny_toks_of hn (h pins s σ H (fun v H' => Same H H' ∧ Is X.K H' v d) I ⟨r, fun v H' s' i => ⟨s', i⟩⟩)) (fun u s' ⟨k, v, H', I', rv, sm, iv⟩ => q v u H' s' I' sm rv iv k) fun _ _ z => z.2
theorem evf_add (ha : EvF X a ρ x) (hb : EvF X b ρ y) (hz : x.length + y.length ≤ sizeLine) : EvF X (.BinOp a .Add b pos) ρ (x ++ y) := by
  intro pins s σ H Q I r q
  refine wpAny_BinOp (ha pins s σ H _ I r fun H1 s1 t I1 m1 g1 g2 => hb pins s1 σ H1 _ I1 (r.mono m1) fun H2 s2 t2 I2 m2 k1 k2 => ?_)
  refine PySem.P.add_str ?_
  cases hx : (x.length == 0) with
  | true =>
    rw [if_pos rfl]
    have e : x ++ y = y := Str.append_left_empty hx
    rw [e] at q
    exact q H2 s2 t2 I2 (m1.trans m2) (by omega) k2
  | false =>
    rw [if_neg Bool.false_ne_true]
    cases hy : (y.length == 0) with
    | true =>
      rw [if_pos rfl]
      have e : x ++ y = x := Str.append_right_empty hy
      rw [e] at q
      exact q H2 s2 t I2 (m1.trans m2) g1 (by omega)
    | false =>
      rw [if_neg Bool.false_ne_true]
      exact ⟨by show (x.cps ++ y.cps).size ≤ _; rw [Array.size_append]; exact hz, q H2 _ _ (I2.tok _) (m1.trans m2) (by omega) (Nat.lt_succ_self _)⟩
theorem evf_mul (ha : EvF X a ρ x) (hb : Ev X b ρ (.int i)) (ok : MulOk x i) : EvF X (.BinOp a .Mult b pos) ρ (Txt.mul x i) := by
  intro pins s σ H Q I r q
  refine wpAny_BinOp (ha pins s σ H _ I r fun H1 s1 t I1 m1 g1 g2 => ev_toks hb I1 (r.mono m1) (Nat.le_refl _) fun v u H2 s2 I2 m2 rv iv k => ?_)
  cases iv.int_inv
  obtain ⟨t2, rfl⟩ := rv
  refine PySem.P.mul_str ok.1 ok.2.1 ok.2.2 ?_
  unfold Txt.mul at q
  by_cases h1 : i < 1
  · rw [if_pos h1]
    rw [if_pos h1] at q
    exact ⟨by decide, q H2 _ _ (I2.tok _) (m1.trans m2) (by omega) (Nat.lt_succ_self _)⟩
  · rw [if_neg h1]
    rw [if_neg h1] at q
    cases h2 : (i == 1 || x.length == 0) with
    | true =>
      rw [if_pos rfl]
      rw [h2, if_pos rfl] at q
      exact q H2 s2 t I2 (m1.trans m2) g1 (by omega)
    | false =>
      rw [if_neg Bool.false_ne_true]
      rw [h2, if_neg Bool.false_ne_true] at q
      exact ⟨fits_reps (ok.2.2 h1 h2), q H2 _ _ (I2.tok _) (m1.trans m2) (by omega) (Nat.lt_succ_self _)⟩
theorem ev_addP (ha : EvF X a ρ x) (hb : EvP X b ρ (.str y)) (hz : x.length + y.length ≤ sizeLine) : Ev X (.BinOp a .Add b pos) ρ (.str (x ++ y)) := by
  intro pins s σ H Q I ⟨r, q⟩
  refine wpAny_BinOp (ha pins s σ H _ I r fun H1 s1 t I1 m1 g1 g2 => thn (hb pins s1 σ H1 (fun v H2 => v = V.str y ∧ Same H1 H2) I1 (by omega) ⟨r.mono m1, fun v H2 s2 h2 => ⟨h2.str_inv, s2⟩⟩) fun u s2 hu => ?_)
  obtain ⟨v, H2, I2, rv, rfl, m2⟩ := hu
  obtain ⟨t2, rfl⟩ := rv
  exact PyProof.Rows.add_str (fun t' tk => ⟨.str (x ++ y), H2, I2.tok _, ⟨_, rfl⟩, q _ H2 (m1.trans m2) (.str _)⟩) hz
theorem evp_replace (hnb : PySem.W.nsIn X.K cStatics sharingNotToldKey = some none) (ha : Ev X a ρ (.str x)) (hb : EvF X b ρ y) (hc : EvF X c ρ z) (hz : x.length + (x.length + 1) * z.length ≤ 16777216) (hbase : attributeBase a "replace" X.env (eval a X.env) = eval a X.env := by rfl)
    (hs : starEach [b, c] X.env = [(false, eval b X.env), (false, eval c X.env)] := by rfl) (hline : (p1.endLine == p2.line) = true := by rfl) :
    EvP X (.Call (.Attribute a "replace" p1) [b, c] [] p2) ρ (.str (Txt.replace x y z)) := by
  intro pins s σ H Q I h0 ⟨r, q⟩
  refine Call_method2 hbase hs hline (ev_toks ha I r h0 fun v u H1 s1 I1 m1 rv iv k1 => ?_)
  cases iv.str_inv
  obtain ⟨t, rfl⟩ := rv
  refine ⟨"str", _, PySem.F.plainAttrs_str, PySem.F.slot_str_replace, PySem.F.type_str_replace, typeIs_str _ _ _, (fun _ e => nomatch e), ?_⟩
  refine Calls.callWith_builtin rfl (Calls.evalArgs_plain (Calls.spliced_cons (hb pins s1 σ H1 _ I1 (r.mono m1) fun H2 s2 tu I2 m2 a1 a2 => Calls.spliced_cons (hc pins s2 σ H2 _ I2 (r.mono (m1.trans m2)) fun H3 s3 tv I3 m3 b1 b2 => Calls.spliced_nil ?_))))
  have hnb3 : NoneBooked s3.heap := by
    obtain ⟨mc, g1, _⟩ := I3.nolimit
    exact ⟨mc, g1, PySem.W.ns_none_of I3.kIn g1 hnb⟩
  have w1 : 0 < tu := by omega
  have w2 : 0 < tv := by omega
  have w3 : tu < tv := by omega
  exact SC.replaceA (Nat.ne_of_gt w1) (Nat.ne_of_gt w2) (Nat.ne_of_lt w3) hz (fun t' k => ⟨.str _, H3, I3.tok _, ⟨_, rfl⟩, q _ H3 (m1.trans (m2.trans m3)) (.str _)⟩) hnb3
end
end FL
namespace RD
open PySem PySem.NumText PyProof.Rows FL
abbrev dg (n : Nat) : List Nat := (Nat.toDigits 10 n).map Char.toNat
theorem dg_val (n : Nat) : digitsVal (dg n) = n := PySem.W.KIN.val_back n
theorem dg_all (n : Nat) : AllDigits (dg n) := fun c hc => by
  obtain ⟨ch, hch, e⟩ := List.mem_map.mp hc
  have r := digit_range (Nat.isDigit_of_mem_toDigits (by decide) (by decide) hch)
  rw [← e]
  exact r
theorem sI_nat (n : Nat) : (sI (n : Int)).cps.toList = dg n := PySem.W.KIN.signs_num n
theorem val_acc : ∀ (r : List Nat) (a : Nat), r.foldl (fun acc c => acc * 10 + (c - 48)) a = a * 10 ^ r.length + digitsVal r
  | [], a => by simp [digitsVal]
  | c :: r, a => by
    have e : digitsVal (c :: r) = r.foldl (fun acc c => acc * 10 + (c - 48)) (0 * 10 + (c - 48)) := rfl
    rw [List.foldl_cons, val_acc r, e, val_acc r, List.length_cons, Nat.pow_succ, Nat.add_mul, Nat.add_mul, Nat.zero_mul, Nat.zero_add, Nat.mul_assoc, Nat.mul_comm 10 (10 ^ r.length), Nat.add_assoc]
theorem val_app (l r : List Nat) : digitsVal (l ++ r) = digitsVal l * 10 ^ r.length + digitsVal r := by
  have e : digitsVal (l ++ r) = r.foldl (fun acc c => acc * 10 + (c - 48)) (digitsVal l) := by unfold digitsVal; rw [List.foldl_append]
  rw [e, val_acc]
theorem val_zeros (k : Nat) (l : List Nat) : digitsVal (List.replicate k 48 ++ l) = digitsVal l := by
  induction k with
  | zero => rfl
  | succ k ih => rw [List.replicate_succ]; exact ih
theorem chars_back : ∀ {l : List Nat}, AllDigits l → (l.map Char.ofNat).map Char.toNat = l
  | [], _ => rfl
  | c :: l, h => by
    have hc := h.head
    rw [List.map_cons, List.map_cons, chars_back h.tail]
    have e : (Char.ofNat c).toNat = c := by
      have : ∀ c : Nat, c < 58 → (Char.ofNat c).toNat = c := by decide
      exact this c (by omega)
    rw [e]
theorem dg_of {c : Nat} {r : List Nat} (h : AllDigits (c :: r)) (h9 : 49 ≤ c) : dg (digitsVal (c :: r)) = c :: r := by
  have e := toDigits_digitsVal r.length (c :: r) rfl h (.inr ⟨c, r, rfl, h9⟩)
  show (Nat.toDigits 10 (digitsVal (c :: r))).map Char.toNat = _
  rw [e, chars_back h]
theorem dg_head {n : Nat} (h : 0 < n) : ∃ c r, dg n = c :: r ∧ 49 ≤ c := by
  induction n using Nat.strongRecOn with
  | _ n ih =>
    by_cases h10 : n < 10
    · refine ⟨48 + n, [], ?_, by omega⟩
      show (Nat.toDigits 10 n).map Char.toNat = _
      rw [Nat.toDigits_of_lt_base h10]
      have : ∀ n : Nat, n < 10 → [n.digitChar].map Char.toNat = [48 + n] := by decide
      exact this n h10
    · obtain ⟨c, r, e, h9⟩ := ih (n / 10) (by omega) (by omega)
      have hm : n % 10 < 10 := Nat.mod_lt n (by decide)
      have t : Nat.toDigits 10 (n / 10) ++ Nat.toDigits 10 (n % 10) = Nat.toDigits 10 (10 * (n / 10) + n % 10) := Nat.toDigits_append_toDigits (by decide) (by omega) hm
      rw [Nat.div_add_mod] at t
      refine ⟨c, r ++ dg (n % 10), ?_, h9⟩
      show (Nat.toDigits 10 n).map Char.toNat = _
      rw [← t, List.map_append]
      show dg (n / 10) ++ dg (n % 10) = _
      rw [e, List.cons_append]
theorem dg_zero : dg 0 = [48] := by decide
theorem dg_len {n k : Nat} (hk : 0 < k) (h : n < 10 ^ k) : (dg n).length ≤ k := by
  have := toString_length_le (v := (n : Int)) (by omega) hk (by exact_mod_cast h)
  rw [← sI_nat, Array.length_toList]
  exact this
theorem all_app {l r : List Nat} (h1 : AllDigits l) (h2 : AllDigits r) : AllDigits (l ++ r) := fun c hc => by
  rcases List.mem_append.mp hc with z | z
  · exact h1 c z
  · exact h2 c z
theorem all_zeros (k : Nat) : AllDigits (List.replicate k 48) := fun c hc => by
  rw [List.mem_replicate] at hc
  omega
theorem dg_parts {q r k : Nat} (hq : 0 < q) (hr : r < 10 ^ k) (hk : 0 < k) : dg (q * 10 ^ k + r) = dg q ++ (List.replicate (k - (dg r).length) 48 ++ dg r) := by
  obtain ⟨c, t, e, h9⟩ := dg_head hq
  have hl := dg_len hk hr
  have hlen : (List.replicate (k - (dg r).length) 48 ++ dg r).length = k := by rw [List.length_append, List.length_replicate]; omega
  have hv : digitsVal (dg q ++ (List.replicate (k - (dg r).length) 48 ++ dg r)) = q * 10 ^ k + r := by rw [val_app, hlen, val_zeros, dg_val, dg_val]
  have ha : AllDigits (dg q ++ (List.replicate (k - (dg r).length) 48 ++ dg r)) := all_app (dg_all q) (all_app (all_zeros _) (dg_all r))
  rw [e, List.cons_append] at hv ha ⊢
  rw [← hv]
  exact dg_of ha h9
theorem fill_pad {x : Str} {i : Nat} (h : AllDigits x.cps.toList) : Txt.zfill x (i : Int) = pad 48 (i - x.length) x := by
  unfold Txt.zfill
  split
  · rename_i z
    have : i - x.length = 0 := by omega
    rw [this, pad_zero]
  · have e : Int.toNat (i : Int) = i := Int.toNat_natCast i
    rw [e]
    unfold zfilled
    have pd : Builtin.Str.padded x (i - x.length) 0 48 = pad 48 (i - x.length) x := by
      refine str_ext ?_
      unfold Builtin.Str.padded pad
      simp
    split
    · rename_i z
      have hm : (43 : Nat) ∈ x.cps.toList := by
        rw [← Array.getElem?_toList] at z
        exact List.mem_of_getElem? z
      have := h _ hm
      omega
    · rename_i z
      have hm : (45 : Nat) ∈ x.cps.toList := by
        rw [← Array.getElem?_toList] at z
        exact List.mem_of_getElem? z
      have := h _ hm
      omega
    · exact pd
theorem sI_parts {q r : Nat} (hq : 0 < q) (hr : r < 10 ^ 64) : sI ((q * 10 ^ 64 + r : Nat) : Int) = sI (q : Int) ++ Txt.zfill (sI (r : Int)) ((64 : Nat) : Int) := by
  refine str_ext ?_
  rw [fill_pad (by rw [sI_nat]; exact dg_all r), sI_nat, dg_parts hq hr (by decide)]
  show _ = ((sI (q : Int)).cps ++ (pad 48 (64 - (sI (r : Int)).length) (sI (r : Int))).cps).toList
  rw [Array.toList_append, sI_nat]
  have : (sI (r : Int)).length = (dg r).length := by rw [← sI_nat, Array.length_toList]; rfl
  rw [this]
  unfold pad
  simp only [sI_nat]
theorem intT {x : Str} (h : AllDigits x.cps.toList) (h1 : x.cps.toList ≠ []) (h2 : x.length ≤ 640) : PySem.intText? x = some ((digitsVal x.cps.toList : Nat) : Int) := intText_digits h h1 (Nat.le_trans h2 (by decide))
def isFig (c : Nat) : Bool := decide (48 ≤ c) && decide (c ≤ 57)
def figs (l : List Nat) : Bool := !l.isEmpty && (l.head? != some 48) && l.all isFig
theorem figs_all {l : List Nat} (h : figs l = true) : AllDigits l ∧ ∃ c r, l = c :: r ∧ 49 ≤ c := by
  unfold figs at h
  simp only [Bool.and_eq_true, Bool.not_eq_true', List.all_eq_true] at h
  obtain ⟨⟨h1, h2⟩, h3⟩ := h
  have ha : AllDigits l := fun c hc => by
    have := h3 c hc
    unfold isFig at this
    simpa using this
  refine ⟨ha, ?_⟩
  cases l with
  | nil => simp at h1
  | cons c r =>
    refine ⟨c, r, rfl, ?_⟩
    have := ha c (by simp)
    have h2' : c ≠ 48 := by simpa using h2
    omega
theorem figs_of {c : Nat} {r : List Nat} (h : AllDigits (c :: r)) (h9 : 49 ≤ c) : figs (c :: r) = true := by
  unfold figs
  simp only [Bool.and_eq_true, List.all_eq_true]
  refine ⟨⟨by simp, by simp; omega⟩, fun d hd => ?_⟩
  have := h d hd
  unfold isFig
  simpa using this
def nr (l : List Nat) : Option Int :=
  if l = [48] then some 0
  else if l.head? = some 45 then (if figs (l.drop 1) then some (-(digitsVal (l.drop 1) : Int)) else none)
  else if figs l then some (digitsVal l : Int) else none
theorem nr_dg (i : Int) : nr (sI i).cps.toList = some i := by
  by_cases neg : i < 0
  · obtain ⟨n, rfl⟩ : ∃ n : Nat, i = -((n + 1 : Nat) : Int) := ⟨i.natAbs - 1, by omega⟩
    have e : (sI (-((n + 1 : Nat) : Int))).cps.toList = 45 :: dg (n + 1) := by
      rw [CM.sI_neg]
      show ((Str.ofString "-").cps ++ (sI ((n + 1 : Nat) : Int)).cps).toList = _
      rw [Array.toList_append, sI_nat]
      rfl
    obtain ⟨c, r, e2, h9⟩ := dg_head (n := n + 1) (by omega)
    have ha := dg_all (n + 1)
    have hv := dg_val (n + 1)
    rw [e]
    unfold nr
    rw [if_neg (by intro z; injection z with z _; exact absurd z (by decide)), if_pos (show (45 :: dg (n + 1)).head? = some 45 from rfl), List.drop_one, List.tail_cons]
    rw [e2] at ha hv ⊢
    rw [if_pos (figs_of ha h9), hv]
  · obtain ⟨n, rfl⟩ : ∃ n : Nat, i = (n : Int) := ⟨i.natAbs, by omega⟩
    rw [sI_nat]
    by_cases h0 : n = 0
    · subst h0
      rw [dg_zero]
      rfl
    · obtain ⟨c, r, e2, h9⟩ := dg_head (n := n) (by omega)
      have ha := dg_all n
      have hv := dg_val n
      unfold nr
      rw [e2] at ha hv ⊢
      have hc := ha c (by simp)
      rw [if_neg (by intro z; injection z with z _; omega), if_neg (by intro z; injection z with z; omega), if_pos (figs_of ha h9), hv]
abbrev sg (x : Str) : List Nat := x.cps.toList
theorem sg_len (x : Str) : (sg x).length = x.length := Array.length_toList
theorem sg_app (x y : Str) : sg (x ++ y) = sg x ++ sg y := Array.toList_append ..
theorem starts_one (x : Str) (c : Nat) : Txt.startswith x ⟨#[c]⟩ = decide ((sg x).head? = some c) := by
  unfold Txt.startswith
  have e : (⟨#[c]⟩ : Str).length = 1 := rfl
  rw [StrLaws.subAt_eq, e]
  show (decide (0 + 1 ≤ x.length) && ((List.drop 0 (sg x)).take 1 == [c])) = _
  rw [← sg_len]
  cases sg x with
  | nil => simp
  | cons d r =>
    by_cases h : d = c
    · subst h; simp
    · simp [h]
theorem ends_one (x : Str) (c : Nat) : Txt.endswith x ⟨#[c]⟩ = decide ((sg x).getLast? = some c) := by
  unfold Txt.endswith
  have e : (⟨#[c]⟩ : Str).length = 1 := rfl
  rw [StrLaws.subAt_eq, e]
  show (decide (0 + 1 ≤ x.length) && ((List.drop (x.length - 1) (sg x)).take 1 == [c])) = _
  rw [← sg_len]
  rcases List.eq_nil_or_concat (sg x) with h | ⟨l, d, h⟩
  · rw [h]; simp
  · rw [h, List.concat_eq_append]
    have e1 : (l ++ [d]).length - 1 = l.length := by simp
    rw [e1, List.drop_left, List.getLast?_append]
    by_cases hd : d = c
    · subst hd; simp
    · simp [hd]
theorem slice_ab (x : Str) {a b : Nat} (hab : a ≤ b) (hb : b ≤ x.length) : sg (Txt.slice x (some (a : Int)) (some (b : Int))) = ((sg x).drop a).take (b - a) := by
  unfold Txt.slice
  have e := StrLaws.sliced_plain x hab hb
  split
  · rename_i h
    have hl : (Builtin.Str.strSliceIndices (some (a : Int)) (some (b : Int)) 1 x.length).length = x.length := by simpa using h
    rw [StrLaws.strSliceIndices_plain hab hb, List.length_map, List.length_range] at hl
    have h1 : a = 0 := by omega
    have h2 : b = x.length := by omega
    subst h1 h2
    rw [List.drop_zero, Nat.sub_zero, ← sg_len, List.take_length]
  · show (List.filterMap _ _) = _
    rw [e]
end RD
namespace RD
open PySem PySem.NumText PyProof.Rows FL
theorem slice_from (x : Str) {a : Nat} (ha : a ≤ x.length) : sg (Txt.slice x (some (a : Int)) none) = (sg x).drop a := by
  have e : Txt.slice x (some (a : Int)) none = Txt.slice x (some (a : Int)) (some ((x.length : Nat) : Int)) := by
    unfold Txt.slice
    rw [StrLaws.sliceIdx_none_hi]
  rw [e, slice_ab x ha (Nat.le_refl _), List.take_of_length_le (by rw [List.length_drop, sg_len]; omega)]
theorem slice_to (x : Str) {b : Nat} (hb : b ≤ x.length) : sg (Txt.slice x none (some (b : Int))) = (sg x).take b := by
  have e : Txt.slice x none (some (b : Int)) = Txt.slice x (some ((0 : Nat) : Int)) (some (b : Int)) := by
    unfold Txt.slice
    rw [StrLaws.sliceIdx_none_lo]
    rfl
  rw [e, slice_ab x (Nat.zero_le _) hb, List.drop_zero, Nat.sub_zero]
theorem slice_mid (x : Str) (h : 2 ≤ x.length) : sg (Txt.slice x (some 1) (some (-1))) = ((sg x).drop 1).take (x.length - 2) := by
  have e : Txt.slice x (some 1) (some (-1)) = Txt.slice x (some ((1 : Nat) : Int)) (some ((x.length - 1 : Nat) : Int)) := by
    unfold Txt.slice
    rw [StrLaws.sliceIdx_neg_hi (some 1) (j := -1) x.length (by decide) (by omega)]
    have e1 : (-1 : Int) + (x.length : Int) = ((x.length - 1 : Nat) : Int) := by omega
    rw [e1]
    rfl
  rw [e, slice_ab x (by omega) (by omega)]
  congr 1
theorem strip_sg (x : Str) : sg (Txt.stripChars x ⟨#[32]⟩) = (((sg x).dropWhile (· == 32)).reverse.dropWhile (· == 32)).reverse := by
  have goes : ∀ c : Nat, (#[32] : Array Nat).contains c = (c == 32) := fun c => by simp [Bool.beq_eq_decide_eq, eq_comm]
  have tw : ∀ l : List Nat, l.takeWhile (fun c => (#[32] : Array Nat).contains c) = l.takeWhile (· == 32) := fun l => by simp only [goes]
  have dr : ∀ (p : Nat → Bool) (l : List Nat), l.drop (l.takeWhile p).length = l.dropWhile p := fun p l => by
    induction l with
    | nil => rfl
    | cons c l ih =>
      by_cases h : p c
      · simp [List.takeWhile_cons, List.dropWhile_cons, h, ih]
      · simp [List.takeWhile_cons, List.dropWhile_cons, h]
  have main : sg (stripped (#[32] : Array Nat).contains true true x) = (((sg x).dropWhile (· == 32)).reverse.dropWhile (· == 32)).reverse := by
    unfold stripped
    refine (StrLaws.strSub_toList _ _ _).trans ?_
    show ((sg x).drop ((sg x).takeWhile fun c => (#[32] : Array Nat).contains c).length).take (x.length - (((sg x).drop ((sg x).takeWhile fun c => (#[32] : Array Nat).contains c).length).reverse.takeWhile fun c => (#[32] : Array Nat).contains c).length - ((sg x).takeWhile fun c => (#[32] : Array Nat).contains c).length) = _
    rw [tw, tw, dr]
    generalize hm : (sg x).dropWhile (· == 32) = m
    have hl : m.length = x.length - ((sg x).takeWhile (· == 32)).length := by rw [← hm, ← dr, List.length_drop, sg_len]
    have hle : ((m.reverse).takeWhile (· == 32)).length ≤ m.length := by
      have := List.takeWhile_prefix (p := (· == 32)) (l := m.reverse)
      have := this.length_le
      rwa [List.length_reverse] at this
    have e2 : x.length - (m.reverse.takeWhile (· == 32)).length - ((sg x).takeWhile (· == 32)).length = m.length - (m.reverse.takeWhile (· == 32)).length := by omega
    rw [e2, ← dr (· == 32) m.reverse, List.reverse_drop, List.reverse_reverse, List.length_reverse]
  unfold Txt.stripChars Txt.stripBy
  split
  · rename_i h
    have e : x = stripped (#[32] : Array Nat).contains true true x := by
      unfold stripSame at h
      simp only [Bool.and_eq_true, beq_iff_eq] at h
      unfold stripped
      refine str_ext ?_
      rw [StrLaws.strSub_toList, h.2, h.1, List.drop_zero, Nat.sub_zero]
      show sg x = (sg x).take x.length
      rw [← sg_len, List.take_length]
    conv => lhs; rw [e]
    exact main
  · exact main
theorem strip_id {x : Str} (h1 : (sg x).head? ≠ some 32) (h2 : (sg x).getLast? ≠ some 32) : Txt.stripChars x ⟨#[32]⟩ = x := by
  refine str_ext ?_
  show sg _ = sg x
  rw [strip_sg]
  have dw : ∀ l : List Nat, l.head? ≠ some 32 → l.dropWhile (· == 32) = l := fun l hl => by
    cases l with
    | nil => rfl
    | cons c l =>
      have : c ≠ 32 := by simpa using hl
      simp [List.dropWhile_cons, this]
  rw [dw _ h1, dw _ (by rw [List.head?_reverse]; exact h2), List.reverse_reverse]
theorem strip_front {x y : Str} (hx : sg x = 32 :: sg y) (h1 : (sg y).head? ≠ some 32) (h2 : (sg y).getLast? ≠ some 32) : Txt.stripChars x ⟨#[32]⟩ = y := by
  have e : Txt.stripChars x ⟨#[32]⟩ = Txt.stripChars y ⟨#[32]⟩ := by
    refine str_ext ?_
    show sg _ = sg _
    rw [strip_sg, strip_sg, hx]
    simp [List.dropWhile_cons]
  rw [e, strip_id h1 h2]
theorem strip_le (x y : Str) : (Txt.stripChars x y).length ≤ x.length := len_stripChars x y
theorem join_cons2 (sep x y : Str) (r : List Str) : Str.join sep (x :: y :: r) = x ++ sep ++ Str.join sep (y :: r) := rfl
theorem cut_first {c : Nat} : ∀ {p q r s : List Nat}, c ∉ p → c ∉ q → p ++ c :: r = q ++ c :: s → p = q ∧ r = s
  | [], [], _, _, _, _, h => ⟨rfl, (List.cons.inj h).2⟩
  | [], b :: q, _, _, _, hq, h => by
    have := (List.cons.inj h).1
    exact absurd (by rw [this]; simp) hq
  | a :: p, [], _, _, hp, _, h => by
    have := (List.cons.inj h).1
    exact absurd (by rw [← this]; simp) hp
  | a :: p, b :: q, r, s, hp, hq, h => by
    obtain ⟨e1, e2⟩ := List.cons.inj h
    obtain ⟨e3, e4⟩ := cut_first (fun z => hp (List.mem_cons_of_mem _ z)) (fun z => hq (List.mem_cons_of_mem _ z)) e2
    exact ⟨by rw [e1, e3], e4⟩
theorem sg_inj {x y : Str} (h : sg x = sg y) : x = y := str_ext h
theorem parts_uniq {c : Nat} : ∀ {ps qs : List Str}, ps ≠ [] → qs ≠ [] → (∀ p ∈ ps, c ∉ sg p) → (∀ q ∈ qs, c ∉ sg q) → Str.join ⟨#[c]⟩ ps = Str.join ⟨#[c]⟩ qs → ps = qs
  | [], _, h, _, _, _, _ => absurd rfl h
  | _, [], _, h, _, _, _ => absurd rfl h
  | [p], [q], _, _, _, _, h => by
    have h' : p = q := h
    rw [h']
  | [p], q :: q' :: qs, _, _, hp, _, h => by
    have h' : p = q ++ ⟨#[c]⟩ ++ Str.join ⟨#[c]⟩ (q' :: qs) := h
    have e := congrArg sg h'
    rw [sg_app, sg_app] at e
    exact absurd (by rw [e]; simp) (hp p (by simp))
  | p :: p' :: ps, [q], _, _, _, hq, h => by
    have h' : p ++ ⟨#[c]⟩ ++ Str.join ⟨#[c]⟩ (p' :: ps) = q := h
    have e := congrArg sg h'
    rw [sg_app, sg_app] at e
    exact absurd (by rw [← e]; simp) (hq q (by simp))
  | p :: p' :: ps, q :: q' :: qs, _, _, hp, hq, h => by
    have e := congrArg sg h
    rw [join_cons2, join_cons2, sg_app, sg_app, sg_app, sg_app] at e
    have e' : sg p ++ c :: sg (Str.join ⟨#[c]⟩ (p' :: ps)) = sg q ++ c :: sg (Str.join ⟨#[c]⟩ (q' :: qs)) := by
      have e0 : sg ⟨#[c]⟩ = [c] := rfl
      rw [e0] at e
      simpa using e
    obtain ⟨e1, e2⟩ := cut_first (hp p (by simp)) (hq q (by simp)) e'
    rw [sg_inj e1, parts_uniq (by simp) (by simp) (fun z hz => hp z (List.mem_cons_of_mem _ hz)) (fun z hz => hq z (List.mem_cons_of_mem _ hz)) (sg_inj e2)]
theorem split_join {c : Nat} {ps : List Str} (h0 : ps ≠ []) (h : ∀ p ∈ ps, c ∉ sg p) : Txt.split (Str.join ⟨#[c]⟩ ps) ⟨#[c]⟩ = ps := by
  refine parts_uniq (c := c) (fun z => ?_) h0 (fun q hq => StrLaws.split_free _ c q hq) h (StrLaws.join_split _ _)
  have := split_pos (Str.join ⟨#[c]⟩ ps) ⟨#[c]⟩
  rw [z] at this
  simp at this
theorem cnt_app (c : Nat) : ∀ l r : List Nat, cnt c (l ++ r) = cnt c l + cnt c r
  | [], r => by rw [cnt_nil, List.nil_append]; omega
  | a :: l, r => by rw [List.cons_append, cnt_cons, cnt_cons, cnt_app c l r]; omega
theorem cnt_free {c : Nat} : ∀ {l : List Nat}, c ∉ l → cnt c l = 0
  | [], _ => cnt_nil c
  | a :: l, h => by
    rw [cnt_cons, cnt_free fun z => h (List.mem_cons_of_mem _ z), if_neg fun z => h (by rw [z]; simp)]
    rfl
theorem cnt_join {c : Nat} : ∀ {ps : List Str}, ps ≠ [] → (∀ p ∈ ps, c ∉ sg p) → cnt c (sg (Str.join ⟨#[c]⟩ ps)) + 1 = ps.length
  | [], h, _ => absurd rfl h
  | [p], _, h => by
    show cnt c (sg p) + 1 = 1
    rw [cnt_free (h p (by simp))]
    rfl
  | p :: q :: r, _, h => by
    have ih := cnt_join (c := c) (ps := q :: r) (by simp) fun z hz => h z (List.mem_cons_of_mem _ hz)
    rw [join_cons2, sg_app, sg_app, cnt_app, cnt_app, cnt_free (h p (by simp))]
    have e : cnt c (sg ⟨#[c]⟩) = 1 := by
      show cnt c [c] = 1
      rw [cnt_cons, cnt_nil, if_pos rfl]
      rfl
    rw [e]
    rw [List.length_cons]
    omega
theorem cnt_split (x : Str) (c : Nat) : cnt c (sg x) + 1 = (Txt.split x ⟨#[c]⟩).length := by
  have h := cnt_join (c := c) (ps := Txt.split x ⟨#[c]⟩) (fun z => by
    have := split_pos x ⟨#[c]⟩
    rw [z] at this
    simp at this) (StrLaws.split_free x c)
  rw [StrLaws.join_split] at h
  exact h
end RD
namespace RD
open PySem PySem.NumText PyProof.Rows FL
theorem s_blank : Str.ofString " " = ⟨#[32]⟩ := by decide +kernel
theorem s_comma : Str.ofString "," = ⟨#[44]⟩ := by decide +kernel
theorem s_open : Str.ofString "[" = ⟨#[91]⟩ := by decide +kernel
theorem s_shut : Str.ofString "]" = ⟨#[93]⟩ := by decide +kernel
theorem s_minus : Str.ofString "-" = ⟨#[45]⟩ := by decide +kernel
abbrev tr (x : Str) : Str := Txt.stripChars x ⟨#[32]⟩
theorem tr_le (x : Str) : (tr x).length ≤ x.length := strip_le x _
def inn (x : Str) : Option Str := if (sg (tr x)).head? = some 91 ∧ (sg (tr x)).getLast? = some 93 then some (Txt.slice (tr x) (some 1) (some (-1))) else none
theorem inn_two {x : Str} (h : (sg (tr x)).head? = some 91 ∧ (sg (tr x)).getLast? = some 93) : 2 ≤ (tr x).length := by
  rw [← sg_len]
  obtain ⟨h1, h2⟩ := h
  match hl : sg (tr x) with
  | [] => rw [hl] at h1; cases h1
  | [c] =>
    rw [hl] at h1 h2
    cases h1
    cases h2
  | _ :: _ :: _ => simp
theorem inn_sg {x m : Str} (h : inn x = some m) : sg (tr x) = 91 :: (sg m ++ [93]) := by
  unfold inn at h
  split at h
  · rename_i hc
    cases h
    have h2 := inn_two hc
    rw [slice_mid _ h2]
    obtain ⟨c1, c2⟩ := hc
    rw [← sg_len] at h2 ⊢
    generalize sg (tr x) = l at c1 c2 h2
    match l, c1, c2, h2 with
    | c :: r, c1, c2, h2 =>
      cases c1
      rcases List.eq_nil_or_concat r with e | ⟨q, d, e⟩
      · subst e; simp at h2
      · rw [List.concat_eq_append] at e
        subst e
        have : d = 93 := by
          have e2 : (91 :: (q ++ [d])).getLast? = some d := by
            rw [← List.cons_append, List.getLast?_append]
            rfl
          rw [e2] at c2
          exact Option.some.inj c2
        subst this
        simp
  · cases h
theorem inn_le {x m : Str} (h : inn x = some m) : m.length ≤ x.length := by
  have e := congrArg List.length (inn_sg h)
  rw [sg_len, List.length_cons, List.length_append, sg_len] at e
  have := tr_le x
  simp at e
  omega
theorem inn_cnt {x m : Str} (h : inn x = some m) : cnt 44 (sg (tr x)) = cnt 44 (sg m) := by
  rw [inn_sg h, cnt_cons, cnt_app, cnt_cons, cnt_nil, if_neg (by decide), if_neg (by decide)]
  omega
def wrN (p : Str) : Option Int := nr (sg (tr p))
def wrt (x : Str) : Option (Int × Int × Int) :=
  match inn x with
  | none => none
  | some m => match Txt.split m ⟨#[44]⟩ with
    | [p, q, r] => match wrN p, wrN q, wrN r with
      | some a, some b, some c => some (a, b, c)
      | _, _, _ => none
    | _ => none
theorem sI_signs (i : Int) : ∀ c ∈ sg (sI i), c = 45 ∨ (48 ≤ c ∧ c ≤ 57) := by
  intro c hc
  by_cases neg : i < 0
  · obtain ⟨n, rfl⟩ : ∃ n : Nat, i = -((n + 1 : Nat) : Int) := ⟨i.natAbs - 1, by omega⟩
    rw [CM.sI_neg, sg_app] at hc
    rcases List.mem_append.mp hc with z | z
    · rw [s_minus] at z
      left
      simpa using z
    · exact .inr (dg_all (n + 1) c (by rw [← sI_nat]; exact z))
  · obtain ⟨n, rfl⟩ : ∃ n : Nat, i = (n : Int) := ⟨i.natAbs, by omega⟩
    exact .inr (dg_all n c (by rw [← sI_nat]; exact hc))
theorem sI_ends (i : Int) : (sg (sI i)).head? ≠ some 32 ∧ (sg (sI i)).getLast? ≠ some 32 := by
  constructor
  · intro z
    have := sI_signs i 32 (List.mem_of_mem_head? z)
    omega
  · intro z
    have := sI_signs i 32 (List.mem_of_mem_getLast? z)
    omega
theorem wrN_sI (i : Int) : wrN (sI i) = some i := by
  unfold wrN tr
  rw [strip_id (sI_ends i).1 (sI_ends i).2, nr_dg]
theorem wrN_blank (i : Int) : wrN (⟨#[32]⟩ ++ sI i) = some i := by
  unfold wrN tr
  rw [strip_front (y := sI i) (by rw [sg_app]; rfl) (sI_ends i).1 (sI_ends i).2, nr_dg]
theorem wrt_form (a b c : Int) : wrt (CM.formS a b c) = some (a, b, c) := by
  have s2 : Str.ofString ", " = ⟨#[44, 32]⟩ := by decide +kernel
  have e0 : sg (CM.formS a b c) = 91 :: (sg (sI a) ++ 44 :: 32 :: (sg (sI b) ++ 44 :: 32 :: sg (sI c)) ++ [93]) := by
    unfold CM.formS
    rw [s2, s_open, s_shut]
    simp only [sg_app]
    simp [sg]
  have et : tr (CM.formS a b c) = CM.formS a b c := strip_id (by rw [e0]; simp) (by
    rw [e0, ← List.cons_append, List.getLast?_append]
    simp)
  have hc : (sg (tr (CM.formS a b c))).head? = some 91 ∧ (sg (tr (CM.formS a b c))).getLast? = some 93 := by
    rw [et, e0]
    refine ⟨rfl, ?_⟩
    rw [← List.cons_append, List.getLast?_append]
    rfl
  obtain ⟨m, hm⟩ : ∃ m, inn (CM.formS a b c) = some m := ⟨_, if_pos hc⟩
  have em : m = Str.join ⟨#[44]⟩ [sI a, ⟨#[32]⟩ ++ sI b, ⟨#[32]⟩ ++ sI c] := by
    refine sg_inj ?_
    have e1 := inn_sg hm
    rw [et, e0] at e1
    have e2 := (List.cons.inj e1).2
    have e3 := List.append_inj_left' e2 rfl
    rw [← e3]
    show _ = sg (sI a ++ ⟨#[44]⟩ ++ (⟨#[32]⟩ ++ sI b ++ ⟨#[44]⟩ ++ (⟨#[32]⟩ ++ sI c)))
    simp only [sg_app]
    simp [sg]
  have free : ∀ i : Int, 44 ∉ sg (sI i) := fun i z => by have := sI_signs i 44 z; omega
  have free2 : ∀ i : Int, 44 ∉ sg (⟨#[32]⟩ ++ sI i) := fun i z => by
    rw [sg_app] at z
    rcases List.mem_append.mp z with z | z
    · exact absurd z (by decide)
    · exact free i z
  have es : Txt.split m ⟨#[44]⟩ = [sI a, ⟨#[32]⟩ ++ sI b, ⟨#[32]⟩ ++ sI c] := by
    rw [em]
    refine split_join (by simp) fun p hp => ?_
    simp only [List.mem_cons, List.not_mem_nil, or_false] at hp
    rcases hp with rfl | rfl | rfl
    · exact free a
    · exact free2 b
    · exact free2 c
  unfold wrt
  rw [hm]
  dsimp only
  rw [es]
  dsimp only
  rw [wrN_sI, wrN_blank, wrN_blank]
theorem in_figs (c : Nat) : Txt.contains (Str.ofString "0123456789") ⟨#[c]⟩ = isFig c := by
  unfold Txt.contains
  rw [StrLaws.found_one]
  have e : (Str.ofString "0123456789").cps.toList = [48, 49, 50, 51, 52, 53, 54, 55, 56, 57] := by decide +kernel
  rw [e]
  unfold isFig
  by_cases h : 48 ≤ c ∧ c ≤ 57
  · rw [decide_eq_true h.1, decide_eq_true h.2, Bool.and_self]
    refine decide_eq_true ?_
    simp only [List.mem_cons, List.not_mem_nil, or_false]
    omega
  · have : ¬ (c ∈ [48, 49, 50, 51, 52, 53, 54, 55, 56, 57]) := by
      simp only [List.mem_cons, List.not_mem_nil, or_false]
      omega
    rw [decide_eq_false this]
    by_cases h1 : 48 ≤ c
    · rw [decide_eq_true h1, decide_eq_false (fun z => h ⟨h1, z⟩)]; rfl
    · rw [decide_eq_false h1]; rfl
theorem in_figs1 (c : Nat) : Txt.contains (Str.ofString "123456789") ⟨#[c]⟩ = (isFig c && c != 48) := by
  unfold Txt.contains
  rw [StrLaws.found_one]
  have e : (Str.ofString "123456789").cps.toList = [49, 50, 51, 52, 53, 54, 55, 56, 57] := by decide +kernel
  rw [e]
  unfold isFig
  by_cases h : 49 ≤ c ∧ c ≤ 57
  · have h1 : 48 ≤ c := by omega
    have h2 : (c != 48) = true := by simp; omega
    rw [decide_eq_true h1, decide_eq_true h.2, h2]
    refine decide_eq_true ?_
    simp only [List.mem_cons, List.not_mem_nil, or_false]
    omega
  · have : ¬ (c ∈ [49, 50, 51, 52, 53, 54, 55, 56, 57]) := by
      simp only [List.mem_cons, List.not_mem_nil, or_false]
      omega
    rw [decide_eq_false this]
    by_cases h48 : c = 48
    · subst h48; rfl
    · by_cases h1 : 48 ≤ c
      · rw [decide_eq_true h1, decide_eq_false (show ¬ c ≤ 57 by omega)]; rfl
      · rw [decide_eq_false h1]; rfl
end RD
namespace CM
open PySem PySem.Spec L2 FL FT FU
abbrev veM : List Value := [Value.type "ValueError", Value.type "Exception", Value.type "BaseException", Value.type "object"]
def p_is_formB (ds : List D) (d : D) : Prop := ∃ a b c : Int, ds = [formD a b c] ∧ Bd a 8000 ∧ Bd b 8000 ∧ Bd c 8000 ∧ d = .bl (decide (0 < a) && decide (b * b - 4 * a * c < 0))
def x_require_form (Cn : Addr) (ds : List D) (C : Addr) : Prop := ∃ a b c : Int, ds = [formD a b c] ∧ Bd a 8000 ∧ Bd b 8000 ∧ Bd c 8000 ∧ ¬ (0 < a ∧ b * b - 4 * a * c < 0) ∧ C = Cn
end CM
namespace FL
open PySem PySem.Spec PyProof.Rows L2
section
variable {X : Cx} {a b : Expr} {ρ : Ro} {pos : Pos} {i : Int} {ds : List D}
theorem et_isNI (ha : Ev X a ρ (.int i)) (hb : Ev X b ρ .non) : Et X (.Compare a [.Is] [b] pos) ρ false :=
  et_cmp op_isN ha hb (nomark _) fun v1 v2 H Q h1 h2 q => by
    cases h1.int_inv
    exact ⟨h2.non_inv, by rw [decide_eq_false (fun z => by cases z)]; exact q _ H (Same.refl H) (.bl _)⟩
theorem et_isNT (ha : Ev X a ρ (.tup ds)) (hb : Ev X b ρ .non) : Et X (.Compare a [.Is] [b] pos) ρ false :=
  et_cmp op_isN ha hb (nomark _) fun v1 v2 H Q h1 h2 q => by
    obtain ⟨p, xs, rfl, _⟩ := h1.tup_inv
    exact ⟨h2.non_inv, by rw [decide_eq_false (fun z => by cases z)]; exact q _ H (Same.refl H) (.bl _)⟩
theorem et_isNN (ha : Ev X a ρ .non) (hb : Ev X b ρ .non) : Et X (.Compare a [.Is] [b] pos) ρ true :=
  et_cmp op_isN ha hb (nomark _) fun v1 v2 H Q h1 h2 q => by
    cases h1.non_inv
    exact ⟨h2.non_inv, by rw [decide_eq_true rfl]; exact q _ H (Same.refl H) (.bl _)⟩
theorem ev_neS {x y : Str} (ha : Ev X a ρ (.str x)) (hb : Ev X b ρ (.str y)) : Ev X (.Compare a [.NotEq] [b] pos) ρ (.bl (!decide (x = y))) := ev_cmp op_ne ha hb (nomark _) rNeS_of
theorem op_notinT : OpR X (compareOp .NotIn) (fun v u H Q => ∃ y z, v = .str y ∧ u = .str z ∧ Q (.bl (!Txt.contains z y)) H) := by
  intro pins s σ H v u v' u' Q I rx ry h
  obtain ⟨y, z, rfl, rfl, q⟩ := h
  obtain ⟨t, rfl⟩ := rx
  obtain ⟨t', rfl⟩ := ry
  exact SB.notContains ⟨.bl _, H, I, rfl, q⟩
theorem et_notinS {x y : Str} (ha : Ev X a ρ (.str y)) (hb : Ev X b ρ (.str x)) (hm : behindInMarks .NotIn b = false := by rfl) : Et X (.Compare a [.NotIn] [b] pos) ρ (!Txt.contains x y) :=
  et_cmp op_notinT ha hb hm fun _ _ H _ h1 h2 q => ⟨y, x, h1.str_inv, h2.str_inv, q _ H (Same.refl H) (.bl _)⟩
end
end FL
namespace CM
open PySem PySem.Spec L2 FL FT FU RD PySem.NumText
theorem val_lt : ∀ {l : List Nat}, AllDigits l → digitsVal l < 10 ^ l.length
  | [], _ => by decide
  | c :: r, h => by
    have e : digitsVal (c :: r) = r.foldl (fun acc c => acc * 10 + (c - 48)) (0 * 10 + (c - 48)) := rfl
    have ih := val_lt h.tail
    have hc := h.head
    rw [e, val_acc, List.length_cons, Nat.pow_succ]
    have : (0 * 10 + (c - 48)) * 10 ^ r.length ≤ 9 * 10 ^ r.length := Nat.mul_le_mul_right _ (by omega)
    omega
theorem val_bd {l : List Nat} (h : AllDigits l) (hl : l.length ≤ 640) : Bd ((digitsVal l : Nat) : Int) 2200 := by
  refine Bd.of_lt ?_
  have h1 := val_lt h
  have h2 : (10 : Nat) ^ l.length ≤ 10 ^ 640 := Nat.pow_le_pow_right (by decide) hl
  have h3 : (10 : Nat) ^ 640 < 2 ^ 2200 := by decide +kernel
  rw [Int.natAbs_natCast]
  omega
theorem intG {x : Str} {l : List Nat} (e : sg x = l) (h : AllDigits l) (h1 : l ≠ []) (h2 : x.length ≤ 640) : PySem.intText? x = some ((digitsVal l : Nat) : Int) := by
  subst e
  exact intT h h1 h2
def p_numL (ds : List D) (d : D) : Prop := ∃ i : Int, ds = [.int i] ∧ i.natAbs < 10 ^ 100 ∧ d = .str (sI i)
structure FormL (a b c : Int) : Prop where
  n : FormN a b c
  a : a.natAbs < 10 ^ 100
  b : b.natAbs < 10 ^ 100
  c : c.natAbs < 10 ^ 100
def p_writtenL (ds : List D) (d : D) : Prop := ∃ a b c : Int, ds = [formD a b c] ∧ FormL a b c ∧ d = .str (formS a b c)
theorem sI_lenL {i : Int} (h : i.natAbs < 10 ^ 100) : (sI i).length ≤ 101 := by
  by_cases h0 : 0 ≤ i
  · exact Nat.le_trans (PyProof.Rows.toString_length_le h0 (k := 100) (by decide) (by omega)) (by decide)
  · obtain ⟨m, rfl⟩ : ∃ m : Nat, i = -((m + 1 : Nat) : Int) := ⟨i.natAbs - 1, by omega⟩
    have l := PyProof.Rows.toString_length_le (v := ((m + 1 : Nat) : Int)) (Int.natCast_nonneg _) (k := 100) (by decide) (by omega)
    rw [sI_neg, Str.length_append]
    have : (Str.ofString "-").length = 1 := rfl
    unfold sI
    omega
theorem logL {i : Int} (h : i.natAbs < 10 ^ 100) : i.natAbs.log2 < 1920 := by
  by_cases z : i.natAbs = 0
  · rw [z]; decide
  · have h2 : (10 : Nat) ^ 100 < 2 ^ 400 := by decide +kernel
    have := (Nat.log2_lt z (k := 400)).mpr (by omega)
    omega
theorem sI_lenK {i : Int} (h : i.natAbs < 10 ^ 90) : (sI i).length ≤ 91 := by
  by_cases h0 : 0 ≤ i
  · exact Nat.le_trans (PyProof.Rows.toString_length_le h0 (k := 90) (by decide) (by omega)) (by decide)
  · obtain ⟨m, rfl⟩ : ∃ m : Nat, i = -((m + 1 : Nat) : Int) := ⟨i.natAbs - 1, by omega⟩
    have l := PyProof.Rows.toString_length_le (v := ((m + 1 : Nat) : Int)) (Int.natCast_nonneg _) (k := 90) (by decide) (by omega)
    rw [sI_neg, Str.length_append]
    have : (Str.ofString "-").length = 1 := rfl
    unfold sI
    omega
theorem formS_lenK {a b c : Int} (ha : a.natAbs < 10 ^ 90) (hb : b.natAbs < 10 ^ 90) (hc : c.natAbs < 10 ^ 90) : (formS a b c).length ≤ 290 := by
  have la := sI_lenK ha
  have lb := sI_lenK hb
  have lc := sI_lenK hc
  have l1 : (Str.ofString "[").length = 1 := rfl
  have l2 : (Str.ofString ", ").length = 2 := rfl
  have l3 : (Str.ofString "]").length = 1 := rfl
  unfold formS
  simp only [Str.length_append, l1, l2, l3]
  omega
theorem bd90 {i : Int} {m : Nat} (h : Bd i m) (hm : m ≤ 290) : i.natAbs < 10 ^ 90 := by
  have h1 := intBits_le_iff.mp h.lt
  have h2 : (2 : Nat) ^ m ≤ 2 ^ 290 := Nat.pow_le_pow_right (by decide) hm
  have h3 : (2 : Nat) ^ 290 < 10 ^ 90 := by decide +kernel
  omega
def p_figures (ds : List D) (d : D) : Prop := ∃ x : Str, ds = [.str x] ∧ AllDigits (sg x) ∧ x.length ≤ 600 ∧ d = .int ((digitsVal (sg x) : Nat) : Int)
def p_are_figures (ds : List D) (d : D) : Prop := ∃ x : Str, ds = [.str x] ∧ x.length ≤ 600 ∧ d = .bl (figs (sg x))
def p_number_read (ds : List D) (d : D) : Prop := ∃ (x : Str) (i : Int), ds = [.str x] ∧ x.length ≤ 600 ∧ nr (sg x) = some i ∧ d = .int i
def x_number_read (Cw : Addr) (ds : List D) (C : Addr) : Prop := ∃ x : Str, ds = [.str x] ∧ x.length ≤ 600 ∧ nr (sg x) = none ∧ C = Cw
def p_within (ds : List D) (d : D) : Prop := ∃ x m : Str, ds = [.str x] ∧ x.length ≤ 600 ∧ inn x = some m ∧ d = .str m
def x_within (Cw : Addr) (ds : List D) (C : Addr) : Prop := ∃ x : Str, ds = [.str x] ∧ x.length ≤ 600 ∧ inn x = none ∧ C = Cw
def FormQ (a b c : Int) : Prop := 0 < a ∧ b * b - 4 * a * c < 0
instance instDecFormQ (a b c : Int) : Decidable (FormQ a b c) := by unfold FormQ; exact inferInstance
def p_read (ds : List D) (d : D) : Prop := ∃ (x : Str) (a b c : Int), ds = [.str x] ∧ x.length ≤ 600 ∧ wrt x = some (a, b, c) ∧ FormQ a b c ∧ d = formD a b c
def x_read (Cw Cf : Addr) (ds : List D) (C : Addr) : Prop := ∃ x : Str, ds = [.str x] ∧ x.length ≤ 600 ∧ ((wrt x = none ∧ C = Cw) ∨ ∃ a b c : Int, wrt x = some (a, b, c) ∧ ¬ FormQ a b c ∧ C = Cf)
def oI : Option Int → D
  | none => .non
  | some i => .int i
def oF : Option (Int × Int × Int) → D
  | none => .non
  | some (a, b, c) => formD a b c
def p_law_number_of (ds : List D) (d : D) : Prop := ∃ x : Str, ds = [.str x] ∧ x.length ≤ 600 ∧ d = oI (wrN x)
def p_law_form_of (ds : List D) (d : D) : Prop := ∃ x : Str, ds = [.str x] ∧ x.length ≤ 600 ∧ d = oF (wrt x)
def pre_changed (ds : List D) : Prop := ∃ (x : Str) (ns : List Int), ds = [.str x, scrD ns] ∧ x.length ≤ 290 ∧ PyProof.Rows.cnt 44 (sg x) = 2
def post_changed (_ : List D) (d : D) : Prop := ∃ y : Str, d = .str y ∧ y.length ≤ 600
def p_law_refused (ds : List D) (d : D) : Prop := ∃ (x : Str) (k : Bool), ds = [.str x, .bl k] ∧ x.length ≤ 600 ∧ ((wrt x = none ∧ k = false) ∨ ∃ a b c : Int, wrt x = some (a, b, c) ∧ ¬ FormQ a b c ∧ k = true) ∧ d = .bl true
theorem nr_bd {l : List Nat} {i : Int} (h : nr l = some i) (hl : l.length ≤ 600) : Bd i 2200 := by
  unfold nr at h
  split at h
  · cases h; exact Bd.lit
  · split at h
    · split at h
      · rename_i hf
        cases h
        have := val_bd (figs_all hf).1 (by rw [List.length_drop]; omega)
        exact inferInstance
      · cases h
    · split at h
      · rename_i hf
        cases h
        exact val_bd (figs_all hf).1 (by omega)
      · cases h
theorem split_len {x p : Str} (h : p ∈ Txt.split x ⟨#[44]⟩) : p.length ≤ x.length := by
  have e := StrLaws.join_split x ⟨#[44]⟩
  have key : ∀ ps : List Str, p ∈ ps → p.length ≤ (Str.join ⟨#[44]⟩ ps).length := by
    intro ps
    induction ps with
    | nil => intro h; cases h
    | cons q r ih =>
      intro hp
      cases r with
      | nil =>
        rcases List.mem_cons.mp hp with rfl | z
        · exact Nat.le_refl _
        · cases z
      | cons q' r =>
        rw [join_cons2, Str.length_append, Str.length_append]
        rcases List.mem_cons.mp hp with rfl | z
        · omega
        · have := ih z
          omega
  have := key _ h
  rw [e] at this
  exact this
theorem wrN_bd {p : Str} {i : Int} (h : wrN p = some i) (hl : p.length ≤ 600) : Bd i 2200 := by
  refine nr_bd h ?_
  have := tr_le p
  rw [sg_len]
  omega
theorem wrt_some {x : Str} {a b c : Int} (h : wrt x = some (a, b, c)) : ∃ m p q r, inn x = some m ∧ Txt.split m ⟨#[44]⟩ = [p, q, r] ∧ wrN p = some a ∧ wrN q = some b ∧ wrN r = some c := by
  unfold wrt at h
  split at h
  · cases h
  · rename_i m hm
    split at h
    · rename_i p q r hs
      split at h
      · rename_i a' b' c' h1 h2 h3
        cases h
        exact ⟨m, p, q, r, hm, hs, h1, h2, h3⟩
      · cases h
    · cases h
theorem wrt_none {x : Str} (h : wrt x = none) : inn x = none ∨ ∃ m, inn x = some m ∧ ((Txt.split m ⟨#[44]⟩).length ≠ 3 ∨ ∃ p q r, Txt.split m ⟨#[44]⟩ = [p, q, r] ∧ (wrN p = none ∨ (∃ a, wrN p = some a ∧ wrN q = none) ∨ ∃ a b, wrN p = some a ∧ wrN q = some b ∧ wrN r = none)) := by
  cases hm : inn x with
  | none => exact .inl rfl
  | some m =>
    refine .inr ⟨m, rfl, ?_⟩
    by_cases hl : (Txt.split m ⟨#[44]⟩).length = 3
    · right
      match hs : Txt.split m ⟨#[44]⟩, hl with
      | [p, q, r], _ =>
        refine ⟨p, q, r, rfl, ?_⟩
        cases h1 : wrN p with
        | none => exact .inl rfl
        | some a =>
          cases h2 : wrN q with
          | none => exact .inr (.inl ⟨a, rfl, rfl⟩)
          | some b =>
            cases h3 : wrN r with
            | none => exact .inr (.inr ⟨a, b, rfl, rfl, rfl⟩)
            | some c =>
              exfalso
              unfold wrt at h
              rw [hm] at h
              dsimp only at h
              rw [hs] at h
              dsimp only at h
              rw [h1, h2, h3] at h
              cases h
    · exact .inl hl
theorem wrt_bd {x : Str} {a b c : Int} (h : wrt x = some (a, b, c)) (hl : x.length ≤ 600) : Bd a 2200 ∧ Bd b 2200 ∧ Bd c 2200 := by
  obtain ⟨m, p, q, r, hm, hs, h1, h2, h3⟩ := wrt_some h
  have lm := inn_le hm
  have lp : ∀ z ∈ Txt.split m ⟨#[44]⟩, z.length ≤ 600 := fun z hz => by have := split_len hz; omega
  rw [hs] at lp
  exact ⟨wrN_bd h1 (lp p (by simp)), wrN_bd h2 (lp q (by simp)), wrN_bd h3 (lp r (by simp))⟩
end CM
namespace FL
open PySem PySem.Spec PyProof.Rows L2
theorem ev_neb {X : Cx} {a b : Expr} {ρ : Ro} {pos : Pos} {k k' : Bool} (ha : Ev X a ρ (.bl k)) (hb : Ev X b ρ (.bl k')) : Ev X (.Compare a [.NotEq] [b] pos) ρ (.bl (!(k == k'))) :=
  ev_cmp op_ne ha hb (nomark _) fun v1 v2 H Q h1 h2 q => by
    cases h1.bl_inv; cases h2.bl_inv
    exact ⟨rfl, by rw [dec_bl]; exact q _ H (Same.refl H) (.bl _)⟩
end FL
namespace CM
open PySem PySem.Spec L2 FL FT FU RD XR
theorem bo_ve : bootBuiltins "ValueError" = some (.type "ValueError") := by decide +kernel
structure Ex20 (K : PySem.W.Frag) (mg : Str → Option Value) (Cw Cf : Addr) : Prop where
  qw : PySem.W.excIn K Cw veM "ValueError.__new__" = true
  qf : PySem.W.excIn K Cf veM "ValueError.__new__" = true
  mw : mg "NotWritten" = some (.ref Cw)
  mf : mg "NotAForm" = some (.ref Cf)
  mv : mg "ValueError" = none
  nb : PySem.W.nsIn K cStatics sharingNotToldKey = some none
  oth : ∃ CE C1 C2 C3 C4 C5 : Addr, mg "FormError" = some (.ref CE) ∧ mg "NoBar" = some (.ref C1) ∧ mg "NotATurning" = some (.ref C2) ∧ mg "NotBare" = some (.ref C3) ∧ mg "OtherBar" = some (.ref C4) ∧ mg "OutOfBounds" = some (.ref C5) ∧
    ∀ C, C = Cw ∨ C = Cf → PySem.W.exmOne K (.ref C) (.ref CE) = some true ∧ PySem.W.kitAny K (.ref C) ([C1, C2, C3, C4, C5].map Value.ref) = some false ∧ PySem.W.kitOne K (.ref C) (.type "ValueError") = some true ∧ ExF K C
  ww : PySem.W.kitOne K (.ref Cw) (.ref Cw) = some true
  wf : PySem.W.kitOne K (.ref Cw) (.ref Cf) = some false
  fw : PySem.W.kitOne K (.ref Cf) (.ref Cw) = some false
  ff : PySem.W.kitOne K (.ref Cf) (.ref Cf) = some true
structure EcF (K : PySem.W.Frag) (C : Addr) : Prop where
  x : ExF K C
  t : PySem.W.typeIn K (.ref C) = some (.type "type")
  s : PySem.W.mroIn K C (.ref C) = some true
  v : PySem.W.mroIn K C (.type "ValueError") = some true
theorem kit5 {K : PySem.W.Frag} {C C1 C2 C3 C4 C5 : Addr} (e : EcF K C) (e1 : EcF K C1) (e2 : EcF K C2) (e3 : EcF K C3) (e4 : EcF K C4) (e5 : EcF K C5) (h1 : PySem.W.mroIn K C (.ref C1) = some false) (h2 : PySem.W.mroIn K C (.ref C2) = some false)
    (h3 : PySem.W.mroIn K C (.ref C3) = some false) (h4 : PySem.W.mroIn K C (.ref C4) = some false) (h5 : PySem.W.mroIn K C (.ref C5) = some false) : PySem.W.kitAny K (.ref C) ([C1, C2, C3, C4, C5].map Value.ref) = some false := by
  have k1 := kit_f e.s h1 e1.x.ob e1.t
  have k2 := kit_f e.s h2 e2.x.ob e2.t
  have k3 := kit_f e.s h3 e3.x.ob e3.t
  have k4 := kit_f e.s h4 e4.x.ob e4.t
  have k5 := kit_f e.s h5 e5.x.ob e5.t
  simp only [List.map_cons, List.map_nil, PySem.W.kitAny, k1, k2, k3, k4, k5]
theorem ex20_mk {K : PySem.W.Frag} {mg : Str → Option Value} {Cw Cf CE C1 C2 C3 C4 C5 : Addr} (qw : PySem.W.excIn K Cw veM "ValueError.__new__" = true) (qf : PySem.W.excIn K Cf veM "ValueError.__new__" = true) (mw : mg "NotWritten" = some (.ref Cw)) (mf : mg "NotAForm" = some (.ref Cf)) (mv : mg "ValueError" = none)
    (nb : PySem.W.nsIn K cStatics sharingNotToldKey = some none) (m0 : mg "FormError" = some (.ref CE)) (m1 : mg "NoBar" = some (.ref C1)) (m2 : mg "NotATurning" = some (.ref C2)) (m3 : mg "NotBare" = some (.ref C3)) (m4 : mg "OtherBar" = some (.ref C4)) (m5 : mg "OutOfBounds" = some (.ref C5))
    (ew : EcF K Cw) (ef : EcF K Cf) (e0 : EcF K CE) (e1 : EcF K C1) (e2 : EcF K C2) (e3 : EcF K C3) (e4 : EcF K C4) (e5 : EcF K C5)
    (w0 : PySem.W.mroIn K Cw (.ref CE) = some true) (f0 : PySem.W.mroIn K Cf (.ref CE) = some true) (wf : PySem.W.mroIn K Cw (.ref Cf) = some false) (fw : PySem.W.mroIn K Cf (.ref Cw) = some false)
    (w1 : PySem.W.mroIn K Cw (.ref C1) = some false) (w2 : PySem.W.mroIn K Cw (.ref C2) = some false) (w3 : PySem.W.mroIn K Cw (.ref C3) = some false) (w4 : PySem.W.mroIn K Cw (.ref C4) = some false) (w5 : PySem.W.mroIn K Cw (.ref C5) = some false)
    (f1 : PySem.W.mroIn K Cf (.ref C1) = some false) (f2 : PySem.W.mroIn K Cf (.ref C2) = some false) (f3 : PySem.W.mroIn K Cf (.ref C3) = some false) (f4 : PySem.W.mroIn K Cf (.ref C4) = some false) (f5 : PySem.W.mroIn K Cf (.ref C5) = some false) : Ex20 K mg Cw Cf where
  qw := qw
  qf := qf
  mw := mw
  mf := mf
  mv := mv
  nb := nb
  oth := ⟨CE, C1, C2, C3, C4, C5, m0, m1, m2, m3, m4, m5, fun C h => by
    rcases h with rfl | rfl
    · exact ⟨exm_own e0.x.be e0.t w0, kit5 ew e1 e2 e3 e4 e5 w1 w2 w3 w4 w5, kit_ve ew.v, ew.x⟩
    · exact ⟨exm_own e0.x.be e0.t f0, kit5 ef e1 e2 e3 e4 e5 f1 f2 f3 f4 f5, kit_ve ef.v, ef.x⟩⟩
  ww := kit_t ew.s ew.x.ob ew.t
  wf := kit_f ew.s wf ef.x.ob ef.t
  fw := kit_f ef.s fw ew.x.ob ew.t
  ff := kit_t ef.s ef.x.ob ef.t
end CM
namespace CM
open PySem PySem.Spec L2 FL FT FU RD PySem.NumText PyProof.Rows
theorem cnt_form (a b c : Int) : cnt 44 (sg (formS a b c)) = 2 := by
  have s2 : Str.ofString ", " = ⟨#[44, 32]⟩ := by decide +kernel
  have e0 : sg (formS a b c) = 91 :: (sg (sI a) ++ (44 :: 32 :: (sg (sI b) ++ (44 :: 32 :: (sg (sI c) ++ [93]))))) := by
    unfold formS
    rw [s2, s_open, s_shut]
    simp only [sg_app]
    simp [sg]
  have free : ∀ i : Int, cnt 44 (sg (sI i)) = 0 := fun i => cnt_free fun z => by have := sI_signs i 44 z; omega
  rw [e0]
  simp only [cnt_cons, cnt_app, cnt_nil, free]
  decide
theorem replace_len {x z : Str} (h : cnt 44 (sg x) = 2) : (Txt.replace x ⟨#[44]⟩ z).length = x.length + 2 * z.length - 2 := by
  rw [StrLaws.replace_one]
  have e := StrLaws.join_split x ⟨#[44]⟩
  have hl := cnt_split x 44
  rw [h] at hl
  match hs : Txt.split x ⟨#[44]⟩ with
  | [] => rw [hs] at hl; simp at hl
  | [_] => rw [hs] at hl; simp at hl
  | [_, _] => rw [hs] at hl; simp at hl
  | [p, q, r] =>
    rw [hs] at e
    have e1 := congrArg Str.length e
    rw [join_cons2, join_cons2] at e1 ⊢
    have j1 : ∀ s y : Str, Str.join s [y] = y := fun _ _ => rfl
    rw [j1] at e1 ⊢
    simp only [Str.length_append] at e1 ⊢
    have l1 : (⟨#[44]⟩ : Str).length = 1 := rfl
    rw [l1] at e1
    omega
  | _ :: _ :: _ :: _ :: t =>
    rw [hs] at hl
    simp at hl
    omega
theorem mul_few {n : Int} (h0 : 0 ≤ n) (h2 : n < 3) : MulOk (Str.ofString " ") n ∧ (Txt.mul (Str.ofString " ") n).length ≤ 2 := by
  have key : n = 0 ∨ n = 1 ∨ n = 2 := by omega
  rcases key with rfl | rfl | rfl
  · exact ⟨⟨by decide, fun h => absurd (by decide) h, fun h => absurd (by decide) h⟩, by decide +kernel⟩
  · exact ⟨⟨by decide, fun _ h => by simp at h, fun _ h => by simp at h⟩, by decide +kernel⟩
  · refine ⟨⟨by decide, fun _ _ => by decide +kernel, fun _ _ => by decide +kernel⟩, by decide +kernel⟩
end CM
namespace K20
open PySem PySem.Spec L2 FL FT FU CM XR
def top (i : Nat) : Stmt := PySem.Challenge.pw_formturn_k20_written.main.body.getD i (.Pass ⟨0, 0, 0, 0⟩)
abbrev s_is_whole : Stmt := top 10
abbrev s_is_whole_tuple : Stmt := top 11
abbrev s_bar_of_numbers : Stmt := top 13
abbrev s_is_form : Stmt := top 14
abbrev s_require_form : Stmt := top 15
abbrev s_number_written : Stmt := top 19
abbrev s_number_of_figures : Stmt := top 20
abbrev s_are_figures : Stmt := top 21
abbrev s_number_read : Stmt := top 22
abbrev s_within_brackets : Stmt := top 23
abbrev s_written : Stmt := top 24
abbrev s_read : Stmt := top 25
abbrev s_law_ints : Stmt := top 27
abbrev s_law_cell_at : Stmt := top 28
abbrev s_law_great : Stmt := top 29
abbrev s_law_form_by : Stmt := top 32
abbrev s_law_number_of : Stmt := top 33
abbrev s_law_form_of : Stmt := top 34
abbrev s_law_changed : Stmt := top 35
abbrev s_law_refused : Stmt := top 36
abbrev s_law : Stmt := top 37
theorem sc_is_whole : FnScope ["value"] ["value"] (defScope s_is_whole) := ⟨rfl, rfl, rfl, by decide +kernel, rfl, by decide +kernel, by decide +kernel⟩
theorem sc_is_whole_tuple : FnScope ["value", "length"] ["value", "length"] (defScope s_is_whole_tuple) := ⟨rfl, rfl, rfl, by decide +kernel, rfl, by decide +kernel, by decide +kernel⟩
theorem sc_bar_of_numbers : FnScope ["a", "b", "c"] ["a", "b", "c"] (defScope s_bar_of_numbers) := ⟨rfl, rfl, rfl, by decide +kernel, rfl, by decide +kernel, by decide +kernel⟩
theorem sc_is_form : FnScope ["value"] ["value"] (defScope s_is_form) := ⟨rfl, rfl, rfl, by decide +kernel, rfl, by decide +kernel, by decide +kernel⟩
theorem sc_require_form : FnScope ["value"] ["value"] (defScope s_require_form) := ⟨rfl, rfl, rfl, by decide +kernel, rfl, by decide +kernel, by decide +kernel⟩
theorem sc_number_written : FnScope ["number", "rest", "pieces"] ["number"] (defScope s_number_written) := ⟨rfl, rfl, rfl, by decide +kernel, rfl, by decide +kernel, by decide +kernel⟩
theorem sc_number_of_figures : FnScope ["figures", "head", "found", "start"] ["figures"] (defScope s_number_of_figures) := ⟨rfl, rfl, rfl, by decide +kernel, rfl, by decide +kernel, by decide +kernel⟩
theorem sc_are_figures : FnScope ["text"] ["text"] (defScope s_are_figures) := ⟨rfl, rfl, rfl, by decide +kernel, rfl, by decide +kernel, by decide +kernel⟩
theorem sc_number_read : FnScope ["text", "below", "figures"] ["text"] (defScope s_number_read) := ⟨rfl, rfl, rfl, by decide +kernel, rfl, by decide +kernel, by decide +kernel⟩
theorem sc_within_brackets : FnScope ["text", "middle"] ["text"] (defScope s_within_brackets) := ⟨rfl, rfl, rfl, by decide +kernel, rfl, by decide +kernel, by decide +kernel⟩
theorem sc_written : FnScope ["form", "numbers"] ["form"] (defScope s_written) := ⟨rfl, rfl, rfl, by decide +kernel, rfl, by decide +kernel, by decide +kernel⟩
theorem sc_read : FnScope ["text", "parts", "form"] ["text"] (defScope s_read) := ⟨rfl, rfl, rfl, by decide +kernel, rfl, by decide +kernel, by decide +kernel⟩
theorem sc_law_ints : FnScope ["_law_found", "_law_size", "_law_number"] ["_law_found", "_law_size"] (defScope s_law_ints) := ⟨rfl, rfl, rfl, by decide +kernel, rfl, by decide +kernel, by decide +kernel⟩
theorem sc_law_cell_at : FnScope ["_law_script", "_law_k"] ["_law_script", "_law_k"] (defScope s_law_cell_at) := ⟨rfl, rfl, rfl, by decide +kernel, rfl, by decide +kernel, by decide +kernel⟩
theorem sc_law_great : FnScope ["_law_cell", "_law_other"] ["_law_cell", "_law_other"] (defScope s_law_great) := ⟨rfl, rfl, rfl, by decide +kernel, rfl, by decide +kernel, by decide +kernel⟩
theorem sc_law_form_by : FnScope ["_law_script", "_law_k", "_law_a", "_law_b", "_law_c"] ["_law_script", "_law_k"] (defScope s_law_form_by) := ⟨rfl, rfl, rfl, by decide +kernel, rfl, by decide +kernel, by decide +kernel⟩
theorem sc_law_number_of : FnScope ["_law_text", "_law_figures", "_law_minus", "_law_sign"] ["_law_text"] (defScope s_law_number_of) := ⟨rfl, rfl, rfl, by decide +kernel, rfl, by decide +kernel, by decide +kernel⟩
theorem sc_law_form_of : FnScope ["_law_text", "_law_inner", "_law_found", "_law_part"] ["_law_text"] (defScope s_law_form_of) := ⟨rfl, rfl, rfl, by decide +kernel, rfl, by decide +kernel, by decide +kernel⟩
theorem sc_law_changed : FnScope ["_law_text", "_law_script", "_law_at", "_law_sign"] ["_law_text", "_law_script"] (defScope s_law_changed) := ⟨rfl, rfl, rfl, by decide +kernel, rfl, by decide +kernel, by decide +kernel⟩
theorem sc_law_refused : FnScope ["_law_text", "_law_plain", "e"] ["_law_text", "_law_plain"] (defScope s_law_refused) := ⟨rfl, rfl, rfl, by decide +kernel, rfl, by decide +kernel, by decide +kernel⟩
theorem sc_law : FnScope ["_law_script", "_law_form", "_law_text", "_law_other", "_law_due"] ["_law_script"] (defScope s_law) := ⟨rfl, rfl, rfl, by decide +kernel, rfl, by decide +kernel, by decide +kernel⟩
section
variable {P : Program} {w : World} {K : PySem.W.Frag} {mg : Str → Option Value} {base : Heap}
theorem ok_is_whole {f : Addr} {fd : FuncData} (T : Tx mg) (F : Fun K "is_whole" "is_whole" s_is_whole f fd) (hm : mg "is_whole" = some (.ref f)) (hb : Binds K fd ["value"] []) : Fn P w K mg base 1 "is_whole" p_is_whole := by
  refine fn_mk F sc_is_whole hm hb (fun ds d h => ?_) (fun cdv A outer s H E hr ds d h => ?_)
  · obtain ⟨i, rfl, rfl⟩ := h
    exact ⟨rfl, by simp⟩
  · obtain ⟨i, rfl, rfl⟩ := h
    exact do_ret (ev_andT (ev_isi T.isi (ev_v 0) T.int bo_int rfl kit_s) (ev_one (ev_notF (ev_isi T.isi (ev_v 0) T.bool bo_bool rfl kit_int_bool)))) rfl
theorem ok_is_whole_tuple {f : Addr} {fd : FuncData} (T : Tx mg) (G1 : Fn P w K mg base 1 "is_whole" p_is_whole) (F : Fun K "is_whole_tuple" "is_whole_tuple" s_is_whole_tuple f fd) (hm : mg "is_whole_tuple" = some (.ref f)) (hb : Binds K fd ["value", "length"] []) :
    Fn P w K mg base 2 "is_whole_tuple" p_is_whole_tuple := by
  refine fn_mk F sc_is_whole_tuple hm hb (fun ds d h => ?_) (fun cdv A outer s H E hr ds d h => ?_)
  · obtain ⟨ns, rfl, _, rfl⟩ := h
    exact ⟨rfl, by simp⟩
  · obtain ⟨ns, rfl, hl, rfl⟩ := h
    have e1 : lenD (.tup (ns.map D.int)) = some ns.length := by simp [lenD]
    refine do_ifF (et_w (ew_orF (et_notT (et_val (ev_isi T.isi (ev_v 0) T.tuple bo_tuple rfl kit_s))) (ew_or1 (Et.ff (et_ne (ev_len T.len (ev_v 0) e1) (ev_v 1)) rfl)))) ?_
    · have hall : ((ns.map fun _ => true).map D.bl) = (((ns.map D.int).filter fun _ => true).map fun _ => D.bl true) := by
        rw [List.filter_eq_self.mpr (fun _ _ => rfl)]
        simp
      refine do_ret (ev_all (bs := ns.map fun _ => true) rfl T.all ?_) ?_
      · rw [hall]
        refine (evn_comp (ys := []) (js := []) (cl := []) (fun _ => true) (fun _ => .bl true) rfl (src_tup (ev_v 0)) (by simp; omega) (fun _ _ _ => .bl true) (fun C s₀ H₀ fp d hd => ets_nil) (fun C s₀ H₀ fp d hd _ => ?_) rfl (by decide) rfl (by decide) rfl (by decide) (fun y c h => by cases h) (no_free (by decide)) rfl (fun i j y h => by cases h)).ev
        · obtain ⟨z, _, rfl⟩ := List.mem_map.mp hd
          exact ev_call G1 hr (ea_cons (ev_v 0) ea_nil) ⟨z, rfl, rfl⟩
      · show D.bl _ = D.bl _
        congr 1
        simp
theorem ok_bar_of_numbers {f : Addr} {fd : FuncData} (F : Fun K "bar_of_numbers" "bar_of_numbers" s_bar_of_numbers f fd) (hm : mg "bar_of_numbers" = some (.ref f)) (hb : Binds K fd ["a", "b", "c"] []) :
    Fn P w K mg base 1 "bar_of_numbers" p_bar_of_numbers := by
  refine fn_mk F sc_bar_of_numbers hm hb (fun ds d h => ?_) (fun cdv A outer s H E hr ds d h => ?_)
  · obtain ⟨a, b, c, rfl, _, _, _, rfl⟩ := h
    exact ⟨rfl, by simp⟩
  · obtain ⟨a, b, c, rfl, ha, hb, hc, rfl⟩ := h
    exact do_ret (ev_sub (ev_mul (ev_v 1) (ev_v 1) inferInstance inferInstance) (ev_mul (ev_mul ev_int (ev_v 0) inferInstance inferInstance) (ev_v 2) inferInstance inferInstance)) rfl
theorem ok_is_form {f : Addr} {fd : FuncData} (G1 : Fn P w K mg base 2 "is_whole_tuple" p_is_whole_tuple) (G2 : Fn P w K mg base 1 "bar_of_numbers" p_bar_of_numbers) (F : Fun K "is_form" "is_form" s_is_form f fd) (hm : mg "is_form" = some (.ref f)) (hb : Binds K fd ["value"] []) :
    Fn P w K mg base 3 "is_form" p_is_formB := by
  refine fn_mk F sc_is_form hm hb (fun ds d h => ?_) (fun cdv A outer s H E hr ds d h => ?_)
  · obtain ⟨a, b, c, rfl, _⟩ := h
    exact ⟨rfl, by simp⟩
  · obtain ⟨a, b, c, rfl, sa, sb, sc, rfl⟩ := h
    refine do_ifF (et_notT (et_val (ev_call G1 hr (ea_cons (ev_v 0) (ea_cons ev_int ea_nil)) ⟨[a, b, c], rfl, by simp, rfl⟩))) ?_
    by_cases pa : 0 < a
    · refine do_ret (ev_andT (Ev.tt (ev_gt (ev_ix (ev_v 0) ev_int rfl) ev_int) pa) (ev_one (ev_lt (ev_call G2 (hr.mono (by decide)) (ea_cons (ev_ix (ev_v 0) ev_int rfl) (ea_cons (ev_ix (ev_v 0) ev_int rfl) (ea_cons (ev_ix (ev_v 0) ev_int rfl) ea_nil)))
        ⟨a, b, c, rfl, sa, sb, sc, rfl⟩) ev_int))) ?_
      show D.bl _ = D.bl _
      rw [decide_eq_true pa, Bool.true_and]
    · refine do_ret (ev_andF (Ev.ff (ev_gt (ev_ix (ev_v 0) ev_int rfl) ev_int) pa)) ?_
      show D.bl _ = D.bl _
      rw [decide_eq_false pa, Bool.false_and]
theorem ok_require_form {f Cw Cn : Addr} {fd : FuncData} (G1 : Fn P w K mg base 3 "is_form" p_is_formB) (Q : Ex20 K mg Cw Cn) (F : Fun K "require_form" "require_form" s_require_form f fd) (hm : mg "require_form" = some (.ref f)) (hb : Binds K fd ["value"] []) :
    FnX P w K mg base 4 "require_form" p_require_form (x_require_form Cn) := by
  refine ⟨f, fd, _, fnx_ok F sc_require_form (fun ds d h => ?_) (fun ds C h => ?_) (fun cdv A outer s H E hr ds d h => ?_) (fun cdv A outer s H E hr ds C h ht => ?_), hm, F.kp, hb⟩
  · obtain ⟨a, b, c, rfl, _, rfl⟩ := h
    exact ⟨rfl, by simp⟩
  · obtain ⟨a, b, c, rfl, _⟩ := h
    exact ⟨rfl, by simp⟩
  · obtain ⟨a, b, c, rfl, hf, rfl⟩ := h
    exact do_ifF (et_notT (et_val (Ev.to (ev_call G1 hr (ea_cons (ev_v 0) ea_nil) ⟨a, b, c, rfl, hf.sa, hf.sb, hf.sc, rfl⟩) (by rw [decide_eq_true hf.pos, decide_eq_true hf.bar]; rfl)))) (do_nil rfl)
  · obtain ⟨a, b, c, rfl, sa, sb, sc, nf, rfl⟩ := h
    refine do_if (fun _ => False) (k := true) (et_notF (et_val (Ev.to (ev_call G1 hr (ea_cons (ev_v 0) ea_nil) ⟨a, b, c, rfl, sa, sb, sc, rfl⟩) ?_))) (fun _ => do_raise ht.made Q.qf PySem.F.excBase_ValueError rfl PySem.F.excBase_ValueError Q.mf hr.hd (ea_cons ev_str ea_nil) (by simp)) (fun z => by cases z) (fun _ z => z.elim)
    refine congrArg D.bl ?_
    simpa using nf
set_option maxHeartbeats 4000000 in
theorem ok_number_written {f : Addr} {fd : FuncData} (T : Tx mg) (C1 : Con K mg "PIECE" (.int 64)) (F : Fun K "number_written" "number_written" s_number_written f fd) (hm : mg "number_written" = some (.ref f)) (hb : Binds K fd ["number"] []) : Fn P w K mg base 1 "number_written" p_numL := by
  refine fn_mk F sc_number_written hm hb (fun ds d h => ?_) (fun cdv A outer s H E hr ds d h => ?_)
  · obtain ⟨i, rfl, _⟩ := h
    exact ⟨rfl, by simp⟩
  · obtain ⟨i, rfl, hi, rfl⟩ := h
    have nd := sc_number_written.nd
    have e64 : (10 : Int) ^ 64 = ((10 ^ 64 : Nat) : Int) := by norm_cast
    obtain ⟨n, hn⟩ : ∃ n : Nat, n = i.natAbs := ⟨_, rfl⟩
    rw [← hn] at hi
    refine do_set 1 (d := .int (n : Int)) (Ev.to (ev_abs T.abs (ev_v 0)) (by rw [hn])) (.int _) ?_ nd
    refine do_setN 2 (evn_list ea_nil) (fun d hd => by cases hd) (fun l _ => ?_) nd
    have hq : n / 10 ^ 64 < 10 ^ 36 := by
      rw [Nat.div_lt_iff_lt_mul (by decide +kernel)]
      have : (10 : Nat) ^ 100 = 10 ^ 36 * 10 ^ 64 := by rw [← Nat.pow_add]
      omega
    have hr64 : n % 10 ^ 64 < 10 ^ 64 := Nat.mod_lt _ (by decide +kernel)
    have hq64 : n / 10 ^ 64 < 10 ^ 64 := Nat.lt_trans hq (Nat.pow_lt_pow_right (by decide) (by decide))
    have lg : ∀ k : Nat, k < 10 ^ 100 → ((k : Nat) : Int).natAbs.log2 < 1920 := fun k hk => logL (by rw [Int.natAbs_natCast]; exact hk)
    have l100 : (10 : Nat) ^ 64 < 10 ^ 100 := Nat.pow_lt_pow_right (by decide) (by decide)
    have lz : (Txt.zfill (sI ((n % 10 ^ 64 : Nat) : Int)) ((64 : Nat) : Int)).length = 64 := by
      rw [RD.fill_pad (by rw [RD.sI_nat]; exact RD.dg_all _), pad_len]
      have := RD.dg_len (n := n % 10 ^ 64) (k := 64) (by decide) hr64
      rw [← RD.sI_nat] at this
      have e : (sI ((n % 10 ^ 64 : Nat) : Int)).cps.toList.length = (sI ((n % 10 ^ 64 : Nat) : Int)).length := RD.sg_len _
      omega
    have ln : (sI (n : Int)).length ≤ 101 := sI_lenL (by rw [Int.natAbs_natCast]; exact hi)
    have lq : (sI ((n / 10 ^ 64 : Nat) : Int)).length ≤ 101 := sI_lenL (by rw [Int.natAbs_natCast]; exact Nat.lt_trans hq64 l100)
    have modI : ((n : Nat) : Int) % 10 ^ 64 = ((n % 10 ^ 64 : Nat) : Int) := by rw [e64]; exact (Int.natCast_emod n (10 ^ 64)).symm
    have divI : ((n : Nat) : Int) / 10 ^ 64 = ((n / 10 ^ 64 : Nat) : Int) := by rw [e64]; exact (Int.natCast_ediv n (10 ^ 64)).symm
    have l0 : (Str.ofString "").length = 0 := rfl
    have l1 : (Str.ofString "-").length = 1 := rfl
    have jc : ∀ (x y : Str) (r : List Str), Txt.join (Str.ofString "") (x :: y :: r) = x ++ Txt.join (Str.ofString "") (y :: r) := fun x y r => by
      have e1 : Txt.join (Str.ofString "") (x :: y :: r) = Str.join (Str.ofString "") (x :: y :: r) := StrLaws.glued_eq_join _ _
      have e2 : Txt.join (Str.ofString "") (y :: r) = Str.join (Str.ofString "") (y :: r) := StrLaws.glued_eq_join _ _
      rw [e1, e2, RD.join_cons2, app_emp]
    have n0 : 0 < (10 : Nat) ^ 64 := by decide +kernel
    refine do_while (fun ρ => ρ = [some (.int i), some (.int (n : Int)), some (.lst l [])] ∨ 10 ^ 64 ≤ n ∧ ρ = [some (.int i), some (.int ((n / 10 ^ 64 : Nat) : Int)), some (.lst l ([Txt.zfill (sI ((n % 10 ^ 64 : Nat) : Int)) ((64 : Nat) : Int)].map D.str))])
      (fun ρ => ∃ (ps : List Str) (r : Nat), ρ = [some (.int i), some (.int (r : Int)), some (.lst l (ps.map D.str))] ∧ r < 10 ^ 100 ∧ ps.length ≤ 1 ∧ (ps.map (·.length)).sum ≤ 64 ∧ Txt.join (Str.ofString "") (sI (r : Int) :: ps.reverse) = sI (n : Int))
      (fun ρ => match ρ with | [_, some (.int z), _] => z.toNat | _ => 0) PassesOwn.never (.inl rfl) ?_ ?_
    · rintro ρ (rfl | ⟨big, rfl⟩)
      · refine ⟨_, et_ge (ev_v 1) (ev_pow (n := 64) (m := 4) ev_int ev_int .lit), fun hk => ?_, fun hk => ?_⟩
        · have big : 10 ^ 64 ≤ n := by
            have h1 : (10 : Int) ^ 64 ≤ (n : Int) := of_decide_eq_true hk
            rw [e64] at h1
            exact Int.ofNat_le.mp h1
          refine do_append 2 rfl (ev_zfill (ev_strI T.str (Ev.to (ev_mod (ev_v 1) (ev_pow (n := 64) (m := 4) ev_int ev_int .lit) (by rw [e64]; exact Int.natCast_pos.mpr n0)) (by rw [modI])) (lg _ (Nat.lt_trans hr64 l100))) (ev_con C1) (by decide)) (.str _) (by decide) (others_of rfl) ?_
          refine do_set 1 (d := .int ((n / 10 ^ 64 : Nat) : Int)) (Ev.to (ev_div (ev_v 1) (ev_pow (n := 64) (m := 4) ev_int ev_int .lit) (by rw [e64]; exact Int.natCast_pos.mpr n0) (m := 256) .lit) (by rw [divI])) (.int _) (do_nil ⟨.inr ⟨big, rfl⟩, ?_⟩) nd
          show ((n / 10 ^ 64 : Nat) : Int).toNat < ((n : Nat) : Int).toNat
          rw [Int.toNat_natCast, Int.toNat_natCast]
          exact Nat.div_lt_self (Nat.lt_of_lt_of_le n0 big) (by decide +kernel)
        · exact ⟨[], n, rfl, hi, by simp, by simp, join1 _ _⟩
      · refine ⟨_, Et.ff' (et_ge (ev_v 1) (ev_pow (n := 64) (m := 4) ev_int ev_int .lit)) (fun z => ?_), (fun hk => by cases hk), fun _ => ⟨_, n / 10 ^ 64, rfl, Nat.lt_trans hq64 l100, by simp, by simp only [List.map_cons, List.map_nil, List.sum_cons, List.sum_nil, lz]; decide, ?_⟩⟩
        · rw [e64] at z
          have := Int.ofNat_le.mp z
          omega
        · have e := RD.sI_parts (q := n / 10 ^ 64) (r := n % 10 ^ 64) (Nat.div_pos big n0) hr64
          have e3 : n / 10 ^ 64 * 10 ^ 64 + n % 10 ^ 64 = n := by rw [Nat.mul_comm]; exact Nat.div_add_mod n _
          rw [e3] at e
          show Txt.join _ [_, _] = _
          rw [join2, app_emp, e]
    · rintro ρ ⟨ps, r, rfl, hr', hp1, hp2, hj⟩
      have lr : (sI (r : Int)).length ≤ 101 := sI_lenL (by rw [Int.natAbs_natCast]; exact hr')
      refine do_append 2 rfl (ev_strI T.str (ev_v 1) (lg r hr')) (.str _) (by rw [List.length_map]; omega) (others_of rfl) ?_
      by_cases neg : i < 0
      · refine do_if (fun ρ => ρ = [some (.int i), some (.int (r : Int)), some (.lst l ((ps ++ [sI (r : Int), Str.ofString "-"]).map D.str))]) (Et.tt (et_lt (ev_v 0) ev_int) neg) (fun _ => do_append 2 rfl ev_str (.str _) (by rw [List.length_append, List.length_map]; simp; omega) (others_of rfl) (do_nil (by simp))) (fun z => by cases z) ?_
        rintro ρ rfl
        refine do_ret (ev_joinRev (x := Str.ofString "") (xs := ps ++ [sI (r : Int), Str.ofString "-"]) rfl T.reversed ev_str (ev_v 2) rfl (by simp; omega) (joinOk_small (by
          rw [List.map_reverse, List.sum_reverse, List.map_append, List.sum_append, l0]
          simp only [List.map_cons, List.map_nil, List.sum_cons, List.sum_nil, l1]
          omega))) ?_
        have er : (ps ++ [sI (r : Int), Str.ofString "-"]).reverse = Str.ofString "-" :: sI (r : Int) :: ps.reverse := by simp
        obtain ⟨m, rfl⟩ : ∃ m : Nat, i = -((m + 1 : Nat) : Int) := ⟨i.natAbs - 1, by omega⟩
        have en : n = m + 1 := by omega
        rw [er, jc, hj, en]
        show D.str _ = D.str _
        rw [sI_neg]
      · refine do_ifF (Et.ff' (et_lt (ev_v 0) ev_int) neg) ?_
        refine do_ret (ev_joinRev (x := Str.ofString "") (xs := ps ++ [sI (r : Int)]) rfl T.reversed ev_str (ev_v 2) (by simp [lsD]) (by simp; omega) (joinOk_small (by
          rw [List.map_reverse, List.sum_reverse, List.map_append, List.sum_append, l0]
          simp only [List.map_cons, List.map_nil, List.sum_cons, List.sum_nil]
          omega))) ?_
        have er : (ps ++ [sI (r : Int)]).reverse = sI (r : Int) :: ps.reverse := by simp
        have en : ((n : Nat) : Int) = i := by omega
        rw [er, hj, en]
theorem ok_number_of_figures {f : Addr} {fd : FuncData} (T : Tx mg) (C1 : Con K mg "PIECE" (.int 64)) (F : Fun K "number_of_figures" "number_of_figures" s_number_of_figures f fd) (hm : mg "number_of_figures" = some (.ref f)) (hb : Binds K fd ["figures"] []) :
    Fn P w K mg base 1 "number_of_figures" p_figures := by
  refine fn_mk F sc_number_of_figures hm hb (fun ds d h => ?_) (fun cdv A outer s H E hr ds d h => ?_)
  · obtain ⟨x, rfl, _⟩ := h
    exact ⟨rfl, by simp⟩
  · obtain ⟨x, rfl, ha, hl, rfl⟩ := h
    have nd := sc_number_of_figures.nd
    have hl5 : x.length ≤ 100000 := by omega
    have sl := RD.sg_len x
    have allT : ∀ n, PySem.NumText.AllDigits ((RD.sg x).take n) := fun n c hc => ha c (List.mem_of_mem_take hc)
    have allD : ∀ n k, PySem.NumText.AllDigits (((RD.sg x).drop n).take k) := fun n k c hc => ha c (List.mem_of_mem_drop (List.mem_of_mem_take hc))
    have hh : x.length % 64 ≤ x.length := Nat.mod_le _ _
    have em : ((x.length : Nat) : Int) % 64 = ((x.length % 64 : Nat) : Int) := by omega
    refine do_set 1 (d := .int ((x.length % 64 : Nat) : Int)) (Ev.to (ev_mod (ev_lenS T.len (ev_v 0) hl5) (ev_con C1) (by decide)) (by rw [em])) (.int _) ?_ nd
    refine do_set 2 (d := .int ((PySem.NumText.digitsVal ((RD.sg x).take (x.length % 64)) : Nat) : Int)) ?_ (.int _) ?_ nd
    · by_cases h0 : 0 < x.length % 64
      · refine ev_ifT (Et.tt (et_gt (ev_v 1) ev_int) (by omega)) (ev_intS T.int (ev_sliceS (ev_v 0) eo_none (eo_some (ev_v 1)) hl5) (Nat.le_trans (Txt.slice_le _ _ _) (by omega)) ?_)
        have es := RD.slice_to x hh
        refine intG es (allT _) (by intro z; have := congrArg List.length z; rw [List.length_take, sl] at this; simp at this; omega) (Nat.le_trans (Txt.slice_le _ _ _) (by omega))
      · have e0 : x.length % 64 = 0 := by omega
        refine ev_ifF (Et.ff' (et_gt (ev_v 1) ev_int) (by omega)) (Ev.to ev_int ?_)
        rw [e0, List.take_zero]
        rfl
    · have fz : ∀ d ∈ (List.range (manyS ((x.length % 64 : Nat) : Int) ((x.length : Nat) : Int) 64)).map (fun (t : Nat) => D.int (((x.length % 64 : Nat) : Int) + t * 64)), Fz d := fun d hd => by
        obtain ⟨z, _, rfl⟩ := List.mem_map.mp hd
        exact .int _
      have many : manyS ((x.length % 64 : Nat) : Int) ((x.length : Nat) : Int) 64 = x.length / 64 := by unfold manyS; omega
      refine do_for 3 (fun i ρ => ∃ r, ρ = [some (.str x), some (.int ((x.length % 64 : Nat) : Int)), some (.int ((PySem.NumText.digitsVal ((RD.sg x).take (x.length % 64 + 64 * i)) : Nat) : Int)), r]) (fun ρ => ∃ r, ρ = [some (.str x), some (.int ((x.length % 64 : Nat) : Int)), some (.int ((PySem.NumText.digitsVal (RD.sg x) : Nat) : Int)), r])
        PassesOwn.never rfl (wk_range3 T.range (ev_v 1) (ev_lenS T.len (ev_v 0) hl5) (ev_con C1) (by decide) (by decide) (by omega) (by omega) (by omega) (by omega)) fz (fun _ _ _ => trivial) ⟨none, rfl⟩ ?_ ?_ ?_ nd
      · rintro i d ρ hd ⟨r, rfl⟩
        rw [List.getElem?_map] at hd
        have hi : i < x.length / 64 := by
          rw [← many]
          by_cases hlt : i < manyS ((x.length % 64 : Nat) : Int) ((x.length : Nat) : Int) 64
          · exact hlt
          · rw [List.getElem?_eq_none (by simpa using hlt)] at hd; cases hd
        rw [many, List.getElem?_range hi] at hd
        cases hd
        have hs : x.length % 64 + 64 * i + 64 ≤ x.length := by omega
        have e1 : ((x.length % 64 : Nat) : Int) + (i : Int) * 64 = ((x.length % 64 + 64 * i : Nat) : Int) := by omega
        have e2 : ((x.length % 64 + 64 * i : Nat) : Int) + 64 = ((x.length % 64 + 64 * i + 64 : Nat) : Int) := by omega
        have es := RD.slice_ab x (a := x.length % 64 + 64 * i) (b := x.length % 64 + 64 * i + 64) (by omega) hs
        have e3 : x.length % 64 + 64 * i + 64 - (x.length % 64 + 64 * i) = 64 := by omega
        rw [e3] at es
        have b1 := val_bd (allT (x.length % 64 + 64 * i)) (by rw [List.length_take, sl]; omega)
        refine do_set 2 (d := .int ((PySem.NumText.digitsVal ((RD.sg x).take (x.length % 64 + 64 * (i + 1))) : Nat) : Int)) (Ev.to (ev_add (ev_mul (ev_v 2) (ev_pow (n := 64) (m := 4) ev_int ev_int .lit) b1 (n := 256) .lit) (ev_intS T.int (ev_sliceS (ev_v 0) (eo_some (ev_v 3)) (eo_some (ev_add (ev_v 3) (ev_con C1))) hl5) (Nat.le_trans (Txt.slice_le _ _ _) (by omega)) (i := ((PySem.NumText.digitsVal (((RD.sg x).drop (x.length % 64 + 64 * i)).take 64) : Nat) : Int)) ?_)) ?_) (.int _) (do_nil ⟨_, rfl⟩) nd
        · rw [e1, e2]
          refine intG es (allD _ _) (by intro z; have := congrArg List.length z; rw [List.length_take, List.length_drop, sl] at this; simp at this; omega) (Nat.le_trans (Txt.slice_le _ _ _) (by omega))
        · refine congrArg D.int ?_
          have et : (RD.sg x).take (x.length % 64 + 64 * (i + 1)) = (RD.sg x).take (x.length % 64 + 64 * i) ++ ((RD.sg x).drop (x.length % 64 + 64 * i)).take 64 := by
            rw [show x.length % 64 + 64 * (i + 1) = x.length % 64 + 64 * i + 64 by omega, List.take_add]
          have ln : (((RD.sg x).drop (x.length % 64 + 64 * i)).take 64).length = 64 := by rw [List.length_take, List.length_drop, sl]; omega
          rw [et, RD.val_app, ln]
          have e64 : (10 : Int) ^ 64 = ((10 ^ 64 : Nat) : Int) := by norm_cast
          rw [Int.natCast_add, Int.natCast_mul, e64]
      · rintro ρ ⟨r, rfl⟩
        refine ⟨r, ?_⟩
        have : x.length % 64 + 64 * (List.range (manyS ((x.length % 64 : Nat) : Int) ((x.length : Nat) : Int) 64)).length = x.length := by rw [List.length_range, many]; omega
        rw [List.length_map, this, ← sl, List.take_length]
      · rintro ρ ⟨r, rfl⟩
        exact do_ret (ev_v 2) rfl
theorem ok_are_figures {f : Addr} {fd : FuncData} (T : Tx mg) (C1 : Con K mg "FIGURES" (.str "0123456789")) (F : Fun K "are_figures" "are_figures" s_are_figures f fd) (hm : mg "are_figures" = some (.ref f)) (hb : Binds K fd ["text"] []) :
    Fn P w K mg base 1 "are_figures" p_are_figures := by
  refine fn_mk F sc_are_figures hm hb (fun ds d h => ?_) (fun cdv A outer s H E hr ds d h => ?_)
  · obtain ⟨x, rfl, _⟩ := h
    exact ⟨rfl, by simp⟩
  · obtain ⟨x, rfl, hl, rfl⟩ := h
    have hl5 : x.length ≤ 100000 := by omega
    have e0 : Str.ofString "" = ⟨#[]⟩ := by decide +kernel
    have e48 : Str.ofString "0" = ⟨#[48]⟩ := by decide +kernel
    match hx : RD.sg x with
    | [] =>
      have ex : x = Str.ofString "" := by rw [e0]; exact RD.sg_inj (by rw [hx])
      refine do_ret (ev_andF (Ev.to (ev_neS (ev_v 0) ev_str) (by rw [decide_eq_true ex]; rfl))) ?_
      show D.bl false = D.bl _
      rw [show RD.figs [] = false from rfl]
    | c :: r =>
      have ex : x ≠ Str.ofString "" := fun z => by rw [z, e0] at hx; cases hx
      have h1 : atI x.cps.toList 0 = some c := by
        have : x.cps.toList = c :: r := hx
        rw [this]
        exact atI_nat (j := 0) rfl
      have fz : ∀ d ∈ sgn x, (fun _ => true) d = true → Fz ((fun d => match d with | .str y => D.bl (Txt.contains (Str.ofString "0123456789") y) | _ => .non) d) := fun d hd _ => by
        obtain ⟨z, _, rfl⟩ := List.mem_map.mp hd
        exact .bl _
      refine do_ret (ev_andT (Ev.to (ev_neS (ev_v 0) ev_str) (by rw [decide_eq_false ex]; rfl)) ?_) rfl
      by_cases h48 : c = 48
      · subst h48
        refine Ev.to (ev_andF (Ev.to (ev_neS (ev_ixS (ev_v 0) ev_int hl5 h1) ev_str) (by rw [e48, decide_eq_true rfl]; rfl))) ?_
        rfl
      · refine ev_andT (Ev.to (ev_neS (ev_ixS (ev_v 0) ev_int hl5 h1) ev_str) (by rw [e48, decide_eq_false (fun z => h48 (by injection z with z; injection z with z; injection z with z))]; rfl)) (ev_one (Ev.to (ev_all (bs := (RD.sg x).map RD.isFig) rfl T.all ?_) ?_))
        · have hall : (((RD.sg x).map RD.isFig).map D.bl) = (((sgn x).filter fun _ => true).map fun d => match d with | .str y => D.bl (Txt.contains (Str.ofString "0123456789") y) | _ => .non) := by
            rw [List.filter_eq_self.mpr (fun _ _ => rfl), List.map_map, List.map_map]
            refine List.map_congr_left fun c _ => ?_
            show D.bl _ = D.bl _
            rw [RD.in_figs]
          rw [hall]
          refine (evn_compC [] [] [] (fun _ => true) _ (src_text (ev_v 0)) (by rw [List.length_map]; have : x.cps.toList.length = x.length := RD.sg_len x; omega) fz (fun C s₀ H₀ fp d hd => ets_nil) (fun C s₀ H₀ fp d hd _ => ?_)).ev
          obtain ⟨z, _, rfl⟩ := List.mem_map.mp hd
          exact ev_inS (ev_v 0) (ev_con C1)
        · show D.bl _ = D.bl _
          rw [hx]
          unfold RD.figs
          have h2 : ((c :: r).head? != some 48) = true := by simpa using h48
          rw [h2, List.all_map]
          rfl
theorem ok_number_read {f Cw Cf : Addr} {fd : FuncData} (Q : Ex20 K mg Cw Cf) (G1 : Fn P w K mg base 1 "are_figures" p_are_figures) (G2 : Fn P w K mg base 1 "number_of_figures" p_figures) (F : Fun K "number_read" "number_read" s_number_read f fd) (hm : mg "number_read" = some (.ref f)) (hb : Binds K fd ["text"] []) :
    FnX P w K mg base 2 "number_read" p_number_read (x_number_read Cw) := by
  have e48 : Str.ofString "0" = ⟨#[48]⟩ := by decide +kernel
  have z0 : ∀ {x : Str}, RD.sg x ≠ [48] → x ≠ Str.ofString "0" := fun h z => h (by rw [z, e48])
  refine ⟨f, fd, _, fnx_ok F sc_number_read (fun ds d h => ?_) (fun ds C h => ?_) (fun cdv A outer s H E hr ds d h => ?_) (fun cdv A outer s H E hr ds C h ht => ?_), hm, F.kp, hb⟩
  · obtain ⟨x, i, rfl, _⟩ := h
    exact ⟨rfl, by simp⟩
  · obtain ⟨x, rfl, _⟩ := h
    exact ⟨rfl, by simp⟩
  · obtain ⟨x, i, rfl, hl, hn, rfl⟩ := h
    have nd := sc_number_read.nd
    have hl5 : x.length ≤ 100000 := by omega
    have sl := RD.sg_len x
    unfold RD.nr at hn
    split at hn
    · rename_i h0
      cases hn
      have ex : x = Str.ofString "0" := by rw [e48]; exact RD.sg_inj h0
      exact do_ifR (k := true) (Et.tt (et_eqS (ev_v 0) ev_str) ex) (fun _ => do_ret ev_int rfl) (fun z => by cases z)
    · rename_i h0
      refine do_ifF (Et.ff' (et_eqS (ev_v 0) ev_str) (z0 h0)) ?_
      split at hn
      · rename_i h45
        split at hn
        · rename_i hf
          cases hn
          have h1 : 1 ≤ x.length := by
            rw [← sl]
            cases hx : RD.sg x with
            | nil => rw [hx] at h45; cases h45
            | cons c r => simp
          have es := RD.slice_from x h1
          have lf : (Txt.slice x (some ((1 : Nat) : Int)) none).length ≤ 600 := Nat.le_trans (Txt.slice_le _ _ _) hl
          refine do_set 1 (d := .bl true) (Ev.to (ev_starts (ev_v 0) ev_str) (by rw [RD.s_minus, RD.starts_one, decide_eq_true h45])) (.bl _) ?_ nd
          refine do_set 2 (d := .str (Txt.slice x (some ((1 : Nat) : Int)) none)) (ev_ifT (et_val (ev_v 1)) (ev_sliceS (ev_v 0) (eo_some ev_int) eo_none hl5)) (.str _) ?_ nd
          refine do_ifF (et_notT (et_val (Ev.to (ev_call G1 hr (ea_cons (ev_v 2) ea_nil) ⟨_, rfl, lf, rfl⟩) (by rw [es, hf])))) ?_
          refine do_ret (ev_ifT (et_val (ev_v 1)) (ev_neg (ev_call G2 hr (ea_cons (ev_v 2) ea_nil) ⟨_, rfl, by rw [es]; exact (RD.figs_all hf).1, lf, rfl⟩))) ?_
          rw [es]
        · cases hn
      · rename_i h45
        split at hn
        · rename_i hf
          cases hn
          refine do_set 1 (d := .bl false) (Ev.to (ev_starts (ev_v 0) ev_str) (by rw [RD.s_minus, RD.starts_one, decide_eq_false h45])) (.bl _) ?_ nd
          refine do_set 2 (d := .str x) (ev_ifF (et_val (ev_v 1)) (ev_v 0)) (.str _) ?_ nd
          refine do_ifF (et_notT (et_val (Ev.to (ev_call G1 hr (ea_cons (ev_v 2) ea_nil) ⟨_, rfl, hl, rfl⟩) (by rw [hf])))) ?_
          exact do_ret (ev_ifF (et_val (ev_v 1)) (ev_call G2 hr (ea_cons (ev_v 2) ea_nil) ⟨_, rfl, (RD.figs_all hf).1, hl, rfl⟩)) rfl
        · cases hn
  · obtain ⟨x, rfl, hl, hn, rfl⟩ := h
    have nd := sc_number_read.nd
    have hl5 : x.length ≤ 100000 := by omega
    have sl := RD.sg_len x
    unfold RD.nr at hn
    split at hn
    · cases hn
    · rename_i h0
      refine do_ifF (Et.ff' (et_eqS (ev_v 0) ev_str) (z0 h0)) ?_
      split at hn
      · rename_i h45
        split at hn
        · cases hn
        · rename_i hf
          have h1 : 1 ≤ x.length := by
            rw [← sl]
            cases hx : RD.sg x with
            | nil => rw [hx] at h45; cases h45
            | cons c r => simp
          have es := RD.slice_from x h1
          have lf : (Txt.slice x (some ((1 : Nat) : Int)) none).length ≤ 600 := Nat.le_trans (Txt.slice_le _ _ _) hl
          refine do_set 1 (d := .bl true) (Ev.to (ev_starts (ev_v 0) ev_str) (by rw [RD.s_minus, RD.starts_one, decide_eq_true h45])) (.bl _) ?_ nd
          refine do_set 2 (d := .str (Txt.slice x (some ((1 : Nat) : Int)) none)) (ev_ifT (et_val (ev_v 1)) (ev_sliceS (ev_v 0) (eo_some ev_int) eo_none hl5)) (.str _) ?_ nd
          exact do_if (fun _ => False) (k := true) (et_notF (et_val (Ev.to (ev_call G1 hr (ea_cons (ev_v 2) ea_nil) ⟨_, rfl, lf, rfl⟩) (by rw [es, Bool.eq_false_iff.mpr hf]))))
            (fun _ => do_raise ht.made Q.qw PySem.F.excBase_ValueError rfl PySem.F.excBase_ValueError Q.mw hr.hd (ea_cons ev_str ea_nil) (by simp)) (fun z => by cases z) (fun _ z => z.elim)
      · rename_i h45
        split at hn
        · cases hn
        · rename_i hf
          refine do_set 1 (d := .bl false) (Ev.to (ev_starts (ev_v 0) ev_str) (by rw [RD.s_minus, RD.starts_one, decide_eq_false h45])) (.bl _) ?_ nd
          refine do_set 2 (d := .str x) (ev_ifF (et_val (ev_v 1)) (ev_v 0)) (.str _) ?_ nd
          exact do_if (fun _ => False) (k := true) (et_notF (et_val (Ev.to (ev_call G1 hr (ea_cons (ev_v 2) ea_nil) ⟨_, rfl, hl, rfl⟩) (by rw [Bool.eq_false_iff.mpr hf]))))
            (fun _ => do_raise ht.made Q.qw PySem.F.excBase_ValueError rfl PySem.F.excBase_ValueError Q.mw hr.hd (ea_cons ev_str ea_nil) (by simp)) (fun z => by cases z) (fun _ z => z.elim)
theorem ok_within_brackets {f Cw Cf : Addr} {fd : FuncData} (T : Tx mg) (Q : Ex20 K mg Cw Cf) (F : Fun K "within_brackets" "within_brackets" s_within_brackets f fd) (hm : mg "within_brackets" = some (.ref f)) (hb : Binds K fd ["text"] []) :
    FnX P w K mg base 1 "within_brackets" p_within (x_within Cw) := by
  refine ⟨f, fd, _, fnx_ok F sc_within_brackets (fun ds d h => ?_) (fun ds C h => ?_) (fun cdv A outer s H E hr ds d h => ?_) (fun cdv A outer s H E hr ds C h ht => ?_), hm, F.kp, hb⟩
  · obtain ⟨x, i, rfl, _⟩ := h
    exact ⟨rfl, by simp⟩
  · obtain ⟨x, rfl, _⟩ := h
    exact ⟨rfl, by simp⟩
  · obtain ⟨x, m, rfl, hl, hn, rfl⟩ := h
    have nd := sc_within_brackets.nd
    unfold RD.inn at hn
    split at hn
    · rename_i hc
      cases hn
      have lt := RD.tr_le x
      refine do_ifF (et_notT (et_val (ev_isi T.isi (ev_v 0) T.str bo_str rfl kit_s))) ?_
      refine do_set 1 (d := .str (RD.tr x)) (Ev.to (ev_stripC (ev_v 0) ev_str (by omega)) (by rw [RD.s_blank])) (.str _) ?_ nd
      refine do_ifF (et_notT (et_w (ew_andT (et_val (Ev.to (ev_starts (ev_v 1) ev_str) (by rw [RD.s_open, RD.starts_one, decide_eq_true hc.1]))) (ew_and1 (et_val (Ev.to (ev_ends (ev_v 1) ev_str) (by rw [RD.s_shut, RD.ends_one, decide_eq_true hc.2]))))))) ?_
      exact do_ret (ev_sliceS (ev_v 1) (eo_some ev_int) (eo_some (ev_neg ev_int)) (by omega)) rfl
    · cases hn
  · obtain ⟨x, rfl, hl, hn, rfl⟩ := h
    have nd := sc_within_brackets.nd
    unfold RD.inn at hn
    split at hn
    · cases hn
    · rename_i hc
      refine do_ifF (et_notT (et_val (ev_isi T.isi (ev_v 0) T.str bo_str rfl kit_s))) ?_
      refine do_set 1 (d := .str (RD.tr x)) (Ev.to (ev_stripC (ev_v 0) ev_str (by omega)) (by rw [RD.s_blank])) (.str _) ?_ nd
      refine do_if (fun _ => False) (k := true) (et_notF (et_w ?_)) (fun _ => do_raise ht.made Q.qw PySem.F.excBase_ValueError rfl PySem.F.excBase_ValueError Q.mw hr.hd (ea_cons ev_str ea_nil) (by simp)) (fun z => by cases z) (fun _ z => z.elim)
      by_cases h1 : (RD.sg (RD.tr x)).head? = some 91
      · exact ew_andT (et_val (Ev.to (ev_starts (ev_v 1) ev_str) (by rw [RD.s_open, RD.starts_one, decide_eq_true h1]))) (ew_and1 (et_val (Ev.to (ev_ends (ev_v 1) ev_str) (by rw [RD.s_shut, RD.ends_one, decide_eq_false (fun z => hc ⟨h1, z⟩)]))))
      · exact ew_andF (et_val (Ev.to (ev_starts (ev_v 1) ev_str) (by rw [RD.s_open, RD.starts_one, decide_eq_false h1])))
set_option maxHeartbeats 2000000 in
theorem ok_written {f Cf : Addr} {fd : FuncData} (G1 : FnX P w K mg base 4 "require_form" p_require_form (x_require_form Cf)) (G2 : Fn P w K mg base 1 "number_written" p_numL) (F : Fun K "written" "written" s_written f fd) (hm : mg "written" = some (.ref f)) (hb : Binds K fd ["form"] []) : Fn P w K mg base 5 "written" p_writtenL := by
  refine fn_mk F sc_written hm hb (fun ds d h => ?_) (fun cdv A outer s H E hr ds d h => ?_)
  · obtain ⟨a, b, c, rfl, _⟩ := h
    exact ⟨rfl, by simp⟩
  · obtain ⟨a, b, c, rfl, hf, rfl⟩ := h
    have nd := sc_written.nd
    have hr1 := hr.mono (show 1 ≤ 4 by decide)
    have la := sI_lenL hf.a
    have lb := sI_lenL hf.b
    have lc := sI_lenL hf.c
    have l2 : (Str.ofString ", ").length = 2 := rfl
    have lx : (Str.ofString "[").length = 1 := rfl
    have ly : (Str.ofString "]").length = 1 := rfl
    refine do_expr (ev_callX G1 hr (ea_cons (ev_v 0) ea_nil) ⟨a, b, c, rfl, hf.n, rfl⟩) ?_
    have e : ([sI a, sI b, sI c].map D.str) = ((([.int a, .int b, .int c] : List D).filter fun _ => true).map fun d => match d with | .int i => D.str (sI i) | _ => .non) := rfl
    refine do_set 1 (d := .str (Txt.join (Str.ofString ", ") [sI a, sI b, sI c])) (ev_join ev_str ?comp (joinOk_small (by simp only [List.map_cons, List.map_nil, List.sum_cons, List.sum_nil, List.length_cons, List.length_nil, l2]; omega))) (.str _) ?_ nd
    case comp =>
      rw [e]
      refine evn_compC [] [] [] (fun _ => true) _ (src_tup (ev_v 0)) (by simp) (fun d hd _ => ?_) (fun C s₀ H₀ fp d hd => ets_nil) (fun C s₀ H₀ fp d hd _ => ?_)
      · simp only [List.mem_cons, List.not_mem_nil, or_false] at hd
        rcases hd with rfl | rfl | rfl <;> exact .str _
      · simp only [List.mem_cons, List.not_mem_nil, or_false] at hd
        rcases hd with rfl | rfl | rfl
        · exact ev_call G2 hr1 (ea_cons (ev_v 0) ea_nil) ⟨_, rfl, hf.a, rfl⟩
        · exact ev_call G2 hr1 (ea_cons (ev_v 0) ea_nil) ⟨_, rfl, hf.b, rfl⟩
        · exact ev_call G2 hr1 (ea_cons (ev_v 0) ea_nil) ⟨_, rfl, hf.c, rfl⟩
    have lj : (Txt.join (Str.ofString ", ") [sI a, sI b, sI c]).length ≤ 310 := by
      rw [join3]
      simp only [Str.length_append, l2]
      omega
    refine do_ret (ev_fstr (.cons (pt_of ev_str) (.cons (pt_str (ev_v 1) (by omega)) (.cons (pt_of ev_str) .nil))) (by simp only [List.map_cons, List.map_nil, List.sum_cons, List.sum_nil, lx, ly]; omega)) ?_
    show D.str (catL Str.empty [Str.ofString "[", Txt.join (Str.ofString ", ") [sI a, sI b, sI c], Str.ofString "]"]) = D.str (formS a b c)
    unfold catL formS
    rw [join3]
    simp only [List.foldl_cons, List.foldl_nil, emp_app, app_assoc]
theorem ok_read {f Cw Cf : Addr} {fd : FuncData} (T : Tx mg) (Q : Ex20 K mg Cw Cf) (G1 : FnX P w K mg base 1 "within_brackets" p_within (x_within Cw)) (G2 : FnX P w K mg base 2 "number_read" p_number_read (x_number_read Cw)) (G3 : FnX P w K mg base 4 "require_form" p_require_form (x_require_form Cf))
    (F : Fun K "read" "read" s_read f fd) (hm : mg "read" = some (.ref f)) (hb : Binds K fd ["text"] []) : FnX P w K mg base 5 "read" p_read (x_read Cw Cf) := by
  refine ⟨f, fd, _, fnx_ok F sc_read (fun ds d h => ?_) (fun ds C h => ?_) (fun cdv A outer s H E hr ds d h => ?_) (fun cdv A outer s H E hr ds C h ht => ?_), hm, F.kp, hb⟩
  · obtain ⟨x, a, b, c, rfl, _⟩ := h
    exact ⟨rfl, by simp⟩
  · obtain ⟨x, rfl, _⟩ := h
    exact ⟨rfl, by simp⟩
  · obtain ⟨x, a, b, c, rfl, hl, hw, hq, rfl⟩ := h
    have nd := sc_read.nd
    have hr1 := hr.mono (show 1 ≤ 4 by decide)
    have hr2 := hr.mono (show 2 ≤ 4 by decide)
    obtain ⟨sa, sb, sc⟩ := wrt_bd hw hl
    obtain ⟨m, p, q, r, h1, h2, wp, wq, wr⟩ := wrt_some hw
    have lm := RD.inn_le h1
    have lp : ∀ z ∈ Txt.split m ⟨#[44]⟩, z.length ≤ 600 := fun z hz => by have := split_len hz; omega
    rw [h2] at lp
    have es : ((Txt.split m (Str.ofString ",")).map D.str) = [D.str p, D.str q, D.str r] := by rw [RD.s_comma, h2]; rfl
    refine do_setN 1 (ds := [D.str p, D.str q, D.str r]) (by rw [← es]; exact evn_split (ev_callX G1 hr1 (ea_cons (ev_v 0) ea_nil) ⟨x, m, rfl, hl, h1, rfl⟩) ev_str rfl (by omega)) (fun d hd => by
      simp only [List.mem_cons, List.not_mem_nil, or_false] at hd
      rcases hd with rfl | rfl | rfl <;> exact .str _) (fun l _ => ?_) nd
    refine do_ifF (Et.ff (et_ne (ev_len T.len (ev_v 1) rfl) ev_int) rfl) ?_
    refine do_set 2 (d := formD a b c) (ev_tupleOf T.tuple (EvN.ev (ds := [D.int a, D.int b, D.int c]) ?_) rfl) (fz3 a b c) ?_ nd
    · have e : [D.int a, D.int b, D.int c] = ([D.str p, D.str q, D.str r] : List D).map fun d => match d with | .str z => oI (RD.wrN z) | _ => .non := by
        show _ = [oI (RD.wrN p), oI (RD.wrN q), oI (RD.wrN r)]
        rw [wp, wq, wr]
        rfl
      rw [e]
      refine evn_map0 _ (src_ls (ev_v 1) rfl) (by simp) (fun d hd => ?_) (fun C s₀ H₀ fp d hd => ?_)
      · simp only [List.mem_cons, List.not_mem_nil, or_false] at hd
        rcases hd with rfl | rfl | rfl
        · show Fz (oI (RD.wrN p)); rw [wp]; exact .int _
        · show Fz (oI (RD.wrN q)); rw [wq]; exact .int _
        · show Fz (oI (RD.wrN r)); rw [wr]; exact .int _
      · have key : ∀ z i, z.length ≤ 600 → RD.wrN z = some i → p_number_read [.str (Txt.stripChars z (Str.ofString " "))] (oI (RD.wrN z)) := fun z i lz hz => by
          rw [hz, RD.s_blank]
          exact ⟨RD.tr z, i, rfl, Nat.le_trans (RD.tr_le z) lz, hz, rfl⟩
        simp only [List.mem_cons, List.not_mem_nil, or_false] at hd
        rcases hd with rfl | rfl | rfl
        · exact ev_callX G2 hr2 (ea_cons (ev_stripC (ev_v 0) ev_str (by have := lp p (by simp); omega)) ea_nil) (key p a (lp p (by simp)) wp)
        · exact ev_callX G2 hr2 (ea_cons (ev_stripC (ev_v 0) ev_str (by have := lp q (by simp); omega)) ea_nil) (key q b (lp q (by simp)) wq)
        · exact ev_callX G2 hr2 (ea_cons (ev_stripC (ev_v 0) ev_str (by have := lp r (by simp); omega)) ea_nil) (key r c (lp r (by simp)) wr)
    · refine do_expr (ev_callX G3 hr (ea_cons (ev_v 2) ea_nil) ⟨a, b, c, rfl, ⟨hq.1, hq.2, sa.up _ (by decide), sb.up _ (by decide), sc.up _ (by decide)⟩, rfl⟩) ?_
      exact do_ret (ev_v 2) rfl
  · obtain ⟨x, rfl, hl, hc⟩ := h
    have nd := sc_read.nd
    have hr1 := hr.mono (show 1 ≤ 4 by decide)
    have hr2 := hr.mono (show 2 ≤ 4 by decide)
    have good : ∀ {m p q r : Str} {Pp : Po}, RD.inn x = some m → Txt.split m ⟨#[44]⟩ = [p, q, r] → p.length ≤ 600 ∧ q.length ≤ 600 ∧ r.length ≤ 600 := fun {m p q r Pp} h1 h2 => by
      have lm := RD.inn_le h1
      have lp : ∀ z ∈ Txt.split m ⟨#[44]⟩, z.length ≤ 600 := fun z hz => by have := split_len hz; omega
      rw [h2] at lp
      exact ⟨lp p (by simp), lp q (by simp), lp r (by simp)⟩
    have fzs : ∀ (xs : List Str), ∀ d ∈ xs.map D.str, Fz d := fun xs d hd => by
      obtain ⟨z, _, rfl⟩ := List.mem_map.mp hd
      exact .str _
    have key : ∀ z i, z.length ≤ 600 → RD.wrN z = some i → p_number_read [.str (Txt.stripChars z (Str.ofString " "))] (oI (RD.wrN z)) := fun z i lz hz => by
      rw [hz, RD.s_blank]
      exact ⟨RD.tr z, i, rfl, Nat.le_trans (RD.tr_le z) lz, hz, rfl⟩
    have keyX : ∀ z, z.length ≤ 600 → RD.wrN z = none → x_number_read Cw [.str (Txt.stripChars z (Str.ofString " "))] Cw := fun z lz hz => by
      rw [RD.s_blank]
      exact ⟨RD.tr z, rfl, Nat.le_trans (RD.tr_le z) lz, hz, rfl⟩
    rcases hc with ⟨hw, rfl⟩ | ⟨a, b, c, hw, hq, rfl⟩
    · rcases wrt_none hw with h1 | ⟨m, h1, h2⟩
      · exact do_setX 1 (rs_recv (rs_call G1 hr1 (ea_cons (ev_v 0) ea_nil) ⟨x, rfl, hl, h1, rfl⟩ ht.on)) nd
      · have lm := RD.inn_le h1
        refine do_setN 1 (evn_split (ev_callX G1 hr1 (ea_cons (ev_v 0) ea_nil) ⟨x, m, rfl, hl, h1, rfl⟩) ev_str rfl (by omega)) (fzs _) (fun l _ => ?_) nd
        rw [RD.s_comma]
        rcases h2 with h2 | ⟨p, q, r, h2, h3⟩
        · exact do_if (fun _ => False) (k := true) (Et.to (et_ne (ev_len T.len (ev_v 1) (show lenD (.lst l ((Txt.split m ⟨#[44]⟩).map D.str)) = some _ from rfl)) ev_int) (by
            rw [List.length_map]
            have : ¬ (((Txt.split m ⟨#[44]⟩).length : Nat) : Int) = 3 := by omega
            rw [decide_eq_false this]; rfl))
            (fun _ => do_raise ht.made Q.qw PySem.F.excBase_ValueError rfl PySem.F.excBase_ValueError Q.mw hr.hd (ea_cons ev_str ea_nil) (by simp)) (fun z => by cases z) (fun _ z => z.elim)
        · obtain ⟨lp, lq, lr⟩ := good (Pp := ⟨fun _ => True, fun _ => True, fun _ => True, fun _ => True⟩) h1 h2
          rw [h2]
          refine do_ifF (Et.ff (et_ne (ev_len T.len (ev_v 1) rfl) ev_int) rfl) ?_
          rcases h3 with wp | ⟨a, wp, wq⟩ | ⟨a, b, wp, wq, wr⟩
          · refine do_setX 2 (rs_tuple T.tuple (rs_comp0 0 (fun d => match d with | .str z => oI (RD.wrN z) | _ => .non) ht.held (src_ls (ev_v 1) rfl) (by simp) (by simp) (fun C s₀ H₀ fp i d hi hd => absurd hi (Nat.not_lt_zero i)) (fun C s₀ H₀ fp d hd => ?_))) nd
            cases hd
            exact rsf_call rfl G2 hr2 (ea_cons (ev_stripC (ev_v 0) ev_str (by omega)) ea_nil) (keyX p lp wp)
          · refine do_setX 2 (rs_tuple T.tuple (rs_comp0 1 (fun d => match d with | .str z => oI (RD.wrN z) | _ => .non) ht.held (src_ls (ev_v 1) rfl) (by simp) (by simp) (fun C s₀ H₀ fp i d hi hd => ?_) (fun C s₀ H₀ fp d hd => ?_))) nd
            · obtain rfl : i = 0 := by omega
              cases hd
              exact ev_callX G2 hr2 (ea_cons (ev_stripC (ev_v 0) ev_str (by omega)) ea_nil) (key p a lp wp)
            · cases hd
              exact rsf_call rfl G2 hr2 (ea_cons (ev_stripC (ev_v 0) ev_str (by omega)) ea_nil) (keyX q lq wq)
          · refine do_setX 2 (rs_tuple T.tuple (rs_comp0 2 (fun d => match d with | .str z => oI (RD.wrN z) | _ => .non) ht.held (src_ls (ev_v 1) rfl) (by simp) (by simp) (fun C s₀ H₀ fp i d hi hd => ?_) (fun C s₀ H₀ fp d hd => ?_))) nd
            · obtain rfl | rfl : i = 0 ∨ i = 1 := by omega
              · cases hd
                exact ev_callX G2 hr2 (ea_cons (ev_stripC (ev_v 0) ev_str (by omega)) ea_nil) (key p a lp wp)
              · cases hd
                exact ev_callX G2 hr2 (ea_cons (ev_stripC (ev_v 0) ev_str (by omega)) ea_nil) (key q b lq wq)
            · cases hd
              exact rsf_call rfl G2 hr2 (ea_cons (ev_stripC (ev_v 0) ev_str (by omega)) ea_nil) (keyX r lr wr)
    · obtain ⟨sa, sb, sc⟩ := wrt_bd hw hl
      obtain ⟨m, p, q, r, h1, h2, wp, wq, wr⟩ := wrt_some hw
      obtain ⟨lp, lq, lr⟩ := good (Pp := ⟨fun _ => True, fun _ => True, fun _ => True, fun _ => True⟩) h1 h2
      have lm := RD.inn_le h1
      refine do_setN 1 (evn_split (ev_callX G1 hr1 (ea_cons (ev_v 0) ea_nil) ⟨x, m, rfl, hl, h1, rfl⟩) ev_str rfl (by omega)) (fzs _) (fun l _ => ?_) nd
      rw [RD.s_comma, h2]
      refine do_ifF (Et.ff (et_ne (ev_len T.len (ev_v 1) rfl) ev_int) rfl) ?_
      refine do_set 2 (d := formD a b c) (ev_tupleOf T.tuple (EvN.ev (ds := [D.int a, D.int b, D.int c]) ?_) rfl) (fz3 a b c) ?_ nd
      · have e : [D.int a, D.int b, D.int c] = ([p, q, r].map D.str).map fun d => match d with | .str z => oI (RD.wrN z) | _ => .non := by
          show _ = [oI (RD.wrN p), oI (RD.wrN q), oI (RD.wrN r)]
          rw [wp, wq, wr]
          rfl
        rw [e]
        refine evn_map0 _ (src_ls (ev_v 1) rfl) (by simp) (fun d hd => ?_) (fun C s₀ H₀ fp d hd => ?_)
        · simp only [List.map_cons, List.map_nil, List.mem_cons, List.not_mem_nil, or_false] at hd
          rcases hd with rfl | rfl | rfl
          · show Fz (oI (RD.wrN p)); rw [wp]; exact .int _
          · show Fz (oI (RD.wrN q)); rw [wq]; exact .int _
          · show Fz (oI (RD.wrN r)); rw [wr]; exact .int _
        · simp only [List.map_cons, List.map_nil, List.mem_cons, List.not_mem_nil, or_false] at hd
          rcases hd with rfl | rfl | rfl
          · exact ev_callX G2 hr2 (ea_cons (ev_stripC (ev_v 0) ev_str (by omega)) ea_nil) (key p a lp wp)
          · exact ev_callX G2 hr2 (ea_cons (ev_stripC (ev_v 0) ev_str (by omega)) ea_nil) (key q b lq wq)
          · exact ev_callX G2 hr2 (ea_cons (ev_stripC (ev_v 0) ev_str (by omega)) ea_nil) (key r c lr wr)
      · exact do_exprX (rs_call G3 hr (ea_cons (ev_v 2) ea_nil) ⟨a, b, c, rfl, sa.up _ (by decide), sb.up _ (by decide), sc.up _ (by decide), hq, rfl⟩ ht.on)
theorem ok_law_ints {f : Addr} {fd : FuncData} (T : Tx mg) (F : Fun K "_law_ints" "_law_ints" s_law_ints f fd) (hm : mg "_law_ints" = some (.ref f)) (hb : Binds K fd ["_law_found", "_law_size"] []) :
    Fn P w K mg base 1 "_law_ints" p_law_ints := by
  refine fn_mk F sc_law_ints hm hb (fun ds d h => ?_) (fun cdv A outer s H E hr ds d h => ?_)
  · obtain ⟨ns, rfl, rfl⟩ := h
    exact ⟨rfl, by simp⟩
  · obtain ⟨ns, rfl, rfl⟩ := h
    have nd := sc_law_ints.nd
    have e1 : lenD (.tup (ns.map D.int)) = some ns.length := by simp [lenD]
    refine do_ifF (et_w (ew_orF (et_notT (et_val (ev_isi T.isi (ev_v 0) T.tuple bo_tuple rfl kit_s))) (ew_or1 (Et.ff (et_ne (ev_len T.len (ev_v 0) e1) (ev_v 1)) rfl)))) ?_
    have fz : ∀ d ∈ ns.map D.int, Fz d := fun d hd => by
      obtain ⟨z, _, rfl⟩ := List.mem_map.mp hd
      exact .int z
    refine do_for 2 (fun i ρ => ∃ r, ρ = [some (.tup (ns.map D.int)), some (.int (ns.length : Int)), r]) (fun ρ => ∃ r, ρ = [some (.tup (ns.map D.int)), some (.int (ns.length : Int)), r]) PassesOwn.never rfl (wk_tup (ev_v 0) fz) fz (fun _ _ _ => trivial) ⟨none, rfl⟩ ?_ (fun ρ h => h) ?_ nd
    · rintro i d ρ hd ⟨r, rfl⟩
      obtain ⟨z, _, rfl⟩ := List.mem_map.mp (List.mem_of_getElem? hd)
      refine do_ifF (et_w (ew_orF (et_notT (et_val (ev_isi T.isi (ev_v 2) T.int bo_int rfl kit_s))) (ew_or1 (et_val (ev_isi T.isi (ev_v 2) T.bool bo_bool rfl kit_int_bool))))) (do_nil ⟨_, rfl⟩)
    · rintro ρ ⟨r, rfl⟩
      exact do_ret ev_bl rfl
theorem ok_law_cell_at {f : Addr} {fd : FuncData} (T : Tx mg) (F : Fun K "_law_cell_at" "_law_cell_at" s_law_cell_at f fd) (hm : mg "_law_cell_at" = some (.ref f)) (hb : Binds K fd ["_law_script", "_law_k"] []) :
    Fn P w K mg base 1 "_law_cell_at" p_law_cell_at := by
  refine fn_mk F sc_law_cell_at hm hb (fun ds d h => ?_) (fun cdv A outer s H E hr ds d h => ?_)
  · obtain ⟨ns, k, rfl, rfl⟩ := h
    exact ⟨rfl, by simp⟩
  · obtain ⟨ns, k, rfl, rfl⟩ := h
    have e1 : lenD (scrD ns) = some ns.length := by simp [lenD]
    refine do_ifR (et_lt (ev_v 1) (ev_len T.len (ev_v 0) e1)) (fun hk => ?_) (fun hk => ?_)
    · have hk' : k < ns.length := by simpa using hk
      refine do_ret (ev_ixl (d := .int (cell ns k)) (ev_v 0) rfl (ev_v 1) (atI_nat ?_)) rfl
      rw [List.getElem?_map, List.getElem?_eq_getElem hk']
      simp [cell, List.getD, List.getElem?_eq_getElem hk']
    · have hk' : ns.length ≤ k := by simpa using hk
      refine do_ret ev_int ?_
      show D.int 0 = D.int _
      simp [cell, List.getD, List.getElem?_eq_none hk']
theorem ok_law_great {f : Addr} {fd : FuncData} (F : Fun K "_law_great" "_law_great" s_law_great f fd) (hm : mg "_law_great" = some (.ref f)) (hb : Binds K fd ["_law_cell", "_law_other"] []) :
    Fn P w K mg base 1 "_law_great" p_law_great := by
  refine fn_mk F sc_law_great hm hb (fun ds d h => ?_) (fun cdv A outer s H E hr ds d h => ?_)
  · obtain ⟨c, o, rfl, _, _, rfl⟩ := h
    exact ⟨rfl, by simp⟩
  · obtain ⟨c, o, rfl, hc, ho, rfl⟩ := h
    refine do_ifR (et_eq (ev_mod (ev_v 1) ev_int (by decide)) ev_int) (fun hk => ?_) (fun hk => ?_)
    · have h0 : o % 5 = 0 := by simpa using hk
      refine do_ret (ev_mod (ev_pow (n := 2) (ev_add (ev_mul (ev_v 0) ev_int inferInstance inferInstance) (ev_v 1)) ev_int inferInstance) (ev_pow (n := 40) ev_int ev_int inferInstance) (by decide)) ?_
      show D.int _ = D.int _
      unfold great
      rw [if_pos h0]
    · have h0 : ¬ o % 5 = 0 := by simpa using hk
      refine do_ret (ev_mod (ev_v 0) ev_int (by decide)) ?_
      show D.int _ = D.int _
      unfold great
      rw [if_neg h0]
theorem ok_law_form_by {f : Addr} {fd : FuncData} (G1 : Fn P w K mg base 1 "_law_cell_at" p_law_cell_at) (G2 : Fn P w K mg base 1 "_law_great" p_law_great) (F : Fun K "_law_form_by" "_law_form_by" s_law_form_by f fd) (hm : mg "_law_form_by" = some (.ref f)) (hb : Binds K fd ["_law_script", "_law_k"] []) :
    Fn P w K mg base 2 "_law_form_by" p_law_form_by := by
  refine fn_mk F sc_law_form_by hm hb (fun ds d h => ?_) (fun cdv A outer s H E hr ds d h => ?_)
  · obtain ⟨ns, k, rfl, _, rfl⟩ := h
    exact ⟨rfl, by simp⟩
  · obtain ⟨ns, k, rfl, hs, rfl⟩ := h
    have nd := sc_law_form_by.nd
    have up : ∀ k, Bd (cell ns k) 1048577 := fun k => (hs k).up _ (by decide)
    have hA := dA_bd ns k
    have hB := dB_bd ns k
    refine do_set 2 (d := .int (dA ns k)) (ev_add ev_int (ev_call G2 hr (ea_cons (ev_call G1 hr (ea_cons (ev_v 0) (ea_cons (ev_v 1) ea_nil)) ⟨ns, k, rfl, rfl⟩) (ea_cons (ev_call G1 hr (ea_cons (ev_v 0) (ea_cons (ev_add (ev_v 1) ev_int) ea_nil)) ⟨ns, k + 3, rfl, rfl⟩) ea_nil))
      ⟨_, _, rfl, up _, up _, rfl⟩)) (.int _) ?_ nd
    refine do_set 3 (d := .int (dB0 ns k)) (ev_call G2 hr (ea_cons (ev_call G1 hr (ea_cons (ev_v 0) (ea_cons (ev_add (ev_v 1) ev_int) ea_nil)) ⟨ns, k + 1, rfl, rfl⟩)
      (ea_cons (ev_div (m := 3) (ev_call G1 hr (ea_cons (ev_v 0) (ea_cons (ev_add (ev_v 1) ev_int) ea_nil)) ⟨ns, k + 3, rfl, rfl⟩) ev_int (by decide) inferInstance) ea_nil)) ⟨_, _, rfl, up _, (up _).div (by decide), rfl⟩) (.int _) ?_ nd
    refine do_if (fun ρ => ρ = [some (scrD ns), some (.int k), some (.int (dA ns k)), some (.int (dB ns k)), none]) (et_eq (ev_mod (ev_div (m := 6) (ev_call G1 hr (ea_cons (ev_v 0) (ea_cons (ev_add (ev_v 1) ev_int) ea_nil)) ⟨ns, k + 1, rfl, rfl⟩) ev_int (by decide) .lit) ev_int (by decide)) ev_int) (fun hk => ?_) (fun hk => ?_) ?_
    · have h0 : cell ns (k + 1) / 50 % 2 = 1 := by simpa using hk
      refine do_set 3 (d := .int (dB ns k)) ?_ (.int _) (do_nil rfl) nd
      have e : dB ns k = -dB0 ns k := by unfold dB; rw [if_pos h0]
      rw [e]
      exact ev_neg (ev_v 3)
    · have h0 : ¬ cell ns (k + 1) / 50 % 2 = 1 := by simpa using hk
      refine do_nil ?_
      have e : dB ns k = dB0 ns k := by unfold dB; rw [if_neg h0]
      rw [e]
      rfl
    · rintro ρ rfl
      refine do_set 4 (d := .int (dC ns k)) (ev_add (ev_add (ev_div (ev_mul (ev_v 3) (ev_v 3) inferInstance inferInstance) (ev_mul ev_int (ev_v 2) inferInstance inferInstance) (by have := dA_pos ns k; omega) inferInstance) ev_int)
        (ev_call G2 hr (ea_cons (ev_call G1 hr (ea_cons (ev_v 0) (ea_cons (ev_add (ev_v 1) ev_int) ea_nil)) ⟨ns, k + 2, rfl, rfl⟩)
          (ea_cons (ev_add ev_int (ev_div (m := 5) (ev_call G1 hr (ea_cons (ev_v 0) (ea_cons (ev_add (ev_v 1) ev_int) ea_nil)) ⟨ns, k + 3, rfl, rfl⟩) ev_int (by decide) .lit)) ea_nil)) ⟨_, _, rfl, up _, ?_, rfl⟩)) (.int _) ?_ nd
      · exact Bd.add bd_1 ((hs (k + 3)).div (show (0 : Int) < 25 by decide)) _ (by decide)
      · exact do_ret (ev_tup (ea_cons (ev_v 2) (ea_cons (ev_v 3) (ea_cons (ev_v 4) ea_nil)))) rfl
theorem ok_law_number_of {f : Addr} {fd : FuncData} (T : Tx mg) (F : Fun K "_law_number_of" "_law_number_of" s_law_number_of f fd) (hm : mg "_law_number_of" = some (.ref f)) (hb : Binds K fd ["_law_text"] []) :
    Fn P w K mg base 1 "_law_number_of" p_law_number_of := by
  refine fn_mk F sc_law_number_of hm hb (fun ds d h => ?_) (fun cdv A outer s H E hr ds d h => ?_)
  · obtain ⟨x, rfl, _⟩ := h
    exact ⟨rfl, by simp⟩
  · obtain ⟨x, rfl, hl, rfl⟩ := h
    have nd := sc_law_number_of.nd
    have e48 : Str.ofString "0" = ⟨#[48]⟩ := by decide +kernel
    have e0 : Str.ofString "" = ⟨#[]⟩ := by decide +kernel
    have lt := RD.tr_le x
    have sl := RD.sg_len (RD.tr x)
    refine do_set 1 (d := .str (RD.tr x)) (Ev.to (ev_stripC (ev_v 0) ev_str (by omega)) (by rw [RD.s_blank])) (.str _) ?_ nd
    by_cases h0 : RD.sg (RD.tr x) = [48]
    · have ex : RD.tr x = Str.ofString "0" := by rw [e48]; exact RD.sg_inj h0
      refine do_ifR (k := true) (Et.tt (et_eqS (ev_v 1) ev_str) ex) (fun _ => do_ret ev_int ?_) (fun z => by cases z)
      show D.int 0 = oI (RD.nr _)
      unfold RD.nr
      rw [if_pos h0]
      rfl
    · have z0 : RD.tr x ≠ Str.ofString "0" := fun z => h0 (by rw [z, e48])
      refine do_ifF (Et.ff' (et_eqS (ev_v 1) ev_str) z0) ?_
      refine do_set 2 (d := .bl (decide ((RD.sg (RD.tr x)).head? = some 45))) (Ev.to (ev_starts (ev_v 1) ev_str) (by rw [RD.s_minus, RD.starts_one])) (.bl _) ?_ nd
      refine do_if (fun ρ => ∃ (y : Str) (k : Bool), ρ = [some (.str x), some (.str y), some (.bl k), none] ∧ y.length ≤ 600 ∧ oI (RD.wrN x) = (if RD.figs (RD.sg y) then .int (if k then -((PySem.NumText.digitsVal (RD.sg y) : Nat) : Int) else ((PySem.NumText.digitsVal (RD.sg y) : Nat) : Int)) else .non)) (et_val (ev_v 2)) (fun hk => ?_) (fun hk => ?_) ?_
      · have h45 : (RD.sg (RD.tr x)).head? = some 45 := of_decide_eq_true hk
        have h1 : 1 ≤ (RD.tr x).length := by
          rw [← sl]
          cases hx : RD.sg (RD.tr x) with
          | nil => rw [hx] at h45; cases h45
          | cons c r => simp
        have es := RD.slice_from (RD.tr x) h1
        refine do_set 1 (d := .str (Txt.slice (RD.tr x) (some ((1 : Nat) : Int)) none)) (ev_sliceS (ev_v 1) (eo_some ev_int) eo_none (by omega)) (.str _) (do_nil ⟨_, true, by rw [hk]; rfl, Nat.le_trans (Txt.slice_le _ _ _) (by omega), ?_⟩) nd
        rw [es]
        unfold RD.wrN RD.nr
        rw [if_neg h0, if_pos h45]
        split <;> rfl
      · have h45 : ¬ (RD.sg (RD.tr x)).head? = some 45 := of_decide_eq_false hk
        refine do_nil ⟨RD.tr x, false, by rw [hk]; rfl, by omega, ?_⟩
        unfold RD.wrN RD.nr
        rw [if_neg h0, if_neg h45]
        split <;> rfl
      · rintro ρ ⟨y, k, rfl, ly, ans⟩
        rw [ans]
        have sy := RD.sg_len y
        match hy : RD.sg y with
        | [] =>
          have ey : y = Str.ofString "" := by rw [e0]; exact RD.sg_inj (by rw [hy])
          exact do_ifR (k := true) (et_w (ew_orT (Et.tt (et_eqS (ev_v 1) ev_str) ey))) (fun _ => do_ret ev_non rfl) (fun z => by cases z)
        | c :: r =>
          have ey : y ≠ Str.ofString "" := fun z => by rw [z, e0] at hy; cases hy
          have h1 : atI y.cps.toList 0 = some c := by
            have : y.cps.toList = c :: r := hy
            rw [this]
            exact atI_nat (j := 0) rfl
          cases hc : (RD.isFig c && c != 48) with
          | false =>
            refine do_ifR (k := true) (et_w (ew_orF (Et.ff' (et_eqS (ev_v 1) ev_str) ey) (ew_or1 (Et.to (et_notinS (ev_ixS (ev_v 1) ev_int (by omega) h1) ev_str) (by rw [RD.in_figs1, hc]; rfl))))) (fun _ => do_ret ev_non ?_) (fun z => by cases z)
            have : RD.figs (c :: r) = false := by
              unfold RD.figs
              simp only [List.all_cons]
              cases h2 : RD.isFig c
              · simp
              · rw [h2] at hc
                have : c = 48 := by simpa using hc
                subst this
                simp
            rw [this]
            rfl
          | true =>
            refine do_ifF (et_w (ew_orF (Et.ff' (et_eqS (ev_v 1) ev_str) ey) (ew_or1 (Et.to (et_notinS (ev_ixS (ev_v 1) ev_int (by omega) h1) ev_str) (by rw [RD.in_figs1, hc]; rfl))))) ?_
            have hc2 : c ≠ 48 := by
              simp only [Bool.and_eq_true, bne_iff_ne] at hc
              exact hc.2
            have fz : ∀ d ∈ sgn y, Fz d := fun d hd => by
              obtain ⟨z, _, rfl⟩ := List.mem_map.mp hd
              exact .str _
            have fg : RD.figs (c :: r) = (c :: r).all RD.isFig := by
              unfold RD.figs
              have h2 : ((c :: r).head? != some 48) = true := by simpa using hc2
              rw [h2]
              rfl
            refine do_for 3 (fun i ρ => (∃ z, ρ = [some (.str x), some (.str y), some (.bl k), z]) ∧ ((RD.sg y).take i).all RD.isFig = true) (fun ρ => (∃ z, ρ = [some (.str x), some (.str y), some (.bl k), z]) ∧ (RD.sg y).all RD.isFig = true) PassesOwn.never rfl (wk_text (ev_v 1)) fz (fun _ _ _ => trivial) ⟨⟨none, rfl⟩, by simp⟩ ?_ ?_ ?_ nd
            · rintro i d ρ hd ⟨⟨z, rfl⟩, hi⟩
              rw [List.getElem?_map] at hd
              cases q : (RD.sg y)[i]? with
              | none => rw [show y.cps.toList[i]? = none from q] at hd; cases hd
              | some c' =>
                rw [show y.cps.toList[i]? = some c' from q] at hd
                cases hd
                refine do_ifR (Et.to (et_notinS (ev_v 3) ev_str) (by rw [RD.in_figs])) (fun hk => do_ret ev_non ?_) (fun hk => do_nil ⟨⟨_, rfl⟩, ?_⟩)
                · have hk' : RD.isFig c' = false := by simpa using hk
                  have : (c :: r).all RD.isFig = false := by
                    rw [← hy, List.all_eq_false]
                    exact ⟨c', List.mem_of_getElem? q, by rw [hk']; simp⟩
                  rw [fg, this]
                  rfl
                · have hk' : RD.isFig c' = true := by simpa using hk
                  rw [List.take_succ, List.all_append, hi, q]
                  simp [hk']
            · rintro ρ ⟨h2, h3⟩
              refine ⟨h2, ?_⟩
              rw [List.length_map, show y.cps.toList.length = (RD.sg y).length from rfl, List.take_length] at h3
              exact h3
            · rintro ρ ⟨⟨z, rfl⟩, hall⟩
              rw [hy] at hall
              have hf : RD.figs (c :: r) = true := by rw [fg, hall]
              rw [hf, if_pos rfl]
              have hd := (RD.figs_all hf).1
              have it : PySem.intText? y = some ((PySem.NumText.digitsVal (c :: r) : Nat) : Int) := intG hy hd (by simp) (by omega)
              cases k with
              | true => exact do_ret (ev_ifT (et_val (ev_v 2)) (ev_neg (ev_intS T.int (ev_v 1) (by omega) it))) rfl
              | false => exact do_ret (ev_ifF (et_val (ev_v 2)) (ev_intS T.int (ev_v 1) (by omega) it)) rfl
theorem ok_law_form_of {f : Addr} {fd : FuncData} (T : Tx mg) (G1 : Fn P w K mg base 1 "_law_number_of" p_law_number_of) (F : Fun K "_law_form_of" "_law_form_of" s_law_form_of f fd) (hm : mg "_law_form_of" = some (.ref f)) (hb : Binds K fd ["_law_text"] []) :
    Fn P w K mg base 2 "_law_form_of" p_law_form_of := by
  refine fn_mk F sc_law_form_of hm hb (fun ds d h => ?_) (fun cdv A outer s H E hr ds d h => ?_)
  · obtain ⟨x, rfl, _⟩ := h
    exact ⟨rfl, by simp⟩
  · obtain ⟨x, rfl, hl, rfl⟩ := h
    have nd := sc_law_form_of.nd
    have lt := RD.tr_le x
    have sl := RD.sg_len (RD.tr x)
    have noW : RD.inn x = none → oF (RD.wrt x) = .non := fun h => by unfold RD.wrt; rw [h]; rfl
    have noI : ¬ ((RD.sg (RD.tr x)).head? = some 91 ∧ (RD.sg (RD.tr x)).getLast? = some 93) → RD.inn x = none := fun h => if_neg h
    refine do_set 1 (d := .str (RD.tr x)) (Ev.to (ev_stripC (ev_v 0) ev_str (by omega)) (by rw [RD.s_blank])) (.str _) ?_ nd
    by_cases h2 : (RD.tr x).length < 2
    · refine do_ifR (k := true) (et_w (ew_orT (Et.tt (et_lt (ev_lenS T.len (ev_v 1) (by omega)) ev_int) (by omega)))) (fun _ => do_ret ev_non ?_) (fun z => by cases z)
      exact (noW (noI fun z => by have := RD.inn_two z; omega)).symm
    · obtain ⟨c, t, e1, hx⟩ : ∃ c t e1, RD.sg (RD.tr x) = c :: (t ++ [e1]) := by
        match hq : RD.sg (RD.tr x) with
        | [] => rw [hq] at sl; simp at sl; omega
        | c :: q =>
          rcases List.eq_nil_or_concat q with e | ⟨t, e1, e⟩
          · subst e; rw [hq] at sl; simp at sl; omega
          · exact ⟨c, t, e1, by rw [e, List.concat_eq_append]⟩
      have a0 : atI (RD.tr x).cps.toList 0 = some c := by
        have : (RD.tr x).cps.toList = c :: (t ++ [e1]) := hx
        rw [this]
        exact atI_nat (j := 0) rfl
      have a1 : atI (RD.tr x).cps.toList (-1) = some e1 := by
        have : (RD.tr x).cps.toList = (c :: t) ++ [e1] := hx
        rw [this]
        exact atI_last _ _
      have hh : (RD.sg (RD.tr x)).head? = some c := by rw [hx]; rfl
      have hg : (RD.sg (RD.tr x)).getLast? = some e1 := by
        rw [hx, ← List.cons_append, List.getLast?_append]
        rfl
      have one : ∀ {u v : Nat}, (⟨#[u]⟩ : Str) = ⟨#[v]⟩ → u = v := fun z => by injection z with z; injection z with z; injection z with z
      by_cases h91 : c = 91
      · subst h91
        by_cases h93 : e1 = 93
        · subst h93
          have hin : RD.inn x = some (Txt.slice (RD.tr x) (some 1) (some (-1))) := if_pos ⟨hh, hg⟩
          generalize hm' : Txt.slice (RD.tr x) (some 1) (some (-1)) = m at hin
          have lm := RD.inn_le hin
          have hc := RD.inn_cnt hin
          have hs := RD.cnt_split m 44
          have ec : Txt.count (RD.tr x) (Str.ofString ",") = PyProof.Rows.cnt 44 (RD.sg m) := by rw [RD.s_comma, PyProof.Rows.count_cnt]; exact hc
          by_cases h3 : (Txt.split m ⟨#[44]⟩).length = 3
          · have ec2 : Txt.count (RD.tr x) (Str.ofString ",") = 2 := by rw [ec]; omega
            refine do_ifF (et_w (ew_orF (Et.ff' (et_lt (ev_lenS T.len (ev_v 1) (by omega)) ev_int) (by omega)) (ew_orF (Et.ff (et_neS (ev_ixS (ev_v 1) ev_int (by omega) a0) ev_str) (by rw [RD.s_open])) (ew_orF (Et.ff (et_neS (ev_ixS (ev_v 1) (ev_neg ev_int) (by omega) a1) ev_str) (by rw [RD.s_shut])) (ew_or1 (Et.ff (et_ne (ev_countS (ev_v 1) ev_str) ev_int) ec2)))))) ?_
            obtain ⟨ps, hps⟩ : ∃ ps, Txt.split m ⟨#[44]⟩ = ps := ⟨_, rfl⟩
            rw [hps] at h3
            have lp : ∀ z ∈ ps, z.length ≤ 600 := fun z hz => by
              rw [← hps] at hz
              have := split_len hz
              omega
            have wnone : ∀ p ∈ ps, RD.wrN p = none → oF (RD.wrt x) = .non := fun p hp hn => by
              match ps, h3 with
              | [p1, p2, p3], _ =>
                unfold RD.wrt
                rw [hin]
                dsimp only
                rw [hps]
                dsimp only
                simp only [List.mem_cons, List.not_mem_nil, or_false] at hp
                rcases hp with rfl | rfl | rfl
                · rw [hn]; rfl
                · rw [hn]; cases RD.wrN p1 <;> rfl
                · rw [hn]; cases RD.wrN p1 <;> cases RD.wrN p2 <;> rfl
            have fz : ∀ d ∈ ps.map D.str, Fz d := fun d hd => by
              obtain ⟨z, _, rfl⟩ := List.mem_map.mp hd
              exact .str _
            refine do_setN 2 (evn_list ea_nil) (fun d hd => by cases hd) (fun l _ => ?_) nd
            refine do_for 3 (fun i ρ => ∃ (z : Option D) (vs : List Int), ρ = [some (.str x), some (.str (RD.tr x)), some (.lst l (vs.map D.int)), z] ∧ (ps.take i).map RD.wrN = vs.map some) (fun ρ => ∃ (z : Option D) (vs : List Int), ρ = [some (.str x), some (.str (RD.tr x)), some (.lst l (vs.map D.int)), z] ∧ ps.map RD.wrN = vs.map some)
              (ds := ps.map D.str) PassesOwn.never rfl ?wk fz (fun _ _ _ => trivial) ⟨none, [], rfl, by simp⟩ ?_ ?_ ?_ nd
            case wk =>
              have e : ps.map D.str = (Txt.split (Txt.slice (RD.tr x) (some 1) (some (-1))) (Str.ofString ",")).map D.str := by rw [hm', RD.s_comma, hps]
              rw [e]
              exact wk_new (evn_split (ev_sliceS (ev_v 1) (eo_some ev_int) (eo_some (ev_neg ev_int)) (by omega)) ev_str rfl (Nat.le_trans (Txt.slice_le _ _ _) (by omega))) (by rw [← e]; exact fz)
            · rintro i d ρ hd ⟨z, vs, rfl, hv⟩
              rw [List.getElem?_map] at hd
              cases q : ps[i]? with
              | none => rw [q] at hd; cases hd
              | some p =>
                rw [q] at hd
                cases hd
                have mp : p ∈ ps := List.mem_of_getElem? q
                have lvs : vs.length ≤ 3 := by
                  have := congrArg List.length hv
                  rw [List.length_map, List.length_map, List.length_take] at this
                  omega
                cases hn : RD.wrN p with
                | none =>
                  refine do_ifR (k := true) (et_isNN (Ev.to (ev_call G1 hr (ea_cons (ev_v 3) ea_nil) ⟨p, rfl, lp p mp, rfl⟩) (by rw [hn]; rfl)) ev_non) (fun _ => do_ret ev_non ?_) (fun z => by cases z)
                  exact (wnone p mp hn).symm
                | some v =>
                  refine do_ifF (et_isNI (Ev.to (ev_call G1 hr (ea_cons (ev_v 3) ea_nil) ⟨p, rfl, lp p mp, rfl⟩) (by rw [hn]; rfl)) ev_non) ?_
                  refine do_append 2 rfl (d := .int v) (Ev.to (ev_call G1 hr (ea_cons (ev_v 3) ea_nil) ⟨p, rfl, lp p mp, rfl⟩) (by rw [hn]; rfl)) (.int _) (by rw [List.length_map]; omega) (others_of rfl) (do_nil ⟨_, vs ++ [v], by rw [List.map_append]; rfl, ?_⟩)
                  rw [List.take_succ, List.map_append, hv, q, List.map_append]
                  simp [hn]
            · rintro ρ ⟨z, vs, rfl, hv⟩
              refine ⟨z, vs, rfl, ?_⟩
              rw [List.length_map, List.take_length] at hv
              exact hv
            · rintro ρ ⟨z, vs, rfl, hv⟩
              match ps, h3 with
              | [p1, p2, p3], _ =>
                have l3 : vs.length = 3 := by
                  have := congrArg List.length hv
                  simpa using this.symm
                match vs, hv, l3 with
                | [v1, v2, v3], hv, _ =>
                  have hv' := hv
                  simp only [List.map_cons, List.map_nil, List.cons.injEq, and_true] at hv'
                  obtain ⟨w1, w2, w3⟩ := hv'
                  refine do_ret (ev_tup (ea_cons (ev_ixl (d := .int v1) (ev_v 2) rfl ev_int (atI_nat (j := 0) rfl)) (ea_cons (ev_ixl (d := .int v2) (ev_v 2) rfl ev_int (atI_nat (j := 1) rfl)) (ea_cons (ev_ixl (d := .int v3) (ev_v 2) rfl ev_int (atI_nat (j := 2) rfl)) ea_nil)))) ?_
                  show formD v1 v2 v3 = oF (RD.wrt x)
                  unfold RD.wrt
                  rw [hin]
                  dsimp only
                  rw [hps]
                  dsimp only
                  rw [w1, w2, w3]
                  rfl
          · have ec2 : ¬ Txt.count (RD.tr x) (Str.ofString ",") = 2 := by rw [ec]; omega
            refine do_ifR (k := true) (et_w (ew_orF (Et.ff' (et_lt (ev_lenS T.len (ev_v 1) (by omega)) ev_int) (by omega)) (ew_orF (Et.ff (et_neS (ev_ixS (ev_v 1) ev_int (by omega) a0) ev_str) (by rw [RD.s_open])) (ew_orF (Et.ff (et_neS (ev_ixS (ev_v 1) (ev_neg ev_int) (by omega) a1) ev_str) (by rw [RD.s_shut])) (ew_or1 (Et.to (et_ne (ev_countS (ev_v 1) ev_str) ev_int) (by rw [decide_eq_false ec2]; rfl))))))) (fun _ => do_ret ev_non ?_) (fun z => by cases z)
            show D.non = oF (RD.wrt x)
            have : RD.wrt x = none := by
              unfold RD.wrt
              rw [hin]
              dsimp only
              split
              · rename_i hq; rw [hq] at h3; exact absurd rfl h3
              · rfl
            rw [this]
            rfl
        · refine do_ifR (k := true) (et_w (ew_orF (Et.ff' (et_lt (ev_lenS T.len (ev_v 1) (by omega)) ev_int) (by omega)) (ew_orF (Et.ff (et_neS (ev_ixS (ev_v 1) ev_int (by omega) a0) ev_str) (by rw [RD.s_open])) (ew_orT (Et.to (et_neS (ev_ixS (ev_v 1) (ev_neg ev_int) (by omega) a1) ev_str) (by rw [RD.s_shut, decide_eq_false fun z => h93 (one z)]; rfl)))))) (fun _ => do_ret ev_non ?_) (fun z => by cases z)
          exact (noW (noI fun z => h93 (Option.some.inj (hg.symm.trans z.2)))).symm
      · refine do_ifR (k := true) (et_w (ew_orF (Et.ff' (et_lt (ev_lenS T.len (ev_v 1) (by omega)) ev_int) (by omega)) (ew_orT (Et.to (et_neS (ev_ixS (ev_v 1) ev_int (by omega) a0) ev_str) (by rw [RD.s_open, decide_eq_false fun z => h91 (one z)]; rfl))))) (fun _ => do_ret ev_non ?_) (fun z => by cases z)
        exact (noW (noI fun z => h91 (Option.some.inj (hh.symm.trans z.1)))).symm
theorem ok_law_changed {f Cw Cf : Addr} {fd : FuncData} (T : Tx mg) (Q : Ex20 K mg Cw Cf) (G1 : Fn P w K mg base 1 "_law_cell_at" p_law_cell_at) (F : Fun K "_law_changed" "_law_changed" s_law_changed f fd) (hm : mg "_law_changed" = some (.ref f)) (hb : Binds K fd ["_law_text", "_law_script"] []) :
    FnR P w K mg base 2 "_law_changed" pre_changed post_changed := by
  refine fnr_mk F sc_law_changed hm hb (fun ds h => ?_) (fun cdv A outer s H E hr ds h => ?_)
  · obtain ⟨x, ns, rfl, _⟩ := h
    exact ⟨rfl, by simp⟩
  · obtain ⟨x, ns, rfl, hl, hc⟩ := h
    have nd := sc_law_changed.nd
    obtain ⟨a, ea⟩ : ∃ a : Int, a = cell ns 6 % ((x.length : Int) + 1) := ⟨_, rfl⟩
    have a0 : 0 ≤ a := by rw [ea]; exact Int.emod_nonneg _ (by omega)
    refine do_set 2 (d := .int a) (Ev.to (ev_mod (ev_call G1 hr (ea_cons (ev_v 1) (ea_cons ev_int ea_nil)) ⟨ns, 6, rfl, rfl⟩) (ev_add (ev_lenS T.len (ev_v 0) (by omega)) ev_int) (by omega)) (by rw [ea])) (.int _) ?_ nd
    have ls : ∀ n : Nat, n < 21 → ∃ c, (Str.ofString "0123456789 ,[]-+.a\t\n_").cps.toList[n]? = some c := by
      have e : (Str.ofString "0123456789 ,[]-+.a\t\n_").cps.toList.length = 21 := by decide +kernel
      exact fun n hn => ⟨_, List.getElem?_eq_getElem (by rw [e]; exact hn)⟩
    obtain ⟨k, ek, hk⟩ : ∃ k : Nat, cell ns 7 % 21 = (k : Int) ∧ k < 21 := ⟨(cell ns 7 % 21).toNat, by omega, by omega⟩
    obtain ⟨c, hc'⟩ := ls k hk
    have lz : (Str.ofString "0123456789 ,[]-+.a\t\n_").length ≤ 100000 := by decide +kernel
    refine do_set 3 (d := .str ⟨#[c]⟩) (ev_ixS ev_str (Ev.to (ev_mod (ev_call G1 hr (ea_cons (ev_v 1) (ea_cons ev_int ea_nil)) ⟨ns, 7, rfl, rfl⟩) ev_int (by decide)) (by rw [ek])) lz (atI_nat hc')) (.str _) ?_ nd
    have lc : (⟨#[c]⟩ : Str).length = 1 := rfl
    have line : (100000 : Nat) ≤ sizeLine := by rw [sizeLine_eq]; decide
    have cut : ∀ (u v : Option Int), (Txt.slice x u v).length ≤ 290 := fun u v => Nat.le_trans (Txt.slice_le _ _ _) hl
    refine do_ifR (et_eq (ev_mod (ev_call G1 hr (ea_cons (ev_v 1) (ea_cons ev_int ea_nil)) ⟨ns, 5, rfl, rfl⟩) ev_int (by decide)) ev_int) (fun _ => ?_) (fun _ => ?_)
    · obtain ⟨o1, l1⟩ := mul_few (n := a % 3) (by omega) (by omega)
      obtain ⟨o2, l2⟩ := mul_few (n := cell ns 7 % 3) (by omega) (by omega)
      obtain ⟨o3, l3⟩ := mul_few (n := a % 2) (by omega) (by omega)
      have lk : (Str.ofString ",").length = 1 := rfl
      have le : (Str.ofString "," ++ Txt.mul (Str.ofString " ") (cell ns 7 % 3)).length ≤ 3 := by rw [Str.length_append, lk]; omega
      have rl := replace_len (x := x) (z := Str.ofString "," ++ Txt.mul (Str.ofString " ") (cell ns 7 % 3)) hc
      rw [← RD.s_comma] at rl
      have rl' : (Txt.replace x (Str.ofString ",") (Str.ofString "," ++ Txt.mul (Str.ofString " ") (cell ns 7 % 3))).length ≤ 320 := by omega
      have hz : x.length + (x.length + 1) * (Str.ofString "," ++ Txt.mul (Str.ofString " ") (cell ns 7 % 3)).length ≤ 16777216 := by
        have : (x.length + 1) * (Str.ofString "," ++ Txt.mul (Str.ofString " ") (cell ns 7 % 3)).length ≤ 311 * 3 := Nat.mul_le_mul (by omega) le
        omega
      refine do_ret (ev_catS (ev_addP (evf_mul evf_str (ev_mod (ev_v 2) ev_int (by decide)) o1) (evp_replace Q.nb (ev_v 0) evf_str (evf_add evf_str (evf_mul evf_str (ev_mod (ev_call G1 hr (ea_cons (ev_v 1) (ea_cons ev_int ea_nil)) ⟨ns, 7, rfl, rfl⟩) ev_int (by decide)) o2) (by rw [lk]; omega)) hz) (by omega)) (ev_mulS ev_str (ev_mod (ev_v 2) ev_int (by decide)) o3) (by rw [Str.length_append]; omega)) ⟨_, rfl, ?_⟩
      rw [Str.length_append, Str.length_append]
      omega
    · refine do_ifR (et_eq (ev_mod (ev_call G1 hr (ea_cons (ev_v 1) (ea_cons ev_int ea_nil)) ⟨ns, 5, rfl, rfl⟩) ev_int (by decide)) ev_int) (fun _ => ?_) (fun _ => ?_)
      · have b1 := cut none (some a)
        have b2 := cut (some a) none
        refine do_ret (ev_catS (ev_catS (ev_sliceS (ev_v 0) eo_none (eo_some (ev_v 2)) (by omega)) (ev_v 3) (by rw [lc]; omega)) (ev_sliceS (ev_v 0) (eo_some (ev_v 2)) eo_none (by omega)) (by rw [Str.length_append, lc]; omega)) ⟨_, rfl, ?_⟩
        rw [Str.length_append, Str.length_append, lc]
        omega
      · have b1 := cut none (some a)
        have b2 := cut (some (a + 1)) none
        refine do_ifR (et_eq (ev_mod (ev_call G1 hr (ea_cons (ev_v 1) (ea_cons ev_int ea_nil)) ⟨ns, 5, rfl, rfl⟩) ev_int (by decide)) ev_int) (fun _ => ?_) (fun _ => ?_)
        · refine do_ret (ev_catS (ev_sliceS (ev_v 0) eo_none (eo_some (ev_v 2)) (by omega)) (ev_sliceS (ev_v 0) (eo_some (ev_add (ev_v 2) ev_int)) eo_none (by omega)) (by omega)) ⟨_, rfl, ?_⟩
          rw [Str.length_append]
          omega
        · refine do_ret (ev_catS (ev_catS (ev_sliceS (ev_v 0) eo_none (eo_some (ev_v 2)) (by omega)) (ev_v 3) (by rw [lc]; omega)) (ev_sliceS (ev_v 0) (eo_some (ev_add (ev_v 2) ev_int)) eo_none (by omega)) (by rw [Str.length_append, lc]; omega)) ⟨_, rfl, ?_⟩
          rw [Str.length_append, Str.length_append, lc]
          omega
theorem ok_law_refused {f Cw Cf : Addr} {fd : FuncData} (T : Tx mg) (Q : Ex20 K mg Cw Cf) (G1 : FnX P w K mg base 5 "read" p_read (x_read Cw Cf)) (F : Fun K "_law_refused" "_law_refused" s_law_refused f fd) (hm : mg "_law_refused" = some (.ref f)) (hb : Binds K fd ["_law_text", "_law_plain"] []) :
    Fn P w K mg base 6 "_law_refused" p_law_refused := by
  refine fn_mk F sc_law_refused hm hb (fun ds d h => ?_) (fun cdv A outer s H E hr ds d h => ?_)
  · obtain ⟨x, k, rfl, _⟩ := h
    exact ⟨rfl, by simp⟩
  · obtain ⟨x, k, rfl, hl, hk, rfl⟩ := h
    have nd := sc_law_refused.nd
    obtain ⟨CE, C1, C2, C3, C4, C5, m0, m1, m2, m3, m4, m5, all⟩ := Q.oth
    obtain ⟨C, hC, hx, kf, kw⟩ : ∃ C, (C = Cw ∨ C = Cf) ∧ x_read Cw Cf [.str x] C ∧ PySem.W.kitOne K (.ref C) (.ref Cf) = some k ∧ PySem.W.kitOne K (.ref C) (.ref Cw) = some (!k) := by
      rcases hk with ⟨h1, rfl⟩ | ⟨a, b, c, h1, h2, rfl⟩
      · exact ⟨Cw, .inl rfl, ⟨x, rfl, hl, .inl ⟨h1, rfl⟩⟩, Q.wf, Q.ww⟩
      · exact ⟨Cf, .inr rfl, ⟨x, rfl, hl, .inr ⟨a, b, c, h1, h2, rfl⟩⟩, Q.ff, Q.fw⟩
    obtain ⟨e1, e2, e3, e4⟩ := all C hC
    refine do_tryX (C := C) (M := fun _ => False) rfl rfl (fun i d hi => ?_) (fun H1 pins E1 ht => ?_) (hnd_as 2 m0 e1 (fun e => ?_) nd) (fun _ z => z.elim)
    · match i, hi with
      | 0, hi => cases hi; exact .str _
      | 1, hi => cases hi; exact .bl _
      | 2, hi => cases hi
    · exact do_exprX (rs_call G1 hr (ea_cons (ev_v 0) ea_nil) hx ht)
    · refine do_ifF (et_w (ew_orF (et_val (ev_isiET T.isi (ev_v 2) (ev_tup (ea_cons (ev_cls m1) (ea_cons (ev_cls m2) (ea_cons (ev_cls m3) (ea_cons (ev_cls m4) (ea_cons (ev_cls m5) ea_nil)))))) e4 e2)) (ew_or1 (et_notT (et_val (ev_isiEB T.isi (ev_v 2) Q.mv bo_ve e4 e3)))))) ?_
      refine do_ret (ev_andT (Ev.to (ev_eqb (ev_isiE T.isi (ev_v 2) Q.mf e4 kf) (ev_v 1)) (by simp)) (ev_one (Ev.to (ev_neb (ev_isiE T.isi (ev_v 2) Q.mw e4 kw) (ev_v 1)) (by cases k <;> rfl)))) rfl
theorem ok_law {f Cw Cf : Addr} {fd : FuncData} (T : Tx mg) (Gb : Fn P w K mg base 2 "_law_form_by" p_law_form_by) (Gw : Fn P w K mg base 5 "written" p_writtenL) (Gi : Fn P w K mg base 1 "_law_ints" p_law_ints) (Gr : FnX P w K mg base 5 "read" p_read (x_read Cw Cf)) (Gc : FnR P w K mg base 2 "_law_changed" pre_changed post_changed)
    (Gf : Fn P w K mg base 2 "_law_form_of" p_law_form_of) (Gx : Fn P w K mg base 6 "_law_refused" p_law_refused) (F : Fun K "law" "law" s_law f fd) : FnOk P w K mg base CX0 7 f fd ["_law_script"] (SpD K p_law) := by
  refine fn_ok F sc_law (fun ds d h => ?_) (fun cdv A outer s H E hr ds d h => ?_)
  · obtain ⟨ns, rfl, _, _, rfl⟩ := h
    exact ⟨rfl, by simp⟩
  · obtain ⟨ns, rfl, hlen, hs, rfl⟩ := h
    have nd := sc_law.nd
    have hr1 := hr.mono (show 1 ≤ 6 by decide)
    have hr2 := hr.mono (show 2 ≤ 6 by decide)
    have hr5 := hr.mono (show 5 ≤ 6 by decide)
    obtain ⟨a, b, c, ea, eb, ec⟩ : ∃ a b c, a = dA ns 0 ∧ b = dB ns 0 ∧ c = dC ns 0 := ⟨_, _, _, rfl, rfl, rfl⟩
    have ba : Bd a 134 := by rw [ea]; exact dA_bd ns 0
    have bb : Bd b 133 := by rw [eb]; exact dB_bd ns 0
    have bc : Bd c 268 := by rw [ec]; exact dC_bd ns 0
    have pa : 0 < a := by rw [ea]; exact dA_pos ns 0
    have pb : b * b - 4 * a * c < 0 := by rw [ea, eb, ec]; exact d_bar ns 0
    have na := bd90 ba (by decide)
    have nb := bd90 bb (by decide)
    have nc := bd90 bc (by decide)
    have up : (10 : Nat) ^ 90 < 10 ^ 100 := Nat.pow_lt_pow_right (by decide) (by decide)
    have fl : FormL a b c := ⟨⟨pa, pb, ba.up _ (by decide), bb.up _ (by decide), bc.up _ (by decide)⟩, Nat.lt_trans na up, Nat.lt_trans nb up, Nat.lt_trans nc up⟩
    have ll : (formS a b c).length ≤ 290 := formS_lenK na nb nc
    have la := sI_lenK na
    have lb := sI_lenK nb
    have lc := sI_lenK nc
    have l1 : (Str.ofString "[").length = 1 := rfl
    have l2 : (Str.ofString ", ").length = 2 := rfl
    have l3 : (Str.ofString "]").length = 1 := rfl
    have lg : ∀ {i : Int}, i.natAbs < 10 ^ 90 → i.natAbs.log2 < 1920 := fun h => logL (Nat.lt_trans h up)
    have line : (100000 : Nat) ≤ sizeLine := by rw [sizeLine_eq]; decide
    refine do_set 1 (d := formD a b c) (Ev.to (ev_call Gb hr2 (ea_cons (ev_v 0) (ea_cons ev_int ea_nil)) ⟨ns, 0, rfl, hs, rfl⟩) (by rw [ea, eb, ec])) (fz3 a b c) ?_ nd
    refine do_set 2 (d := .str (formS a b c)) (ev_call Gw hr5 (ea_cons (ev_v 1) ea_nil) ⟨a, b, c, rfl, fl, rfl⟩) (.str _) ?_ nd
    have wf : RD.wrt (formS a b c) = some (a, b, c) := RD.wrt_form a b c
    have rdT : ∀ {x : Str} {u v t : Int}, x.length ≤ 600 → RD.wrt x = some (u, v, t) → FormQ u v t → p_read [.str x] (formD u v t) := fun hx hw hq => ⟨_, _, _, _, rfl, hx, hw, hq, rfl⟩
    refine do_ifF (et_w (ew_orF (et_notT (et_val (ev_isi T.isi (ev_v 2) T.str bo_str rfl kit_s))) (ew_or1 (Et.ff (et_neS (ev_v 2) (ev_catS (ev_catS (ev_catS (ev_catS (ev_catS (ev_catS ev_str (ev_strI T.str (ev_ix (d := .int a) (ev_v 1) ev_int rfl) (lg na)) ?z1) ev_str ?z2) (ev_strI T.str (ev_ix (d := .int b) (ev_v 1) ev_int rfl) (lg nb)) ?z3) ev_str ?z4) (ev_strI T.str (ev_ix (d := .int c) (ev_v 1) ev_int rfl) (lg nc)) ?z5) ev_str ?z6)) rfl)))) ?_
    case z1 => rw [l1]; omega
    case z2 => simp only [Str.length_append, l1, l2]; omega
    case z3 => simp only [Str.length_append, l1, l2]; omega
    case z4 => simp only [Str.length_append, l1, l2]; omega
    case z5 => simp only [Str.length_append, l1, l2]; omega
    case z6 => simp only [Str.length_append, l1, l2, l3]; omega
    refine do_ifF (et_w (ew_orF (et_notT (et_val (ev_call Gi hr1 (ea_cons (ev_callX Gr hr5 (ea_cons (ev_v 2) ea_nil) (rdT (by omega) wf ⟨pa, pb⟩)) (ea_cons ev_int ea_nil)) ⟨[a, b, c], rfl, rfl⟩)))
      (ew_or1 (Et.to (et_neT (n := 0) hr (ev_callX Gr hr5 (ea_cons (ev_v 2) ea_nil) (rdT (by omega) wf ⟨pa, pb⟩)) (ev_v 1) (Cm.ints [a, b, c] [a, b, c])) (congrArg not (eqb_iff.mpr rfl)))))) ?_
    refine do_setR 3 (evr_call Gc hr2 (ea_cons (ev_v 2) (ea_cons (ev_v 0) ea_nil)) ⟨_, ns, rfl, ll, cnt_form a b c⟩) (fun d ⟨y, e, _⟩ => e ▸ .str _) (fun d ⟨y, e, ly⟩ => ?_) nd
    subst e
    refine do_set 4 (d := oF (RD.wrt y)) (ev_call Gf hr2 (ea_cons (ev_v 3) ea_nil) ⟨y, rfl, ly, rfl⟩) ?fz ?_ nd
    case fz =>
      cases RD.wrt y with
      | none => exact .non
      | some t => obtain ⟨u, v, t⟩ := t; exact fz3 u v t
    cases hw : RD.wrt y with
    | none =>
      exact do_ifR (k := true) (et_isNN (ev_v 4) ev_non) (fun _ => do_ret (ev_call Gx hr (ea_cons (ev_v 3) (ea_cons ev_bl ea_nil)) ⟨y, false, rfl, ly, .inl ⟨hw, rfl⟩, rfl⟩) rfl) (fun z => by cases z)
    | some t =>
      obtain ⟨u, v, t⟩ := t
      obtain ⟨bu, bv, bt⟩ := wrt_bd hw ly
      refine do_ifF (et_isNT (ev_v 4) ev_non) ?_
      have b1 : Bd (4 * u) 2210 := Bd.mul (Bd.lit (m := 3)) bu _ (by decide)
      refine do_ifR (k := !decide (FormQ u v t)) ?et (fun hk => ?_) (fun hk => ?_)
      case et =>
        by_cases hu : u ≤ 0
        · rw [decide_eq_false (fun z : FormQ u v t => by have := z.1; omega)]
          exact et_w (ew_orT (Et.tt (et_le (ev_ix (d := .int u) (ev_v 4) ev_int rfl) ev_int) hu))
        · refine et_w (ew_orF (Et.ff' (et_le (ev_ix (d := .int u) (ev_v 4) ev_int rfl) ev_int) hu) (ew_or1 (Et.to (et_ge (ev_mul (ev_ix (d := .int v) (ev_v 4) ev_int rfl) (ev_ix (d := .int v) (ev_v 4) ev_int rfl) bv bv) (ev_mul (ev_mul ev_int (ev_ix (d := .int u) (ev_v 4) ev_int rfl) (Bd.lit (m := 3)) bu) (ev_ix (d := .int t) (ev_v 4) ev_int rfl) b1 bt)) ?_)))
          by_cases hb : v * v - 4 * u * t < 0
          · rw [decide_eq_true (show FormQ u v t from ⟨by omega, hb⟩), decide_eq_false (by omega)]
            rfl
          · rw [decide_eq_false (fun z : FormQ u v t => hb z.2), decide_eq_true (by omega)]
            rfl
      · have hf : ¬ FormQ u v t := by simpa using hk
        exact do_ret (ev_call Gx hr (ea_cons (ev_v 3) (ea_cons ev_bl ea_nil)) ⟨y, true, rfl, ly, .inr ⟨u, v, t, hw, hf, rfl⟩, rfl⟩) rfl
      · have hf : FormQ u v t := by simpa using hk
        exact do_ret (ev_andT (ev_call Gi hr1 (ea_cons (ev_callX Gr hr5 (ea_cons (ev_v 3) ea_nil) (rdT ly hw hf)) (ea_cons ev_int ea_nil)) ⟨[u, v, t], rfl, rfl⟩) (ev_one (Ev.to (ev_eqT (n := 0) hr (ev_callX Gr hr5 (ea_cons (ev_v 3) ea_nil) (rdT ly hw hf)) (ev_v 4) (Cm.ints [u, v, t] [u, v, t])) (congrArg D.bl (eqb_iff.mpr rfl))))) rfl
end
theorem all_mk {l : PySem.W.OpenLaw} {w : World} {K : PySem.W.Frag} {h : Heap} {mg : Str → Option Value} {fa f0 f1 f2 f3 f4 f5 f6 f7 f8 f9 f10 f11 f12 f13 f14 f15 f16 f17 f18 f19 f20 : Addr} (X : K.In h) (G : h.Ns mainGlobals mg) (hfa : mg "law" = some (.ref fa))
    {od0 an0 od1 an1 od2 an2 od3 an3 od4 an4 od5 an5 od6 an6 od7 an7 od8 an8 od9 an9 od10 an10 od11 an11 od12 an12 od13 an13 od14 an14 od15 an15 od16 an16 od17 an17 od18 an18 od19 an19 od20 an20 : Option Addr} {sl0 sl1 sl2 sl3 sl4 sl5 sl6 sl7 sl8 sl9 sl10 sl11 sl12 sl13 sl14 sl15 sl16 sl17 sl18 sl19 sl20 : Array (Option Value)} {oc0 kV0 dc0 pm0 cd0 ct0 oc1 kV1 dc1 pm1 cd1 ct1 oc2 kV2 dc2 pm2 cd2 ct2 oc3 kV3 dc3 pm3 cd3 ct3 oc4 kV4 dc4 pm4 cd4 ct4 oc5 kV5 dc5 pm5 cd5 ct5 oc6 kV6 dc6 pm6 cd6 ct6 oc7 kV7 dc7 pm7 cd7 ct7 oc8 kV8 dc8 pm8 cd8 ct8 oc9 kV9 dc9 pm9 cd9 ct9 oc10 kV10 dc10 pm10 cd10 ct10 oc11 kV11 dc11 pm11 cd11 ct11 oc12 kV12 dc12 pm12 cd12 ct12 oc13 kV13 dc13 pm13 cd13 ct13 oc14 kV14 dc14 pm14 cd14 ct14 oc15 kV15 dc15 pm15 cd15 ct15 oc16 kV16 dc16 pm16 cd16 ct16 oc17 kV17 dc17 pm17 cd17 ct17 oc18 kV18 dc18 pm18 cd18 ct18 oc19 kV19 dc19 pm19 cd19 ct19 oc20 kV20 dc20 pm20 cd20 ct20 : Value}
    (a0 : PySem.W.nsIn K mainGlobals "is_whole" = some (some (.ref f0))) (l0 : K.lookup f0 = some ⟨oc0, od0, .func (PySem.W.fnOf "is_whole" "is_whole" (defArgs s_is_whole) (defBody s_is_whole) (defScope s_is_whole) .none kV0 dc0 pm0 an0 cd0 ct0), sl0⟩) (c0 : PySem.W.codeIn K cd0 "is_whole" = true) (k0 : PySem.W.keepIn K (.ref f0) = true)
    (a1 : PySem.W.nsIn K mainGlobals "is_whole_tuple" = some (some (.ref f1))) (l1 : K.lookup f1 = some ⟨oc1, od1, .func (PySem.W.fnOf "is_whole_tuple" "is_whole_tuple" (defArgs s_is_whole_tuple) (defBody s_is_whole_tuple) (defScope s_is_whole_tuple) .none kV1 dc1 pm1 an1 cd1 ct1), sl1⟩) (c1 : PySem.W.codeIn K cd1 "is_whole_tuple" = true) (k1 : PySem.W.keepIn K (.ref f1) = true)
    (a2 : PySem.W.nsIn K mainGlobals "bar_of_numbers" = some (some (.ref f2))) (l2 : K.lookup f2 = some ⟨oc2, od2, .func (PySem.W.fnOf "bar_of_numbers" "bar_of_numbers" (defArgs s_bar_of_numbers) (defBody s_bar_of_numbers) (defScope s_bar_of_numbers) .none kV2 dc2 pm2 an2 cd2 ct2), sl2⟩) (c2 : PySem.W.codeIn K cd2 "bar_of_numbers" = true) (k2 : PySem.W.keepIn K (.ref f2) = true)
    (a3 : PySem.W.nsIn K mainGlobals "is_form" = some (some (.ref f3))) (l3 : K.lookup f3 = some ⟨oc3, od3, .func (PySem.W.fnOf "is_form" "is_form" (defArgs s_is_form) (defBody s_is_form) (defScope s_is_form) .none kV3 dc3 pm3 an3 cd3 ct3), sl3⟩) (c3 : PySem.W.codeIn K cd3 "is_form" = true) (k3 : PySem.W.keepIn K (.ref f3) = true)
    (a4 : PySem.W.nsIn K mainGlobals "require_form" = some (some (.ref f4))) (l4 : K.lookup f4 = some ⟨oc4, od4, .func (PySem.W.fnOf "require_form" "require_form" (defArgs s_require_form) (defBody s_require_form) (defScope s_require_form) .none kV4 dc4 pm4 an4 cd4 ct4), sl4⟩) (c4 : PySem.W.codeIn K cd4 "require_form" = true) (k4 : PySem.W.keepIn K (.ref f4) = true)
    (a5 : PySem.W.nsIn K mainGlobals "number_written" = some (some (.ref f5))) (l5 : K.lookup f5 = some ⟨oc5, od5, .func (PySem.W.fnOf "number_written" "number_written" (defArgs s_number_written) (defBody s_number_written) (defScope s_number_written) .none kV5 dc5 pm5 an5 cd5 ct5), sl5⟩) (c5 : PySem.W.codeIn K cd5 "number_written" = true) (k5 : PySem.W.keepIn K (.ref f5) = true)
    (a6 : PySem.W.nsIn K mainGlobals "number_of_figures" = some (some (.ref f6))) (l6 : K.lookup f6 = some ⟨oc6, od6, .func (PySem.W.fnOf "number_of_figures" "number_of_figures" (defArgs s_number_of_figures) (defBody s_number_of_figures) (defScope s_number_of_figures) .none kV6 dc6 pm6 an6 cd6 ct6), sl6⟩) (c6 : PySem.W.codeIn K cd6 "number_of_figures" = true) (k6 : PySem.W.keepIn K (.ref f6) = true)
    (a7 : PySem.W.nsIn K mainGlobals "are_figures" = some (some (.ref f7))) (l7 : K.lookup f7 = some ⟨oc7, od7, .func (PySem.W.fnOf "are_figures" "are_figures" (defArgs s_are_figures) (defBody s_are_figures) (defScope s_are_figures) .none kV7 dc7 pm7 an7 cd7 ct7), sl7⟩) (c7 : PySem.W.codeIn K cd7 "are_figures" = true) (k7 : PySem.W.keepIn K (.ref f7) = true)
    (a8 : PySem.W.nsIn K mainGlobals "number_read" = some (some (.ref f8))) (l8 : K.lookup f8 = some ⟨oc8, od8, .func (PySem.W.fnOf "number_read" "number_read" (defArgs s_number_read) (defBody s_number_read) (defScope s_number_read) .none kV8 dc8 pm8 an8 cd8 ct8), sl8⟩) (c8 : PySem.W.codeIn K cd8 "number_read" = true) (k8 : PySem.W.keepIn K (.ref f8) = true)
    (a9 : PySem.W.nsIn K mainGlobals "within_brackets" = some (some (.ref f9))) (l9 : K.lookup f9 = some ⟨oc9, od9, .func (PySem.W.fnOf "within_brackets" "within_brackets" (defArgs s_within_brackets) (defBody s_within_brackets) (defScope s_within_brackets) .none kV9 dc9 pm9 an9 cd9 ct9), sl9⟩) (c9 : PySem.W.codeIn K cd9 "within_brackets" = true) (k9 : PySem.W.keepIn K (.ref f9) = true)
    (a10 : PySem.W.nsIn K mainGlobals "written" = some (some (.ref f10))) (l10 : K.lookup f10 = some ⟨oc10, od10, .func (PySem.W.fnOf "written" "written" (defArgs s_written) (defBody s_written) (defScope s_written) .none kV10 dc10 pm10 an10 cd10 ct10), sl10⟩) (c10 : PySem.W.codeIn K cd10 "written" = true) (k10 : PySem.W.keepIn K (.ref f10) = true)
    (a11 : PySem.W.nsIn K mainGlobals "read" = some (some (.ref f11))) (l11 : K.lookup f11 = some ⟨oc11, od11, .func (PySem.W.fnOf "read" "read" (defArgs s_read) (defBody s_read) (defScope s_read) .none kV11 dc11 pm11 an11 cd11 ct11), sl11⟩) (c11 : PySem.W.codeIn K cd11 "read" = true) (k11 : PySem.W.keepIn K (.ref f11) = true)
    (a12 : PySem.W.nsIn K mainGlobals "_law_ints" = some (some (.ref f12))) (l12 : K.lookup f12 = some ⟨oc12, od12, .func (PySem.W.fnOf "_law_ints" "_law_ints" (defArgs s_law_ints) (defBody s_law_ints) (defScope s_law_ints) .none kV12 dc12 pm12 an12 cd12 ct12), sl12⟩) (c12 : PySem.W.codeIn K cd12 "_law_ints" = true) (k12 : PySem.W.keepIn K (.ref f12) = true)
    (a13 : PySem.W.nsIn K mainGlobals "_law_cell_at" = some (some (.ref f13))) (l13 : K.lookup f13 = some ⟨oc13, od13, .func (PySem.W.fnOf "_law_cell_at" "_law_cell_at" (defArgs s_law_cell_at) (defBody s_law_cell_at) (defScope s_law_cell_at) .none kV13 dc13 pm13 an13 cd13 ct13), sl13⟩) (c13 : PySem.W.codeIn K cd13 "_law_cell_at" = true) (k13 : PySem.W.keepIn K (.ref f13) = true)
    (a14 : PySem.W.nsIn K mainGlobals "_law_great" = some (some (.ref f14))) (l14 : K.lookup f14 = some ⟨oc14, od14, .func (PySem.W.fnOf "_law_great" "_law_great" (defArgs s_law_great) (defBody s_law_great) (defScope s_law_great) .none kV14 dc14 pm14 an14 cd14 ct14), sl14⟩) (c14 : PySem.W.codeIn K cd14 "_law_great" = true) (k14 : PySem.W.keepIn K (.ref f14) = true)
    (a15 : PySem.W.nsIn K mainGlobals "_law_form_by" = some (some (.ref f15))) (l15 : K.lookup f15 = some ⟨oc15, od15, .func (PySem.W.fnOf "_law_form_by" "_law_form_by" (defArgs s_law_form_by) (defBody s_law_form_by) (defScope s_law_form_by) .none kV15 dc15 pm15 an15 cd15 ct15), sl15⟩) (c15 : PySem.W.codeIn K cd15 "_law_form_by" = true) (k15 : PySem.W.keepIn K (.ref f15) = true)
    (a16 : PySem.W.nsIn K mainGlobals "_law_number_of" = some (some (.ref f16))) (l16 : K.lookup f16 = some ⟨oc16, od16, .func (PySem.W.fnOf "_law_number_of" "_law_number_of" (defArgs s_law_number_of) (defBody s_law_number_of) (defScope s_law_number_of) .none kV16 dc16 pm16 an16 cd16 ct16), sl16⟩) (c16 : PySem.W.codeIn K cd16 "_law_number_of" = true) (k16 : PySem.W.keepIn K (.ref f16) = true)
    (a17 : PySem.W.nsIn K mainGlobals "_law_form_of" = some (some (.ref f17))) (l17 : K.lookup f17 = some ⟨oc17, od17, .func (PySem.W.fnOf "_law_form_of" "_law_form_of" (defArgs s_law_form_of) (defBody s_law_form_of) (defScope s_law_form_of) .none kV17 dc17 pm17 an17 cd17 ct17), sl17⟩) (c17 : PySem.W.codeIn K cd17 "_law_form_of" = true) (k17 : PySem.W.keepIn K (.ref f17) = true)
    (a18 : PySem.W.nsIn K mainGlobals "_law_changed" = some (some (.ref f18))) (l18 : K.lookup f18 = some ⟨oc18, od18, .func (PySem.W.fnOf "_law_changed" "_law_changed" (defArgs s_law_changed) (defBody s_law_changed) (defScope s_law_changed) .none kV18 dc18 pm18 an18 cd18 ct18), sl18⟩) (c18 : PySem.W.codeIn K cd18 "_law_changed" = true) (k18 : PySem.W.keepIn K (.ref f18) = true)
    (a19 : PySem.W.nsIn K mainGlobals "_law_refused" = some (some (.ref f19))) (l19 : K.lookup f19 = some ⟨oc19, od19, .func (PySem.W.fnOf "_law_refused" "_law_refused" (defArgs s_law_refused) (defBody s_law_refused) (defScope s_law_refused) .none kV19 dc19 pm19 an19 cd19 ct19), sl19⟩) (c19 : PySem.W.codeIn K cd19 "_law_refused" = true) (k19 : PySem.W.keepIn K (.ref f19) = true)
    (a20 : PySem.W.nsIn K mainGlobals "law" = some (some (.ref f20))) (l20 : K.lookup f20 = some ⟨oc20, od20, .func (PySem.W.fnOf "law" "law" (defArgs s_law) (defBody s_law) (defScope s_law) .none kV20 dc20 pm20 an20 cd20 ct20), sl20⟩) (c20 : PySem.W.codeIn K cd20 "law" = true) (k20 : PySem.W.keepIn K (.ref f20) = true)
    {E0 E1 E2 E3 E4 E5 E6 E7 : Addr}
    (xg0 : PySem.W.nsIn K mainGlobals "FormError" = some (some (.ref E0))) (xa0 : PySem.W.findIn K (.ref E0) "__getattribute__" = some (some (.builtin "BaseException.__getattribute__"))) (xb0 : PySem.W.findIn K (.ref E0) "__getattr__" = some none) (xc0 : PySem.W.findIn K (.ref E0) "__class__" = some (some (.builtin "object.__class__"))) (xo0 : PySem.W.mroIn K E0 (.type "object") = some true) (xe0 : PySem.W.mroIn K E0 (.type "BaseException") = some true) (xt0 : PySem.W.typeIn K (.ref E0) = some (.type "type")) (xs0 : PySem.W.mroIn K E0 (.ref E0) = some true) (xv0 : PySem.W.mroIn K E0 (.type "ValueError") = some true)
    (xg1 : PySem.W.nsIn K mainGlobals "NotAForm" = some (some (.ref E1))) (xa1 : PySem.W.findIn K (.ref E1) "__getattribute__" = some (some (.builtin "BaseException.__getattribute__"))) (xb1 : PySem.W.findIn K (.ref E1) "__getattr__" = some none) (xc1 : PySem.W.findIn K (.ref E1) "__class__" = some (some (.builtin "object.__class__"))) (xo1 : PySem.W.mroIn K E1 (.type "object") = some true) (xe1 : PySem.W.mroIn K E1 (.type "BaseException") = some true) (xt1 : PySem.W.typeIn K (.ref E1) = some (.type "type")) (xs1 : PySem.W.mroIn K E1 (.ref E1) = some true) (xv1 : PySem.W.mroIn K E1 (.type "ValueError") = some true)
    (xg2 : PySem.W.nsIn K mainGlobals "NotATurning" = some (some (.ref E2))) (xa2 : PySem.W.findIn K (.ref E2) "__getattribute__" = some (some (.builtin "BaseException.__getattribute__"))) (xb2 : PySem.W.findIn K (.ref E2) "__getattr__" = some none) (xc2 : PySem.W.findIn K (.ref E2) "__class__" = some (some (.builtin "object.__class__"))) (xo2 : PySem.W.mroIn K E2 (.type "object") = some true) (xe2 : PySem.W.mroIn K E2 (.type "BaseException") = some true) (xt2 : PySem.W.typeIn K (.ref E2) = some (.type "type")) (xs2 : PySem.W.mroIn K E2 (.ref E2) = some true) (xv2 : PySem.W.mroIn K E2 (.type "ValueError") = some true)
    (xg3 : PySem.W.nsIn K mainGlobals "NoBar" = some (some (.ref E3))) (xa3 : PySem.W.findIn K (.ref E3) "__getattribute__" = some (some (.builtin "BaseException.__getattribute__"))) (xb3 : PySem.W.findIn K (.ref E3) "__getattr__" = some none) (xc3 : PySem.W.findIn K (.ref E3) "__class__" = some (some (.builtin "object.__class__"))) (xo3 : PySem.W.mroIn K E3 (.type "object") = some true) (xe3 : PySem.W.mroIn K E3 (.type "BaseException") = some true) (xt3 : PySem.W.typeIn K (.ref E3) = some (.type "type")) (xs3 : PySem.W.mroIn K E3 (.ref E3) = some true) (xv3 : PySem.W.mroIn K E3 (.type "ValueError") = some true)
    (xg4 : PySem.W.nsIn K mainGlobals "OtherBar" = some (some (.ref E4))) (xa4 : PySem.W.findIn K (.ref E4) "__getattribute__" = some (some (.builtin "BaseException.__getattribute__"))) (xb4 : PySem.W.findIn K (.ref E4) "__getattr__" = some none) (xc4 : PySem.W.findIn K (.ref E4) "__class__" = some (some (.builtin "object.__class__"))) (xo4 : PySem.W.mroIn K E4 (.type "object") = some true) (xe4 : PySem.W.mroIn K E4 (.type "BaseException") = some true) (xt4 : PySem.W.typeIn K (.ref E4) = some (.type "type")) (xs4 : PySem.W.mroIn K E4 (.ref E4) = some true) (xv4 : PySem.W.mroIn K E4 (.type "ValueError") = some true)
    (xg5 : PySem.W.nsIn K mainGlobals "NotBare" = some (some (.ref E5))) (xa5 : PySem.W.findIn K (.ref E5) "__getattribute__" = some (some (.builtin "BaseException.__getattribute__"))) (xb5 : PySem.W.findIn K (.ref E5) "__getattr__" = some none) (xc5 : PySem.W.findIn K (.ref E5) "__class__" = some (some (.builtin "object.__class__"))) (xo5 : PySem.W.mroIn K E5 (.type "object") = some true) (xe5 : PySem.W.mroIn K E5 (.type "BaseException") = some true) (xt5 : PySem.W.typeIn K (.ref E5) = some (.type "type")) (xs5 : PySem.W.mroIn K E5 (.ref E5) = some true) (xv5 : PySem.W.mroIn K E5 (.type "ValueError") = some true)
    (xg6 : PySem.W.nsIn K mainGlobals "OutOfBounds" = some (some (.ref E6))) (xa6 : PySem.W.findIn K (.ref E6) "__getattribute__" = some (some (.builtin "BaseException.__getattribute__"))) (xb6 : PySem.W.findIn K (.ref E6) "__getattr__" = some none) (xc6 : PySem.W.findIn K (.ref E6) "__class__" = some (some (.builtin "object.__class__"))) (xo6 : PySem.W.mroIn K E6 (.type "object") = some true) (xe6 : PySem.W.mroIn K E6 (.type "BaseException") = some true) (xt6 : PySem.W.typeIn K (.ref E6) = some (.type "type")) (xs6 : PySem.W.mroIn K E6 (.ref E6) = some true) (xv6 : PySem.W.mroIn K E6 (.type "ValueError") = some true)
    (xg7 : PySem.W.nsIn K mainGlobals "NotWritten" = some (some (.ref E7))) (xa7 : PySem.W.findIn K (.ref E7) "__getattribute__" = some (some (.builtin "BaseException.__getattribute__"))) (xb7 : PySem.W.findIn K (.ref E7) "__getattr__" = some none) (xc7 : PySem.W.findIn K (.ref E7) "__class__" = some (some (.builtin "object.__class__"))) (xo7 : PySem.W.mroIn K E7 (.type "object") = some true) (xe7 : PySem.W.mroIn K E7 (.type "BaseException") = some true) (xt7 : PySem.W.typeIn K (.ref E7) = some (.type "type")) (xs7 : PySem.W.mroIn K E7 (.ref E7) = some true) (xv7 : PySem.W.mroIn K E7 (.type "ValueError") = some true)
    (xd : PySem.W.specialIn K (.builtin "object.__class__") "__get__" = some (some (.builtin "getset_descriptor.__get__"))) (xf : PySem.W.takesIn K (.builtin "object.__class__") = some true) (xn : PySem.W.nsIn K cStatics sharingNotToldKey = some none) (xm : PySem.W.nsIn K mainGlobals "ValueError" = some none)
    (xq7 : PySem.W.excIn K E7 [Value.type "ValueError", Value.type "Exception", Value.type "BaseException", Value.type "object"] "ValueError.__new__" = true)
    (xr70 : PySem.W.mroIn K E7 (.ref E0) = some true)
    (xr71 : PySem.W.mroIn K E7 (.ref E1) = some false)
    (xr72 : PySem.W.mroIn K E7 (.ref E2) = some false)
    (xr73 : PySem.W.mroIn K E7 (.ref E3) = some false)
    (xr74 : PySem.W.mroIn K E7 (.ref E4) = some false)
    (xr75 : PySem.W.mroIn K E7 (.ref E5) = some false)
    (xr76 : PySem.W.mroIn K E7 (.ref E6) = some false)
    (xq1 : PySem.W.excIn K E1 [Value.type "ValueError", Value.type "Exception", Value.type "BaseException", Value.type "object"] "ValueError.__new__" = true)
    (xr10 : PySem.W.mroIn K E1 (.ref E0) = some true)
    (xr12 : PySem.W.mroIn K E1 (.ref E2) = some false)
    (xr13 : PySem.W.mroIn K E1 (.ref E3) = some false)
    (xr14 : PySem.W.mroIn K E1 (.ref E4) = some false)
    (xr15 : PySem.W.mroIn K E1 (.ref E5) = some false)
    (xr16 : PySem.W.mroIn K E1 (.ref E6) = some false)
    (xr17 : PySem.W.mroIn K E1 (.ref E7) = some false)
    {tPIECE : Tok} (caPIECE : PySem.W.nsIn K mainGlobals "PIECE" = some (some (.int (64 : Int) tPIECE)))
    {tFIGURES : Tok} (caFIGURES : PySem.W.nsIn K mainGlobals "FIGURES" = some (some (.str "0123456789" tFIGURES)))
    (z0 : PySem.W.nsIn K mainGlobals "abs" = some none) (z1 : PySem.W.nsIn K mainGlobals "all" = some none) (z2 : PySem.W.nsIn K mainGlobals "any" = some none) (z3 : PySem.W.nsIn K mainGlobals "bool" = some none) (z4 : PySem.W.nsIn K mainGlobals "dict" = some none) (z5 : PySem.W.nsIn K mainGlobals "enumerate" = some none) (z6 : PySem.W.nsIn K mainGlobals "int" = some none) (z7 : PySem.W.nsIn K mainGlobals "isinstance" = some none) (z8 : PySem.W.nsIn K mainGlobals "len" = some none) (z9 : PySem.W.nsIn K mainGlobals "list" = some none) (z10 : PySem.W.nsIn K mainGlobals "max" = some none) (z11 : PySem.W.nsIn K mainGlobals "min" = some none) (z12 : PySem.W.nsIn K mainGlobals "range" = some none) (z13 : PySem.W.nsIn K mainGlobals "reversed" = some none) (z14 : PySem.W.nsIn K mainGlobals "set" = some none) (z15 : PySem.W.nsIn K mainGlobals "sorted" = some none) (z16 : PySem.W.nsIn K mainGlobals "str" = some none) (z17 : PySem.W.nsIn K mainGlobals "sum" = some none) (z18 : PySem.W.nsIn K mainGlobals "tuple" = some none) (z19 : PySem.W.nsIn K mainGlobals "zip" = some none) :
    ∃ fd : FuncData, (∀ (s : Shared) (v : Value), BindsTo s fd ⟨[v], []⟩ [("_law_script", v)]) ∧ ∀ base : Heap, K.In base → base.Ns mainGlobals mg → FnOk l.prog w K mg base CX0 7 fa fd ["_law_script"] (SpD K p_law) := by
  have e := hfa.symm.trans (PySem.W.mg_of X G a20)
  cases e
  have T : Tx mg := ⟨PySem.W.mg_none_of X G z0, PySem.W.mg_none_of X G z1, PySem.W.mg_none_of X G z2, PySem.W.mg_none_of X G z3, PySem.W.mg_none_of X G z4, PySem.W.mg_none_of X G z5, PySem.W.mg_none_of X G z6, PySem.W.mg_none_of X G z7, PySem.W.mg_none_of X G z8, PySem.W.mg_none_of X G z9, PySem.W.mg_none_of X G z10, PySem.W.mg_none_of X G z11, PySem.W.mg_none_of X G z12, PySem.W.mg_none_of X G z13, PySem.W.mg_none_of X G z14, PySem.W.mg_none_of X G z15, PySem.W.mg_none_of X G z16, PySem.W.mg_none_of X G z17, PySem.W.mg_none_of X G z18, PySem.W.mg_none_of X G z19⟩
  have F0 := fun_mk (st := s_is_whole) l0 c0 k0
  have b0 := F0.binds (ps := ["value"]) fun _ _ _ _ _ _ us hl => match us, hl with | [_], _ => rfl
  have m0 := PySem.W.mg_of X G a0
  have F1 := fun_mk (st := s_is_whole_tuple) l1 c1 k1
  have b1 := F1.binds (ps := ["value", "length"]) fun _ _ _ _ _ _ us hl => match us, hl with | [_, _], _ => rfl
  have m1 := PySem.W.mg_of X G a1
  have F2 := fun_mk (st := s_bar_of_numbers) l2 c2 k2
  have b2 := F2.binds (ps := ["a", "b", "c"]) fun _ _ _ _ _ _ us hl => match us, hl with | [_, _, _], _ => rfl
  have m2 := PySem.W.mg_of X G a2
  have F3 := fun_mk (st := s_is_form) l3 c3 k3
  have b3 := F3.binds (ps := ["value"]) fun _ _ _ _ _ _ us hl => match us, hl with | [_], _ => rfl
  have m3 := PySem.W.mg_of X G a3
  have F4 := fun_mk (st := s_require_form) l4 c4 k4
  have b4 := F4.binds (ps := ["value"]) fun _ _ _ _ _ _ us hl => match us, hl with | [_], _ => rfl
  have m4 := PySem.W.mg_of X G a4
  have F5 := fun_mk (st := s_number_written) l5 c5 k5
  have b5 := F5.binds (ps := ["number"]) fun _ _ _ _ _ _ us hl => match us, hl with | [_], _ => rfl
  have m5 := PySem.W.mg_of X G a5
  have F6 := fun_mk (st := s_number_of_figures) l6 c6 k6
  have b6 := F6.binds (ps := ["figures"]) fun _ _ _ _ _ _ us hl => match us, hl with | [_], _ => rfl
  have m6 := PySem.W.mg_of X G a6
  have F7 := fun_mk (st := s_are_figures) l7 c7 k7
  have b7 := F7.binds (ps := ["text"]) fun _ _ _ _ _ _ us hl => match us, hl with | [_], _ => rfl
  have m7 := PySem.W.mg_of X G a7
  have F8 := fun_mk (st := s_number_read) l8 c8 k8
  have b8 := F8.binds (ps := ["text"]) fun _ _ _ _ _ _ us hl => match us, hl with | [_], _ => rfl
  have m8 := PySem.W.mg_of X G a8
  have F9 := fun_mk (st := s_within_brackets) l9 c9 k9
  have b9 := F9.binds (ps := ["text"]) fun _ _ _ _ _ _ us hl => match us, hl with | [_], _ => rfl
  have m9 := PySem.W.mg_of X G a9
  have F10 := fun_mk (st := s_written) l10 c10 k10
  have b10 := F10.binds (ps := ["form"]) fun _ _ _ _ _ _ us hl => match us, hl with | [_], _ => rfl
  have m10 := PySem.W.mg_of X G a10
  have F11 := fun_mk (st := s_read) l11 c11 k11
  have b11 := F11.binds (ps := ["text"]) fun _ _ _ _ _ _ us hl => match us, hl with | [_], _ => rfl
  have m11 := PySem.W.mg_of X G a11
  have F12 := fun_mk (st := s_law_ints) l12 c12 k12
  have b12 := F12.binds (ps := ["_law_found", "_law_size"]) fun _ _ _ _ _ _ us hl => match us, hl with | [_, _], _ => rfl
  have m12 := PySem.W.mg_of X G a12
  have F13 := fun_mk (st := s_law_cell_at) l13 c13 k13
  have b13 := F13.binds (ps := ["_law_script", "_law_k"]) fun _ _ _ _ _ _ us hl => match us, hl with | [_, _], _ => rfl
  have m13 := PySem.W.mg_of X G a13
  have F14 := fun_mk (st := s_law_great) l14 c14 k14
  have b14 := F14.binds (ps := ["_law_cell", "_law_other"]) fun _ _ _ _ _ _ us hl => match us, hl with | [_, _], _ => rfl
  have m14 := PySem.W.mg_of X G a14
  have F15 := fun_mk (st := s_law_form_by) l15 c15 k15
  have b15 := F15.binds (ps := ["_law_script", "_law_k"]) fun _ _ _ _ _ _ us hl => match us, hl with | [_, _], _ => rfl
  have m15 := PySem.W.mg_of X G a15
  have F16 := fun_mk (st := s_law_number_of) l16 c16 k16
  have b16 := F16.binds (ps := ["_law_text"]) fun _ _ _ _ _ _ us hl => match us, hl with | [_], _ => rfl
  have m16 := PySem.W.mg_of X G a16
  have F17 := fun_mk (st := s_law_form_of) l17 c17 k17
  have b17 := F17.binds (ps := ["_law_text"]) fun _ _ _ _ _ _ us hl => match us, hl with | [_], _ => rfl
  have m17 := PySem.W.mg_of X G a17
  have F18 := fun_mk (st := s_law_changed) l18 c18 k18
  have b18 := F18.binds (ps := ["_law_text", "_law_script"]) fun _ _ _ _ _ _ us hl => match us, hl with | [_, _], _ => rfl
  have m18 := PySem.W.mg_of X G a18
  have F19 := fun_mk (st := s_law_refused) l19 c19 k19
  have b19 := F19.binds (ps := ["_law_text", "_law_plain"]) fun _ _ _ _ _ _ us hl => match us, hl with | [_, _], _ => rfl
  have m19 := PySem.W.mg_of X G a19
  have F20 := fun_mk (st := s_law) l20 c20 k20
  have b20 := F20.binds (ps := ["_law_script"]) fun _ _ _ _ _ _ us hl => match us, hl with | [_], _ => rfl
  have m20 := PySem.W.mg_of X G a20
  refine ⟨PySem.W.fnOf "law" "law" (defArgs s_law) (defBody s_law) (defScope s_law) .none kV20 dc20 pm20 an20 cd20 ct20, fun s v => .of_eq rfl, fun base _ _ => ?_⟩
  have C_PIECE : Con K mg "PIECE" (.int (64 : Int)) := con_int (PySem.W.mg_of X G caPIECE)
  have C_FIGURES : Con K mg "FIGURES" (.str "0123456789") := con_str (PySem.W.mg_of X G caFIGURES)
  have ec0 : EcF K E0 := ⟨⟨xa0, xb0, xc0, xd, xf, xo0, xe0⟩, xt0, xs0, xv0⟩
  have ec1 : EcF K E1 := ⟨⟨xa1, xb1, xc1, xd, xf, xo1, xe1⟩, xt1, xs1, xv1⟩
  have ec2 : EcF K E2 := ⟨⟨xa2, xb2, xc2, xd, xf, xo2, xe2⟩, xt2, xs2, xv2⟩
  have ec3 : EcF K E3 := ⟨⟨xa3, xb3, xc3, xd, xf, xo3, xe3⟩, xt3, xs3, xv3⟩
  have ec4 : EcF K E4 := ⟨⟨xa4, xb4, xc4, xd, xf, xo4, xe4⟩, xt4, xs4, xv4⟩
  have ec5 : EcF K E5 := ⟨⟨xa5, xb5, xc5, xd, xf, xo5, xe5⟩, xt5, xs5, xv5⟩
  have ec6 : EcF K E6 := ⟨⟨xa6, xb6, xc6, xd, xf, xo6, xe6⟩, xt6, xs6, xv6⟩
  have ec7 : EcF K E7 := ⟨⟨xa7, xb7, xc7, xd, xf, xo7, xe7⟩, xt7, xs7, xv7⟩
  have Q : Ex20 K mg E7 E1 := ex20_mk xq7 xq1 (PySem.W.mg_of X G xg7) (PySem.W.mg_of X G xg1) (PySem.W.mg_none_of X G xm) xn (PySem.W.mg_of X G xg0) (PySem.W.mg_of X G xg3) (PySem.W.mg_of X G xg2) (PySem.W.mg_of X G xg5) (PySem.W.mg_of X G xg4) (PySem.W.mg_of X G xg6) ec7 ec1 ec0 ec3 ec2 ec5 ec4 ec6 xr70 xr10 xr71 xr17 xr73 xr72 xr75 xr74 xr76 xr13 xr12 xr15 xr14 xr16
  have G_is_whole := ok_is_whole (P := l.prog) (w := w) (base := base) T F0 m0 b0
  have G_is_whole_tuple := ok_is_whole_tuple (P := l.prog) (w := w) (base := base) T G_is_whole F1 m1 b1
  have G_bar_of_numbers := ok_bar_of_numbers (P := l.prog) (w := w) (base := base)  F2 m2 b2
  have G_is_form := ok_is_form (P := l.prog) (w := w) (base := base) G_is_whole_tuple G_bar_of_numbers F3 m3 b3
  have G_require_form := ok_require_form (P := l.prog) (w := w) (base := base) G_is_form Q F4 m4 b4
  have G_number_written := ok_number_written (P := l.prog) (w := w) (base := base) T C_PIECE F5 m5 b5
  have G_number_of_figures := ok_number_of_figures (P := l.prog) (w := w) (base := base) T C_PIECE F6 m6 b6
  have G_are_figures := ok_are_figures (P := l.prog) (w := w) (base := base) T C_FIGURES F7 m7 b7
  have G_number_read := ok_number_read (P := l.prog) (w := w) (base := base) Q G_are_figures G_number_of_figures F8 m8 b8
  have G_within_brackets := ok_within_brackets (P := l.prog) (w := w) (base := base) T Q F9 m9 b9
  have G_written := ok_written (P := l.prog) (w := w) (base := base) G_require_form G_number_written F10 m10 b10
  have G_read := ok_read (P := l.prog) (w := w) (base := base) T Q G_within_brackets G_number_read G_require_form F11 m11 b11
  have G_law_ints := ok_law_ints (P := l.prog) (w := w) (base := base) T F12 m12 b12
  have G_law_cell_at := ok_law_cell_at (P := l.prog) (w := w) (base := base) T F13 m13 b13
  have G_law_great := ok_law_great (P := l.prog) (w := w) (base := base)  F14 m14 b14
  have G_law_form_by := ok_law_form_by (P := l.prog) (w := w) (base := base) G_law_cell_at G_law_great F15 m15 b15
  have G_law_number_of := ok_law_number_of (P := l.prog) (w := w) (base := base) T F16 m16 b16
  have G_law_form_of := ok_law_form_of (P := l.prog) (w := w) (base := base) T G_law_number_of F17 m17 b17
  have G_law_changed := ok_law_changed (P := l.prog) (w := w) (base := base) T Q G_law_cell_at F18 m18 b18
  have G_law_refused := ok_law_refused (P := l.prog) (w := w) (base := base) T Q G_read F19 m19 b19
  exact ok_law T G_law_form_by G_written G_law_ints G_read G_law_changed G_law_form_of G_law_refused F20
end K20
open PySem PySem.W PyProof.Rows
set_option maxRecDepth 100000 in
set_option maxHeartbeats 0 in
theorem PySem.Challenge.cw_formturn_k20_written_holds : PySem.Challenge.rw_formturn_k20_written.Holds := by
  w_on; o_law; k_head; (case hw => w_witness2)
  k_fill
  refine FL.walk_ofB (l := PySem.Challenge.rw_formturn_k20_written) (n := 63) (k := 7) (x := "_law_script") (Pf := CM.p_law) rfl (by decide) rfl ⟨rfl, by decide, by decide⟩ (fun w h Y => PySem.W.kIn_of Y) ?F ?S
  case F =>
    intro w mg fa h KX G hmg
    refine' K20.all_mk KX G hmg ?a0 ?l0 ?c0 ?k0 ?a1 ?l1 ?c1 ?k1 ?a2 ?l2 ?c2 ?k2 ?a3 ?l3 ?c3 ?k3 ?a4 ?l4 ?c4 ?k4 ?a5 ?l5 ?c5 ?k5 ?a6 ?l6 ?c6 ?k6 ?a7 ?l7 ?c7 ?k7 ?a8 ?l8 ?c8 ?k8 ?a9 ?l9 ?c9 ?k9 ?a10 ?l10 ?c10 ?k10 ?a11 ?l11 ?c11 ?k11 ?a12 ?l12 ?c12 ?k12 ?a13 ?l13 ?c13 ?k13 ?a14 ?l14 ?c14 ?k14 ?a15 ?l15 ?c15 ?k15 ?a16 ?l16 ?c16 ?k16 ?a17 ?l17 ?c17 ?k17 ?a18 ?l18 ?c18 ?k18 ?a19 ?l19 ?c19 ?k19 ?a20 ?l20 ?c20 ?k20 ?xg0 ?xa0 ?xb0 ?xc0 ?xo0 ?xe0 ?xt0 ?xs0 ?xv0 ?xg1 ?xa1 ?xb1 ?xc1 ?xo1 ?xe1 ?xt1 ?xs1 ?xv1 ?xg2 ?xa2 ?xb2 ?xc2 ?xo2 ?xe2 ?xt2 ?xs2 ?xv2 ?xg3 ?xa3 ?xb3 ?xc3 ?xo3 ?xe3 ?xt3 ?xs3 ?xv3 ?xg4 ?xa4 ?xb4 ?xc4 ?xo4 ?xe4 ?xt4 ?xs4 ?xv4 ?xg5 ?xa5 ?xb5 ?xc5 ?xo5 ?xe5 ?xt5 ?xs5 ?xv5 ?xg6 ?xa6 ?xb6 ?xc6 ?xo6 ?xe6 ?xt6 ?xs6 ?xv6 ?xg7 ?xa7 ?xb7 ?xc7 ?xo7 ?xe7 ?xt7 ?xs7 ?xv7 ?xd ?xf ?xn ?xm ?xq7 ?xr70 ?xr71 ?xr72 ?xr73 ?xr74 ?xr75 ?xr76 ?xq1 ?xr10 ?xr12 ?xr13 ?xr14 ?xr15 ?xr16 ?xr17 ?caPIECE ?caFIGURES ?z0 ?z1 ?z2 ?z3 ?z4 ?z5 ?z6 ?z7 ?z8 ?z9 ?z10 ?z11 ?z12 ?z13 ?z14 ?z15 ?z16 ?z17 ?z18 ?z19
    (case a0 => k_is)
    (case l0 => k_is)
    (case c0 => k_is)
    (case k0 => k_is)
    (case a1 => k_is)
    (case l1 => k_is)
    (case c1 => k_is)
    (case k1 => k_is)
    (case a2 => k_is)
    (case l2 => k_is)
    (case c2 => k_is)
    (case k2 => k_is)
    (case a3 => k_is)
    (case l3 => k_is)
    (case c3 => k_is)
    (case k3 => k_is)
    (case a4 => k_is)
    (case l4 => k_is)
    (case c4 => k_is)
    (case k4 => k_is)
    (case a5 => k_is)
    (case l5 => k_is)
    (case c5 => k_is)
    (case k5 => k_is)
    (case a6 => k_is)
    (case l6 => k_is)
    (case c6 => k_is)
    (case k6 => k_is)
    (case a7 => k_is)
    (case l7 => k_is)
    (case c7 => k_is)
    (case k7 => k_is)
    (case a8 => k_is)
    (case l8 => k_is)
    (case c8 => k_is)
    (case k8 => k_is)
    (case a9 => k_is)
    (case l9 => k_is)
    (case c9 => k_is)
    (case k9 => k_is)
    (case a10 => k_is)
    (case l10 => k_is)
    (case c10 => k_is)
    (case k10 => k_is)
    (case a11 => k_is)
    (case l11 => k_is)
    (case c11 => k_is)
    (case k11 => k_is)
    (case a12 => k_is)
    (case l12 => k_is)
    (case c12 => k_is)
    (case k12 => k_is)
    (case a13 => k_is)
    (case l13 => k_is)
    (case c13 => k_is)
    (case k13 => k_is)
    (case a14 => k_is)
    (case l14 => k_is)
    (case c14 => k_is)
    (case k14 => k_is)
    (case a15 => k_is)
    (case l15 => k_is)
    (case c15 => k_is)
    (case k15 => k_is)
    (case a16 => k_is)
    (case l16 => k_is)
    (case c16 => k_is)
    (case k16 => k_is)
    (case a17 => k_is)
    (case l17 => k_is)
    (case c17 => k_is)
    (case k17 => k_is)
    (case a18 => k_is)
    (case l18 => k_is)
    (case c18 => k_is)
    (case k18 => k_is)
    (case a19 => k_is)
    (case l19 => k_is)
    (case c19 => k_is)
    (case k19 => k_is)
    (case a20 => k_is)
    (case l20 => k_is)
    (case c20 => k_is)
    (case k20 => k_is)
    (case xg0 => k_is)
    (case xa0 => k_is)
    (case xb0 => k_is)
    (case xc0 => k_is)
    (case xo0 => k_is)
    (case xe0 => k_is)
    (case xt0 => k_is)
    (case xs0 => k_is)
    (case xv0 => k_is)
    (case xg1 => k_is)
    (case xa1 => k_is)
    (case xb1 => k_is)
    (case xc1 => k_is)
    (case xo1 => k_is)
    (case xe1 => k_is)
    (case xt1 => k_is)
    (case xs1 => k_is)
    (case xv1 => k_is)
    (case xg2 => k_is)
    (case xa2 => k_is)
    (case xb2 => k_is)
    (case xc2 => k_is)
    (case xo2 => k_is)
    (case xe2 => k_is)
    (case xt2 => k_is)
    (case xs2 => k_is)
    (case xv2 => k_is)
    (case xg3 => k_is)
    (case xa3 => k_is)
    (case xb3 => k_is)
    (case xc3 => k_is)
    (case xo3 => k_is)
    (case xe3 => k_is)
    (case xt3 => k_is)
    (case xs3 => k_is)
    (case xv3 => k_is)
    (case xg4 => k_is)
    (case xa4 => k_is)
    (case xb4 => k_is)
    (case xc4 => k_is)
    (case xo4 => k_is)
    (case xe4 => k_is)
    (case xt4 => k_is)
    (case xs4 => k_is)
    (case xv4 => k_is)
    (case xg5 => k_is)
    (case xa5 => k_is)
    (case xb5 => k_is)
    (case xc5 => k_is)
    (case xo5 => k_is)
    (case xe5 => k_is)
    (case xt5 => k_is)
    (case xs5 => k_is)
    (case xv5 => k_is)
    (case xg6 => k_is)
    (case xa6 => k_is)
    (case xb6 => k_is)
    (case xc6 => k_is)
    (case xo6 => k_is)
    (case xe6 => k_is)
    (case xt6 => k_is)
    (case xs6 => k_is)
    (case xv6 => k_is)
    (case xg7 => k_is)
    (case xa7 => k_is)
    (case xb7 => k_is)
    (case xc7 => k_is)
    (case xo7 => k_is)
    (case xe7 => k_is)
    (case xt7 => k_is)
    (case xs7 => k_is)
    (case xv7 => k_is)
    (case xd => k_is)
    (case xf => k_is)
    (case xn => k_is)
    (case xm => k_is)
    (case xq7 => k_exc)
    (case xr70 => k_is)
    (case xr71 => k_is)
    (case xr72 => k_is)
    (case xr73 => k_is)
    (case xr74 => k_is)
    (case xr75 => k_is)
    (case xr76 => k_is)
    (case xq1 => k_exc)
    (case xr10 => k_is)
    (case xr12 => k_is)
    (case xr13 => k_is)
    (case xr14 => k_is)
    (case xr15 => k_is)
    (case xr16 => k_is)
    (case xr17 => k_is)
    (case caPIECE => k_is)
    (case caFIGURES => k_is)
    (case z0 => k_is)
    (case z1 => k_is)
    (case z2 => k_is)
    (case z3 => k_is)
    (case z4 => k_is)
    (case z5 => k_is)
    (case z6 => k_is)
    (case z7 => k_is)
    (case z8 => k_is)
    (case z9 => k_is)
    (case z10 => k_is)
    (case z11 => k_is)
    (case z12 => k_is)
    (case z13 => k_is)
    (case z14 => k_is)
    (case z15 => k_is)
    (case z16 => k_is)
    (case z17 => k_is)
    (case z18 => k_is)
    (case z19 => k_is)
  case S => exact CM.law_sp
#print axioms PySem.Challenge.cw_formturn_k20_written_holds
