import PyProof.Rows.All
import Wide.All
import OpenK.AllK
import Wide.FinOn
import Lean
import PyProof.EqAt
import PyProof.EqKinds
import PyProof.TupleCall
import PySem.Challenge.RW_formturn_k24_questions
set_option Elab.async false
set_option linter.all false
set_option maxRecDepth 100000
def PySem.W.Fast.tw8761560360274643679 : Unit := ()
def PySem.W.Fast.tw15094239449384329170 : Unit := ()
def PySem.W.Fast.tw4903124125824439809 : Unit := ()
def PySem.W.Fast.tw11412539603048256097 : Unit := ()
def PySem.W.Fast.tw5363666113679258774 : Unit := ()
def PySem.W.Fast.tw5486797292981538907 : Unit := ()
def PySem.W.Fast.tw4620372717648924296 : Unit := ()
def PySem.W.Fast.tw4797798685991928292 : Unit := ()
def PySem.W.Fast.tw13938282786577975679 : Unit := ()
def PySem.W.Fast.tw17503469421125929914 : Unit := ()
def PySem.W.Fast.tw9724879290094085835 : Unit := ()
def PySem.W.Fast.tw16706312618872775072 : Unit := ()
def PySem.W.Fast.tw11483241711124843550 : Unit := ()
def PySem.W.Fast.tw11205605841499858533 : Unit := ()
def PySem.W.Fast.tw12903823808344533115 : Unit := ()
def PySem.W.Fast.tw2610756540673746209 : Unit := ()
def PySem.W.Fast.tw14423425661692641889 : Unit := ()
def PySem.W.Fast.tw10279976401139989919 : Unit := ()
def PySem.W.Fast.tw2143663243481788475 : Unit := ()
def PySem.W.Fast.tw14035089615559415457 : Unit := ()
def PySem.W.Fast.tw8430434873684895238 : Unit := ()
def PySem.W.Fast.tw17481725110359752946 : Unit := ()
def PySem.W.Fast.tw4078752675172670870 : Unit := ()
def PySem.W.Fast.tw7246009198920897664 : Unit := ()
def PySem.W.Fast.tw5036090261641026858 : Unit := ()
def PySem.W.Fast.tw15096443919379439917 : Unit := ()
def PySem.W.Fast.tw4022967885114214381 : Unit := ()
def PySem.W.Fast.tw9695194537413364467 : Unit := ()
def PySem.W.Fast.tw14890777922501101223 : Unit := ()
def PySem.W.Fast.tw3904950308869294887 : Unit := ()
def PySem.W.Fast.tw1264510438711308982 : Unit := ()
def PySem.W.Fast.tw4598609435408076635 : Unit := ()
def PySem.W.Fast.tw1515814740972801976 : Unit := ()
def PySem.W.Fast.tw16689441021410345674 : Unit := ()
def PySem.W.Fast.tw18144591094021486331 : Unit := ()
def PySem.W.Fast.tw9969659010315139270 : Unit := ()
def PySem.W.Fast.tw15068635013275315096 : Unit := ()
def PySem.W.Fast.tw446060289706763685 : Unit := ()
def PySem.W.Fast.tw15234300618887283752 : Unit := ()
def PySem.W.Fast.tw17341544484928123724 : Unit := ()
def PySem.W.Fast.tw3205990523221023511 : Unit := ()
def PySem.W.Fast.tw12264606931428922225 : Unit := ()
def PySem.W.Fast.tw7139239276992414433 : Unit := ()
def PySem.W.Fast.tw2580317212551433106 : Unit := ()
def PySem.W.Fast.tw8363035930215759286 : Unit := ()
def PySem.W.Fast.tw4653651639801618824 : Unit := ()
def PySem.W.Fast.tw5373118443578186862 : Unit := ()
def PySem.W.Fast.tw18426579085237472897 : Unit := ()
def PySem.W.Fast.tw8886832639651501601 : Unit := ()
def PySem.W.Fast.tw1508499960045448401 : Unit := ()
def PySem.W.Fast.tw2975779420741321134 : Unit := ()
def PySem.W.Fast.tw3883635482521341543 : Unit := ()
def PySem.W.Fast.tw10470445916970170391 : Unit := ()
def PySem.W.Fast.tw17686448090627713723 : Unit := ()
def PySem.W.Fast.tw260565526192055401 : Unit := ()
def PySem.W.Fast.tw5006616284638835772 : Unit := ()
def PySem.W.Fast.tw5902317360047139074 : Unit := ()
def PySem.W.Fast.tw1218323534849588671 : Unit := ()
def PySem.W.Fast.tw16214400810251254026 : Unit := ()
def PySem.W.Fast.tw18112273047538536655 : Unit := ()
def PySem.W.Fast.tw6667010044242325950 : Unit := ()
def PySem.W.Fast.tw17865423390359575867 : Unit := ()
def PySem.W.Fast.tw16761500394740016546 : Unit := ()
def PySem.W.Fast.tw9702659012844224914 : Unit := ()
def PySem.W.Fast.tw8791046355151461485 : Unit := ()
def PySem.W.Fast.tw1118564170331807285 : Unit := ()
def PySem.W.Fast.tw16084328908921917330 : Unit := ()
def PySem.W.Fast.tw16340954384564215735 : Unit := ()
def PySem.W.Fast.tw12754848493935766351 : Unit := ()
def PySem.W.Fast.tw17683718416178735858 : Unit := ()
def PySem.W.Fast.tw5858311094092769729 : Unit := ()
def PySem.W.Fast.tw16902062614834382094 : Unit := ()
def PySem.W.Fast.tw14075339393779675816 : Unit := ()
def PySem.W.Fast.tw7999470191648142909 : Unit := ()
def PySem.W.Fast.tw13096795421771429730 : Unit := ()
def PySem.W.Fast.tw6883025063254507190 : Unit := ()
def PySem.W.Fast.tw16345580054341842606 : Unit := ()
def PySem.W.Fast.tw9598276404229214546 : Unit := ()
def PySem.W.Fast.tw6141893385109765720 : Unit := ()
def PySem.W.Fast.tw14051818096957455634 : Unit := ()
def PySem.W.Fast.tw669797957928763635 : Unit := ()
def PySem.W.Fast.tw2835514342793258517 : Unit := ()
def PySem.W.Fast.tw5197790632244400923 : Unit := ()
def PySem.W.Fast.tw1307785352853561659 : Unit := ()
def PySem.W.Fast.tw5460585487758888500 : Unit := ()
def PySem.W.Fast.tw17798526583153928726 : Unit := ()
def PySem.W.Fast.tw2932876587220943064 : Unit := ()
def PySem.W.Fast.tw1809953015189151346 : Unit := ()
def PySem.W.Fast.tw14990909204248000656 : Unit := ()
def PySem.W.Fast.tw6810564255328660627 : Unit := ()
def PySem.W.Fast.tw13584535179977654696 : Unit := ()
def PySem.W.Fast.tw2168158076609010439 : Unit := ()
def PySem.W.Fast.tw16814174373174723838 : Unit := ()
def PySem.W.Fast.tw9095485730434720005 : Unit := ()
def PySem.W.Fast.tw13185761913411434279 : Unit := ()
def PySem.W.Fast.tw167914130106349673 : Unit := ()
def PySem.W.Fast.tw13306289595887535032 : Unit := ()
def PySem.W.Fast.tw7371104758941708420 : Unit := ()
def PySem.W.Fast.tw9449921139823964379 : Unit := ()
def PySem.W.Fast.tw11689955478858344165 : Unit := ()
def PySem.W.Fast.tw16406709558620068125 : Unit := ()
def PySem.W.Fast.tw14593560100149432536 : Unit := ()
def PySem.W.Fast.tw17342426467505195070 : Unit := ()
def PySem.W.Fast.tw4066062098247173908 : Unit := ()
def PySem.W.Fast.tw632205737699754819 : Unit := ()
def PySem.W.Fast.tw971029382362692787 : Unit := ()
def PySem.W.Fast.tw12547658148226029210 : Unit := ()
def PySem.W.Fast.tw368363291134387222 : Unit := ()
def PySem.W.Fast.tw12136571421988089996 : Unit := ()
def PySem.W.Fast.tw9781005307861379224 : Unit := ()
def PySem.W.Fast.tw504721308712966715 : Unit := ()
def PySem.W.Fast.tw9332835527188048195 : Unit := ()
def PySem.W.Fast.tw15892541851439118287 : Unit := ()
def PySem.W.Fast.tw8949506815379682047 : Unit := ()
def PySem.W.Fast.tw12107202833214507043 : Unit := ()
def PySem.W.Fast.tw9503578186010829570 : Unit := ()
def PySem.W.Fast.tw2035388287745183294 : Unit := ()
def PySem.W.Fast.tw16254548172486602513 : Unit := ()
def PySem.W.Fast.tw2306210955701779744 : Unit := ()
def PySem.W.Fast.tw10345351409418821596 : Unit := ()
def PySem.W.Fast.tw14286304099094147153 : Unit := ()
def PySem.W.Fast.tw5810783805016271726 : Unit := ()
def PySem.W.Fast.tw8198413440277271476 : Unit := ()
def PySem.W.Fast.tw9331579703107196743 : Unit := ()
def PySem.W.Fast.tw6207272455597137004 : Unit := ()
def PySem.W.Fast.tw7661844561287855564 : Unit := ()
namespace L2
open PySem PySem.Spec PyProof.Rows
abbrev Key := Sum Int Str
def keyIs : Key → Value → Bool
  | .inl k, v => Value.isInt k v
  | .inr x, v => Value.isStrOf x v
def keyH (w : World) : Key → Int
  | .inl k => hashInt k
  | .inr x => hashStr w x
theorem keyIs_shape : ∀ {k : Key} {v : Value}, keyIs k v = true → (∃ i t, k = Sum.inl i ∧ v = Value.int i t) ∨ (∃ x t, k = Sum.inr x ∧ v = Value.str x t)
  | .inl i, v, h => by
    obtain ⟨t, e⟩ := Value.isInt_shape (k := i) (v := v) h
    exact .inl ⟨i, t, rfl, e⟩
  | .inr x, v, h => by
    obtain ⟨t, e⟩ := Value.isStrOf_shape (x := x) (v := v) h
    exact .inr ⟨x, t, rfl, e⟩
theorem key_ll (a b : Int) : decide ((Sum.inl a : Key) = Sum.inl b) = (a == b) := by
  by_cases e : a = b
  · subst e; simp
  · have h : ¬ (Sum.inl a : Key) = Sum.inl b := fun q => e (Sum.inl.inj q)
    rw [decide_eq_false h]
    exact (beq_eq_false_iff_ne.mpr e).symm
theorem key_rr (a b : Str) : decide ((Sum.inr a : Key) = Sum.inr b) = decide (a = b) := by
  by_cases e : a = b
  · subst e; simp
  · have h : ¬ (Sum.inr a : Key) = Sum.inr b := fun q => e (Sum.inr.inj q)
    rw [decide_eq_false h, decide_eq_false e]
theorem key_lr (a : Int) (b : Str) : decide ((Sum.inl a : Key) = Sum.inr b) = false := decide_eq_false (fun q => nomatch q)
theorem key_rl (a : Str) (b : Int) : decide ((Sum.inr a : Key) = Sum.inl b) = false := decide_eq_false (fun q => nomatch q)
def mixKind (prog : Program) (w : World) : PySem.KeyKind prog w Key where
  is := keyIs
  hash := keyH w
  inj := fun v a b ha hb => by
    rcases keyIs_shape ha with ⟨i, t, rfl, rfl⟩ | ⟨x, t, rfl, rfl⟩
    · rcases keyIs_shape hb with ⟨j, u, rfl, e⟩ | ⟨y, u, rfl, e⟩
      · injection e with e1 _; rw [e1]
      · exact nomatch e
    · rcases keyIs_shape hb with ⟨j, u, rfl, e⟩ | ⟨y, u, rfl, e⟩
      · exact nomatch e
      · injection e with e1 _; rw [e1]
  byValue := fun k v h => by
    rcases keyIs_shape h with ⟨i, t, rfl, rfl⟩ | ⟨x, t, rfl, rfl⟩ <;> rfl
  pyHash := fun hv h => by
    rcases keyIs_shape hv with ⟨i, t, rfl, rfl⟩ | ⟨x, t, rfl, rfl⟩
    · exact wpAny_pyHash_int h
    · exact wpAny_pyHash_str h
  eqBool := fun hu hv h => by
    rcases keyIs_shape hu with ⟨i, t, rfl, rfl⟩ | ⟨x, t, rfl, rfl⟩
    · rcases keyIs_shape hv with ⟨j, u, rfl, rfl⟩ | ⟨y, u, rfl, rfl⟩
      · rw [key_ll] at h; exact wpAny_eqBool_int h
      · rw [key_lr] at h; exact SeqAt.EqAt.int_str i t y u _ _ _ _ h
    · rcases keyIs_shape hv with ⟨j, u, rfl, rfl⟩ | ⟨y, u, rfl, rfl⟩
      · rw [key_rl] at h; exact SeqAt.EqAt.str_int x t j u _ _ _ _ h
      · rw [key_rr] at h; exact wpAny_eqBool_str h
  «strs» := fun k x t v h => by
    rcases keyIs_shape h with ⟨i, u, rfl, e⟩ | ⟨y, u, rfl, e⟩
    · exact nomatch e
    · injection e with e1 _
      subst e1
      cases v <;> rfl
end L2
namespace L2
open PySem PySem.Spec PyProof.Rows
inductive V where
  | non | bl (b : Bool) | int (i : Int) | str (x : Str) | byt (b : Array UInt8) | flt (b : UInt64) | ref (a : Addr) | ty (n : String)
  deriving DecidableEq
def RelV : V → Value → Prop
  | .non, u => u = Value.none
  | .bl b, u => u = Value.bool b
  | .int i, u => ∃ t, u = Value.int i t
  | .str x, u => ∃ t, u = Value.str x t
  | .byt b, u => ∃ t, u = Value.bytes b t
  | .flt b, u => ∃ t, u = Value.float b t
  | .ref a, u => u = Value.ref a
  | .ty n, u => u = Value.type n
abbrev Vals : List V → List Value → Prop := Paired RelV
theorem Vals.length {xs : List V} {us : List Value} (r : Vals xs us) : xs.length = us.length := Paired.length r
theorem Vals.get : ∀ {xs : List V} {us : List Value} {i : Nat} {x : V}, Vals xs us → xs[i]? = some x → ∃ u, us[i]? = some u ∧ RelV x u
  | _, _, _, _, .nil, e => by simp at e
  | _, _, 0, _, .cons r _, e => by simp at e; subst e; exact ⟨_, rfl, r⟩
  | _, _, i + 1, x, .cons _ t, e => by
    obtain ⟨u, h1, h2⟩ := Vals.get (i := i) (x := x) t (by simpa using e)
    exact ⟨u, by simpa using h1, h2⟩
theorem Vals.append : ∀ {xs ys : List V} {us ws : List Value}, Vals xs us → Vals ys ws → Vals (xs ++ ys) (us ++ ws)
  | _, _, _, _, .nil, s => s
  | _, _, _, _, .cons r t, s => .cons r (Vals.append t s)
theorem Vals.take : ∀ {xs : List V} {us : List Value} (n : Nat), Vals xs us → Vals (xs.take n) (us.take n)
  | _, _, 0, _ => .nil
  | _, _, _ + 1, .nil => .nil
  | _, _, n + 1, .cons r t => .cons r (Vals.take n t)
theorem Vals.drop : ∀ {xs : List V} {us : List Value} (n : Nat), Vals xs us → Vals (xs.drop n) (us.drop n)
  | _, _, 0, r => r
  | _, _, _ + 1, .nil => .nil
  | _, _, n + 1, .cons _ t => Vals.drop n t
def RelO : Option V → Option Value → Prop
  | some v, some u => RelV v u
  | none, none => True
  | _, _ => False
def KV {κ : Type} : List (κ × V) → List (κ × Value) → Prop := Paired fun (p : κ × V) (q : κ × Value) => p.1 = q.1 ∧ RelV p.2 q.2
def kV : Key → V
  | .inl i => .int i
  | .inr x => .str x
inductive HO where
  /-- a list -/
  | lst (xs : List V)
  /-- a tuple (never changes) -/
  | tup (xs : List V)
  /-- a dict whose keys are ints and texts; one whose keys are tuples of ints and texts (the empty one is both) -/
  | dK (kvs : List (Key × V)) | dT (kvs : List (List Key × V))
  /-- a set of ints: its members, its size -/
  | set (S : Int → Bool) (n : Nat)
  /-- an instance of the class at C, its dict at dx, its attributes -/
  | ins (C dx : Addr) (fs : List (Str × V))
  /-- the dict of the instance at x -/
  | own (x : Addr)
  /-- the dict of an exception -/
  | xd (fs : List (Str × V))
  /-- a bound method, f of x -/
  | met (f x : Addr)
  /-- a range object lo, lo + 1, .. below hi -/
  | rng (lo hi : Int)
  /-- a thing that is known to the object (the script; a dict while a loop walks it): read, never written while it is so -/
  | frz (o : Obj) (u : HO)
  /-- a code object's table -/
  | tbl (ps : Array Value)
  /-- any other thing, by what is true of its one object (a def of one's own: SetO a S n := HO.ext fun h => ..) -/
  | ext (φ : Heap → Prop)
abbrev Hp := Addr → Option HO
def upd (H : Hp) (a : Addr) (o : HO) : Hp := fun b => if b = a then some o else H b
theorem upd_same {H : Hp} {a : Addr} {o : HO} : upd H a o a = some o := by unfold upd; rw [if_pos rfl]
theorem upd_ne {H : Hp} {a b : Addr} {o : HO} (h : b ≠ a) : upd H a o b = H b := by unfold upd; rw [if_neg h]
theorem ne_of {H : Hp} {a b : Addr} {o u : HO} (h : H a = some o) (h' : H b = some u) (d : o ≠ u) : a ≠ b := by
  intro e; subst e; rw [h] at h'; exact d (Option.some.inj h')
theorem ne_of_none {H : Hp} {a b : Addr} {o : HO} (h : H a = some o) (h' : H b = none) : a ≠ b := by
  intro e; subst e; rw [h] at h'; cases h'
section
variable (P : Program) (w : World)
def ObjOk (H : Hp) (h : Heap) (a : Addr) : HO → Prop
  | .lst xs => xs.length ≤ sizeLine ∧ ∃ (its : List Value) (n : Nat), Vals xs its ∧ h.get? a = some { cls := .type "list", data := .seq its.toArray n }
  | .tup xs => xs.length ≤ sizeLine ∧ ∃ its : List Value, Vals xs its ∧ IsTup h a its.toArray
  | .dK kvs => kvs.length ≤ sizeLine ∧ (a == sysModules) = false ∧ ∃ vs, KV kvs vs ∧ h.DictOf (mixKind P w) a vs
  | .dT kvs => kvs.length ≤ sizeLine ∧ (a == sysModules) = false ∧ ∃ xs : List (List Key × Addr × Value),
      Paired (fun (p : List Key × V) (q : List Key × Addr × Value) => p.1 = q.1 ∧ H q.2.1 = some (.tup (p.1.map kV)) ∧ RelV p.2 q.2.2) kvs xs ∧
      ∃ o es ep, h.get? a = some o ∧ o.ExactDict ∧ o.data = .dict es ep ∧ es.toList = xs.map (entryOfKey (tupleKind (mixKind P w))) ∧ (xs.map (·.1)).Nodup
  | .set S n => h.SetOf (intKind P w) a S n
  | .ins C dx fs => H dx = some (.own a) ∧ fs.length ≤ 1000 ∧ dx ≠ a ∧ h.get? a = some (PySem.W.instObj C dx) ∧
      ∃ mA, h.Ns1 dx mA ∧ (∀ f, RelO (fs.lookup f) (mA f)) ∧ PySem.Within mA (fs.map (·.1))
  | .own _ => ∃ o, h.get? a = some o
  | .xd fs => ∃ mA, h.Ns1 a mA ∧ ∀ f, RelO (fs.lookup f) (mA f)
  | .rng lo hi => ∃ t u v, h.get? a = some { cls := .type "range", data := .fields #[.int lo t, .int hi u, .int 1 v] }
  | .frz o u => h.get? a = some o ∧ ObjOk H h a u
  | .tbl ps => h.get? a = some { cls := .none, data := .fields ps }
  | .met f x => h.get? a = some (PySem.W.methodObj (.ref f) (.ref x))
  | .ext φ => φ h ∧ (∃ o, h.get? a = some o) ∧ ∀ h1 h2 : Heap, φ h1 → (∀ o, h1.get? a = some o → h2.get? a = some o) → φ h2
def HOk (H : Hp) (h : Heap) : Prop := ∀ a o, H a = some o → ObjOk P w H h a o
end
section
variable {P : Program} {w : World} {H H' : Hp} {h h' : Heap} {a : Addr} {o : HO}
theorem ObjOk.lt (x : ObjOk P w H h a o) : a < h.objs.size := by
  cases o with
  | lst xs => obtain ⟨_, _, _, _, e⟩ := x; exact Heap.lt_size e
  | tup xs => obtain ⟨_, _, _, p⟩ := x; exact p.lt
  | dK kvs => obtain ⟨_, _, _, _, o, _, _, e, _⟩ := x; exact Heap.lt_size e
  | dT kvs => obtain ⟨_, _, _, _, o, _, _, e, _⟩ := x; exact Heap.lt_size e
  | set S n => obtain ⟨o, _, _, _, e, _⟩ := x; exact Heap.lt_size e
  | ins C dx fs => obtain ⟨_, _, _, e, _⟩ := x; exact Heap.lt_size e
  | own y => obtain ⟨_, e⟩ := x; exact Heap.lt_size e
  | xd fs => obtain ⟨_, ⟨_, _, _, e, _⟩, _⟩ := x; exact Heap.lt_size e
  | rng lo hi => obtain ⟨_, _, _, e⟩ := x; exact Heap.lt_size e
  | frz ob u => obtain ⟨e, _⟩ := x; exact Heap.lt_size e
  | tbl ps => exact Heap.lt_size (show h.get? a = some _ from x)
  | met f y => exact Heap.lt_size (show h.get? a = some _ from x)
  | ext φ => obtain ⟨_, ⟨_, e⟩, _⟩ := x; exact Heap.lt_size e
theorem Paired.mapP {α β : Type} {F G : α → β → Prop} : ∀ {l₁ : List α} {l₂ : List β}, Paired F l₁ l₂ → (∀ a b, F a b → G a b) → Paired G l₁ l₂
  | _, _, .nil, _ => .nil
  | _, _, .cons r t, f => .cons (f _ _ r) (Paired.mapP t f)
theorem ObjOk.stay (x : ObjOk P w H h a o) (k : ∀ b u, (b = a ∨ H b = some (.own a)) → h.get? b = some u → h'.get? b = some u)
    (ho : ∀ b, H b = some (.own a) → H' b = some (.own a)) (ht : ∀ b xs, H b = some (.tup xs) → H' b = some (.tup xs)) : ObjOk P w H' h' a o := by
  induction o with
  | lst xs => obtain ⟨z, its, n, r, e⟩ := x; exact ⟨z, its, n, r, k _ _ (.inl rfl) e⟩
  | tup xs => obtain ⟨z, its, r, ob, e, c⟩ := x; exact ⟨z, its, r, ob, k _ _ (.inl rfl) e, c⟩
  | dK kvs => obtain ⟨z, y, vs, r, ob, es, ep, e, c⟩ := x; exact ⟨z, y, vs, r, ob, es, ep, k _ _ (.inl rfl) e, c⟩
  | dT kvs =>
    obtain ⟨z, y, xs, r, ob, es, ep, e, c⟩ := x
    exact ⟨z, y, xs, Paired.mapP r fun p q z => ⟨z.1, ht _ _ z.2.1, z.2.2⟩, ob, es, ep, k _ _ (.inl rfl) e, c⟩
  | set S n => obtain ⟨ob, es, ep, t, e, c⟩ := x; exact ⟨ob, es, ep, t, k _ _ (.inl rfl) e, c⟩
  | ins C dx fs =>
    obtain ⟨d, z, ne, e, mA, ⟨od, es, ep, e2, c⟩, r⟩ := x
    exact ⟨ho _ d, z, ne, k _ _ (.inl rfl) e, mA, ⟨od, es, ep, k _ _ (.inr d) e2, c⟩, r⟩
  | own y => obtain ⟨ob, e⟩ := x; exact ⟨ob, k _ _ (.inl rfl) e⟩
  | xd fs => obtain ⟨mA, ⟨od, es, ep, e, c⟩, r⟩ := x; exact ⟨mA, ⟨od, es, ep, k _ _ (.inl rfl) e, c⟩, r⟩
  | rng lo hi => obtain ⟨t, u, v, e⟩ := x; exact ⟨t, u, v, k _ _ (.inl rfl) e⟩
  | frz ob u ih => obtain ⟨e, q⟩ := x; exact ⟨k _ _ (.inl rfl) e, ih q⟩
  | tbl ps =>
    have e : h.get? a = some { cls := .none, data := .fields ps } := x
    show h'.get? a = some { cls := .none, data := .fields ps }
    exact k a _ (.inl rfl) e
  | met f y =>
    have e : h.get? a = some (PySem.W.methodObj (.ref f) (.ref y)) := x
    show h'.get? a = some (PySem.W.methodObj (.ref f) (.ref y))
    exact k a _ (.inl rfl) e
  | ext φ => obtain ⟨p, ⟨o, e⟩, st⟩ := x; exact ⟨st _ _ p fun o q => k _ _ (.inl rfl) q, ⟨o, k _ _ (.inl rfl) e⟩, st⟩
theorem HOk.lt (x : HOk P w H h) (e : H a = some o) : a < h.objs.size := (x a o e).lt
theorem HOk.fresh (x : HOk P w H h) (e : h.objs.size ≤ a) : H a = none := by
  cases q : H a with
  | none => rfl
  | some u => exact absurd (Nat.lt_of_lt_of_le (x.lt q) e) (Nat.lt_irrefl _)
theorem HOk.kept (x : HOk P w H h) (k : ∀ b u, h.get? b = some u → h'.get? b = some u) : HOk P w H h' := fun a o e =>
  (x a o e).stay (fun b u _ q => k b u q) (fun _ q => q) fun _ _ q => q
theorem HOk.laid (x : HOk P w H h) (k : ∀ b u, h.get? b = some u → h'.get? b = some u) (hp : h.objs.size ≤ a) (new : ObjOk P w (upd H a o) h' a o) : HOk P w (upd H a o) h' := fun b u e => by
  have hn := x.fresh hp
  by_cases hb : b = a
  · subst hb; rw [upd_same] at e; cases e; exact new
  · rw [upd_ne hb] at e
    exact (x b u e).stay (fun c v _ q => k c v q) (fun c q => by rw [upd_ne (ne_of_none q hn)]; exact q) fun c xs q => by rw [upd_ne (ne_of_none q hn)]; exact q
end
def Rd (H : Hp) (a : Addr) (u : HO) : Prop := H a = some u ∨ ∃ o, H a = some (.frz o u)
theorem Rd.ok {P : Program} {w : World} {H : Hp} {h : Heap} {a : Addr} {u : HO} (r : Rd H a u) (x : HOk P w H h) : ObjOk P w H h a u := by
  rcases r with r | ⟨o, r⟩
  · exact x a u r
  · obtain ⟨_, q⟩ := x a _ r
    exact q
def Mut : Option HO → Prop
  | some (.lst _) => True
  | some (.dK _) => True
  | some (.dT _) => True
  | some (.set _ _) => True
  | some (.ins _ _ _) => True
  | some (.ext _) => True
  | _ => False
section
variable {P : Program} {w : World} {H : Hp} {h h' : Heap} {x e : Addr} {o' : HO}
theorem HOk.write (ok : HOk P w H h) (mu : Mut (H x)) (he : e = x ∨ H e = some (.own x)) (k : ∀ b u, b ≠ e → h.get? b = some u → h'.get? b = some u) (heo : ∃ u, h'.get? e = some u)
    (new : ObjOk P w (upd H x o') h' x o') : HOk P w (upd H x o') h' := fun b u q => by
  have nown : ∀ c y, H c = some (.own y) → c ≠ x := fun c y r z => by subst z; rw [r] at mu; exact mu
  have ntup : ∀ c xs, H c = some (.tup xs) → c ≠ x := fun c xs r z => by subst z; rw [r] at mu; exact mu
  by_cases hb : b = x
  · subst hb; rw [upd_same] at q; cases q; exact new
  · rw [upd_ne hb] at q
    by_cases hbe : b = e
    · have q' : H b = some (.own x) := by
        rcases he with z | z
        · exact absurd (hbe.trans z) hb
        · rw [hbe]; exact z
      rw [q] at q'; cases q'
      obtain ⟨v, hv⟩ := heo
      exact ⟨v, by rw [hbe]; exact hv⟩
    · refine (ok b u q).stay (fun c v hc r => k c v ?_ r) (fun c r => by rw [upd_ne (nown c b r)]; exact r) fun c xs r => by rw [upd_ne (ntup c xs r)]; exact r
      rcases hc with rfl | hc
      · exact hbe
      · rintro rfl
        rcases he with z | z
        · exact nown c b hc z
        · rw [hc] at z; cases z; exact hb rfl
end
structure Un (fs ex : List Addr) (H H' : Hp) (h h' : Heap) : Prop where
  keep : ∀ b o, h.get? b = some o → H b = none → b ∉ fs → b ∉ ex → h'.get? b = some o
  slot : ∀ b o, h.get? b = some o → H b = none → b ∈ fs → b ∉ ex → ∃ sl, h'.get? b = some { o with slots := sl }
  free : ∀ b o, h.get? b = some o → H b = none → b ∉ ex → H' b = none
  there : ∀ b o, h.get? b = some o → b ∉ ex → ∃ o', h'.get? b = some o'
  tups : ∀ b xs, H b = some (.tup xs) → H' b = some (.tup xs)
  frzs : ∀ b o u, H b = some (.frz o u) → H' b = some (.frz o u)
  tbls : ∀ b ps, H b = some (.tbl ps) → ∃ more, H' b = some (.tbl (ps ++ more))
section
variable {fs fs' ex ex' : List Addr} {H H1 H2 : Hp} {h h1 h2 h' : Heap} {a x e : Addr} {o : HO}
theorem Un.any (u : Un fs ex H H1 h h1) {b : Addr} {ob : Obj} (q : h.get? b = some ob) (n : H b = none) (hx : b ∉ ex) : ∃ sl, h1.get? b = some { ob with slots := sl } := by
  by_cases hb : b ∈ fs
  · exact u.slot b ob q n hb hx
  · exact ⟨ob.slots, u.keep b ob q n hb hx⟩
theorem Un.kept (k : ∀ b u, h.get? b = some u → h'.get? b = some u) : Un fs ex H H h h' :=
  ⟨fun b ob q _ _ _ => k b ob q, fun b ob q _ _ _ => ⟨ob.slots, k b ob q⟩, fun _ _ _ n _ => n, fun b ob q _ => ⟨ob, k b ob q⟩, fun _ _ q => q, fun _ _ _ q => q, fun _ ps q => ⟨#[], by rw [q]; simp⟩⟩
theorem Un.refl : Un fs ex H H h h := Un.kept fun _ _ q => q
theorem Un.laid (k : ∀ b u, h.get? b = some u → h'.get? b = some u) (hp : h.objs.size ≤ a) (hn : H a = none) : Un fs ex H (upd H a o) h h' where
  keep := fun b u q _ _ _ => k b u q
  slot := fun b u q _ _ _ => ⟨u.slots, k b u q⟩
  free := fun b u q n _ => by rw [upd_ne (Nat.ne_of_lt (Nat.lt_of_lt_of_le (Heap.lt_size q) hp))]; exact n
  there := fun b u q _ => ⟨u, k b u q⟩
  tups := fun b xs q => by rw [upd_ne (ne_of_none q hn)]; exact q
  frzs := fun b u xs q => by rw [upd_ne (ne_of_none q hn)]; exact q
  tbls := fun b ps q => ⟨#[], by rw [upd_ne (ne_of_none q hn), q]; simp⟩
theorem Un.write (mu : Mut (H x)) (he : e = x ∨ H e = some (.own x)) (k : ∀ b u, b ≠ e → h.get? b = some u → h'.get? b = some u) (heo : ∃ u, h'.get? e = some u) : Un fs ex H (upd H x o) h h' := by
  have hx : ∀ b, H b = none → b ≠ x := fun b n z => by subst z; rw [n] at mu; exact mu
  have hb : ∀ b, H b = none → b ≠ e := fun b n z => by
    subst z
    rcases he with r | r
    · exact hx b n r
    · rw [n] at r; cases r
  have hm : ∀ b u, H b = some u → ¬ Mut (some u) → b ≠ x := fun b u q nm z => by subst z; rw [q] at mu; exact nm mu
  refine ⟨fun b u q n _ _ => k b u (hb b n) q, fun b u q n _ _ => ⟨u.slots, k b u (hb b n) q⟩, fun b u q n _ => by rw [upd_ne (hx b n)]; exact n, fun b u q _ => ?_,
    fun b xs q => by rw [upd_ne (hm b _ q fun z => z)]; exact q, fun b u xs q => by rw [upd_ne (hm b _ q fun z => z)]; exact q, fun b ps q => ⟨#[], by rw [upd_ne (hm b _ q fun z => z), q]; simp⟩⟩
  by_cases hbe : b = e
  · subst hbe; exact heo
  · exact ⟨u, k b u hbe q⟩
end
def trk (h : Heap) (H : Hp) : List Addr := (List.range h.objs.size).filter fun a => (H a).isSome
def hidT (h : Heap) (H : Hp) : Heap := PySem.W.hideAll h (trk h H)
theorem hidT_size (h : Heap) (H : Hp) : (hidT h H).objs.size = h.objs.size := PySem.W.hideAll_size _ _
theorem hidT_get {h : Heap} {H : Hp} {b : Addr} {o : Obj} (e : h.get? b = some o) (n : H b = none) : (hidT h H).get? b = some o :=
  PySem.W.hideAll_get _ e fun hm => by
    have q : (H b).isSome = true := (List.mem_filter.mp hm).2
    rw [n] at q; simp at q
theorem of_hidT {h : Heap} {H : Hp} {b : Addr} {o : Obj} (e : (hidT h H).get? b = some o) : h.get? b = some o ∧ H b = none := by
  have e' : h.get? b = some o := PySem.W.of_hideAll (trk h H) e
  refine ⟨e', ?_⟩
  cases q : H b with
  | none => rfl
  | some x =>
    have hm : b ∈ trk h H := List.mem_filter.mpr ⟨List.mem_range.mpr (Heap.lt_size e'), by simp [q]⟩
    have z : (hidT h H).get? b = none := PySem.W.hideAll_none (trk h H) hm
    rw [z] at e; cases e
end L2
namespace L2
open PySem PySem.Spec PyProof.Rows
structure Mod (K : PySem.W.Frag) (mg : Str → Option Value) (base : Heap) : Prop where
  kin : K.In base
  glob : base.Ns mainGlobals mg
  blt : ∃ mb, base.Ns builtinsNs mb ∧ ∀ x : Str, x ≠ "__name__" → mb x = bootBuiltins x
  nolimit : base.NoLimit
structure Cx where
  prog : Program
  w : World
  K : PySem.W.Frag
  mg : Str → Option Value
  base : Heap
  A : Around
  N : List Str
  s₀ : Shared
  H₀ : Hp
  env : Env
  outer : List Env
  stack : List Env
  ex : List Addr
  fn : Str → Bool
  calm : Bool
  pn : List (Addr × Obj)
  xe : Value → Shared → Prop
def frs (l : List Env) : List Addr := l.filterMap (·.frame)
abbrev Cx.fs (X : Cx) : List Addr := frs X.outer
def Vis (sc : Scope) (x : Str) : Prop := sc.names.lookup x = some .local ∨ sc.names.lookup x = some .cell ∨ sc.names.lookup x = some .free
def Loc (sc : Scope) (x : Str) : Prop := sc.names.lookup x = some .local ∨ sc.names.lookup x = some .cell
def Look (env : Env) (h : Heap) (m : Str → Option Value) (x : Str) (u : Value) : Prop :=
  (env.kindOf x = some .local ∧ m x = some u) ∨ ((env.kindOf x = some .cell ∨ env.kindOf x = some .free) ∧ ∃ c, env.cells.lookup x = some c ∧ h.IsCell c (some u))
structure Cx.Ok (X : Cx) : Prop where
  mod : Mod X.K X.mg X.base
  kind : X.env.scope.kind = .function
  glob : X.env.globals = mainGlobals
  blt : X.env.builtins = builtinsNs
  above : X.s₀.heap.objs.size ≤ X.env.locals
  inj : ∀ x y c, X.env.cells.lookup x = some c → X.env.cells.lookup y = some c → x = y
  has : ∀ x, (X.env.kindOf x = some .cell ∨ X.env.kindOf x = some .free) → ∃ c, X.env.cells.lookup x = some c
  cab : ∀ x c, X.fn x = true → X.env.cells.lookup x = some c → X.s₀.heap.objs.size ≤ c
  hd : X.calm = true → X.A.handled = none
  frames : X.A.frames = some X.stack
  stk : X.stack = X.outer ∨ (X.stack = X.env :: X.outer ∧ X.env.frame = some X.env.locals)
  exf : ∀ b ∈ X.ex, b ≠ X.env.locals ∧ ∀ x c, X.env.cells.lookup x = some c → c ≠ b
  bs : ∀ b o, X.base.get? b = some o → X.s₀.heap.get? b = some o ∧ X.H₀ b = none
  bsz : X.base.objs.size ≤ X.s₀.heap.objs.size
  noex : ∀ b o, X.base.get? b = some o → b ∉ X.ex
  exfs : ∀ b ∈ X.ex, b ∉ X.fs
  funs : X.s₀.heap.FunFrames X.base X.outer
  frf : ∀ b ∈ X.fs, X.H₀ b = none
structure Inv (X : Cx) (pins : List (Addr × Obj)) (σ : List (Option V)) (H : Hp) (s : Shared) : Prop where
  ok : X.Ok
  os : s.os = X.s₀.os
  bare : AllBare s.gens
  base : Un X.fs X.ex X.H₀ H X.s₀.heap s.heap
  loc : ∃ m, s.heap.Ns X.env.locals m ∧ ∀ (i : Nat) (x : Str) (v : V), X.N[i]? = some x → σ[i]? = some (some v) → Vis X.env.scope x → ∃ u, RelV v u ∧ Look X.env s.heap m x u
  cell : ∀ x c, X.env.cells.lookup x = some c → ∃ v, s.heap.IsCell c v
  free : H X.env.locals = none
  freeC : ∀ x c, X.env.cells.lookup x = some c → H c = none
  pin : ∀ p ∈ X.pn ++ pins, s.heap.get? p.1 = some p.2 ∧ H p.1 = none ∧ p.1 ≠ X.env.locals ∧ p.1 ∉ X.fs ∧ ∀ v, p.2.data ≠ .cell v
  hok : HOk X.prog X.w H s.heap
  len : σ.length = X.N.length
section
variable {X : Cx} {pins : List (Addr × Obj)} {σ : List (Option V)} {H H' : Hp} {s : Shared} {h' : Heap}
theorem Cx.Ok.nofr (ok : X.Ok) {b : Addr} {o : Obj} (e : X.base.get? b = some o) : b ∉ X.fs := fun hb => by
  have := (ok.funs.mem hb).1
  rw [e] at this; cases this
theorem Inv.bs (I : Inv X pins σ H s) : ∀ b o, X.base.get? b = some o → s.heap.get? b = some o ∧ H b = none := fun b o e =>
  ⟨I.base.keep b o (I.ok.bs b o e).1 (I.ok.bs b o e).2 (I.ok.nofr e) (I.ok.noex b o e), I.base.free b o (I.ok.bs b o e).1 (I.ok.bs b o e).2 (I.ok.noex b o e)⟩
theorem Inv.bk (I : Inv X pins σ H s) : ∀ b o, X.base.get? b = some o → s.heap.get? b = some o := fun b o e => (I.bs b o e).1
theorem Inv.mod (I : Inv X pins σ H s) : Mod X.K X.mg X.base := I.ok.mod
theorem Inv.kIn (I : Inv X pins σ H s) : X.K.In s.heap := I.ok.mod.kin.keeps I.bk
theorem Inv.lt (I : Inv X pins σ H s) : X.env.locals < s.heap.objs.size := let ⟨_, hn, _⟩ := I.loc; hn.lt
theorem Inv.sz (I : Inv X pins σ H s) : X.s₀.heap.objs.size ≤ s.heap.objs.size := Nat.le_trans I.ok.above (Nat.le_of_lt I.lt)
theorem Inv.nofs (I : Inv X pins σ H s) {a : Addr} (h : s.heap.objs.size ≤ a) : a ∉ X.fs := fun hb => by
  obtain ⟨_, o, ho, _⟩ := I.ok.funs.mem hb
  exact absurd (Nat.lt_of_lt_of_le (Heap.lt_size ho) (Nat.le_trans I.sz h)) (Nat.lt_irrefl _)
theorem Inv.cne (I : Inv X pins σ H s) : ∀ x c, X.env.cells.lookup x = some c → c ≠ X.env.locals := fun x c e z => by
  obtain ⟨v, o, ho, hd⟩ := I.cell x c e
  obtain ⟨m, ⟨o', es, ep, ho', hd', _⟩, _⟩ := I.loc
  rw [z, ho'] at ho; cases ho; rw [hd'] at hd; cases hd
theorem Inv.funs (I : Inv X pins σ H s) : s.heap.FunFrames X.base X.outer := by
  have all : ∀ (l : List Env), (∀ b ∈ frs l, b ∈ X.fs) → X.s₀.heap.FunFrames X.base l → s.heap.FunFrames X.base l := by
    intro l
    induction l with
    | nil => intro _ _; trivial
    | cons env r ih =>
      intro hs hl
      obtain ⟨hk, ⟨L, o, hf, hn, ho, hd⟩, hr⟩ := hl
      have hL : L ∈ X.fs := hs L (by unfold frs; rw [List.filterMap_cons, hf]; exact List.mem_cons_self)
      obtain ⟨sl, e⟩ := I.base.slot L o ho (I.ok.frf L hL) hL fun z => I.ok.exfs L z hL
      exact ⟨hk, ⟨L, _, hf, hn, e, hd⟩, ih (fun b hb => hs b (by unfold frs; rw [List.filterMap_cons, hf]; exact List.mem_cons_of_mem _ hb)) hr⟩
  exact all X.outer (fun _ hb => hb) I.ok.funs
theorem Inv.stack (I : Inv X pins σ H s) : s.heap.FunFrames X.base X.stack := by
  rcases I.ok.stk with e | ⟨e, hf⟩
  · rw [e]; exact I.funs
  · rw [e]
    obtain ⟨m, hn, _⟩ := I.loc
    refine .cons (by rw [I.ok.kind]; decide) hf hn ?_ I.funs
    exact Heap.get?_none_of_le (Nat.le_trans I.ok.bsz I.ok.above)
theorem Inv.stkSub (I : Inv X pins σ H s) : ∀ b ∈ frs X.stack, b ∈ X.env.locals :: X.fs := fun b hb => by
  rcases I.ok.stk with e | ⟨e, hf⟩
  · rw [e] at hb; exact List.mem_cons_of_mem _ hb
  · rw [e] at hb
    unfold frs at hb
    rw [List.filterMap_cons, hf] at hb
    exact hb
theorem Inv.stkFree (I : Inv X pins σ H s) : ∀ b ∈ frs X.stack, H b = none := fun b hb => by
  rcases List.mem_cons.mp (I.stkSub b hb) with e | hb
  · rw [e]; exact I.free
  · obtain ⟨_, o, ho, _⟩ := I.ok.funs.mem hb
    exact I.base.free b o ho (I.ok.frf b hb) fun z => I.ok.exfs b z hb
theorem Inv.step {g' : Array GenState} {t' : Nat} {d' : Drawn} {ch : List Addr} (I : Inv X pins σ H s)
    (hch : ∀ b ∈ ch, (b ∈ X.ex ∨ X.s₀.heap.objs.size ≤ b) ∧ b ≠ X.env.locals ∧ (∀ x c, X.env.cells.lookup x = some c → c ≠ b) ∧ ∀ p ∈ X.pn ++ pins, p.1 ≠ b)
    (keep : ∀ b o, b ≠ X.env.locals → b ∉ X.fs → b ∉ ch → s.heap.get? b = some o → H b = none → h'.get? b = some o)
    (slot : ∀ b o, b ≠ X.env.locals → b ∈ X.fs → b ∉ ch → s.heap.get? b = some o → H b = none → ∃ sl, h'.get? b = some { o with slots := sl }) (free : ∀ b o, b ∉ ch → s.heap.get? b = some o → H b = none → H' b = none)
    (there : ∀ b o, b ∉ ch → s.heap.get? b = some o → ∃ o', h'.get? b = some o')
    (tups : ∀ b xs, H b = some (.tup xs) → H' b = some (.tup xs)) (frzs : ∀ b o u, H b = some (.frz o u) → H' b = some (.frz o u)) (tbls : ∀ b ps, H b = some (.tbl ps) → ∃ more, H' b = some (.tbl (ps ++ more)))
    (ns : ∀ m, s.heap.Ns X.env.locals m → h'.Ns X.env.locals m) (hok : HOk X.prog X.w H' h') (hg : AllBare g') :
    Inv X pins σ H' { s with heap := h', gens := g', drawn := d', toks := t' } := by
  have neL : ∀ b o, X.s₀.heap.get? b = some o → b ≠ X.env.locals := fun b o e => Nat.ne_of_lt (Nat.lt_of_lt_of_le (Heap.lt_size e) I.ok.above)
  have neC : ∀ b o, X.s₀.heap.get? b = some o → b ∉ X.ex → b ∉ ch := fun b o e hx hb => by
    rcases (hch b hb).1 with z | z
    · exact hx z
    · exact absurd (Nat.lt_of_lt_of_le (Heap.lt_size e) z) (Nat.lt_irrefl _)
  have cellK : ∀ x c, X.env.cells.lookup x = some c → ∀ v, s.heap.IsCell c v → h'.IsCell c v := fun x c e v ⟨o, ho, hd⟩ => by
    have nch : c ∉ ch := fun z => (hch c z).2.2.1 x c e rfl
    by_cases hc : c ∈ X.fs
    · obtain ⟨sl, q⟩ := slot c o (I.cne x c e) hc nch ho (I.freeC x c e)
      exact ⟨_, q, hd⟩
    · exact ⟨o, keep c o (I.cne x c e) hc nch ho (I.freeC x c e), hd⟩
  refine ⟨I.ok, I.os, hg, ⟨fun b o e n hb hx => ?_, fun b o e n hb hx => ?_, fun b o e n hx => ?_, fun b o e hx => ?_, fun b xs e => tups b xs (I.base.tups b xs e), fun b o xs e => frzs b o xs (I.base.frzs b o xs e), fun b ps e => ?_⟩, ?_, fun x c e => ?_, ?_, fun x c e => ?_, fun p hp => ?_, hok, I.len⟩
  · exact keep b o (neL b o e) hb (neC b o e hx) (I.base.keep b o e n hb hx) (I.base.free b o e n hx)
  · obtain ⟨sl, e1⟩ := I.base.slot b o e n hb hx
    obtain ⟨sl', e2⟩ := slot b _ (neL b o e) hb (neC b o e hx) e1 (I.base.free b o e n hx)
    exact ⟨sl', e2⟩
  · obtain ⟨o', e1⟩ := I.base.there b o e hx
    exact free b o' (neC b o e hx) e1 (I.base.free b o e n hx)
  · obtain ⟨o', e1⟩ := I.base.there b o e hx
    exact there b o' (neC b o e hx) e1
  · obtain ⟨m1, e1⟩ := I.base.tbls b ps e
    obtain ⟨m2, e2⟩ := tbls b _ e1
    exact ⟨m1 ++ m2, by rw [e2, Array.append_assoc]⟩
  · obtain ⟨m, hn, hl⟩ := I.loc
    refine ⟨m, ns m hn, fun i x v e1 e2 e3 => ?_⟩
    obtain ⟨u, r, l⟩ := hl i x v e1 e2 e3
    refine ⟨u, r, ?_⟩
    rcases l with l | ⟨k, c, e, z⟩
    · exact .inl l
    · exact .inr ⟨k, c, e, cellK x c e _ z⟩
  · obtain ⟨v, z⟩ := I.cell x c e
    exact ⟨v, cellK x c e v z⟩
  · obtain ⟨m, ⟨o, _, _, ho, _⟩, _⟩ := I.loc
    exact free _ o (fun z => (hch _ z).2.1 rfl) ho I.free
  · obtain ⟨v, o, ho, hd⟩ := I.cell x c e
    exact free c o (fun z => (hch c z).2.2.1 x c e rfl) ho (I.freeC x c e)
  · obtain ⟨e, n, ne, nf, d⟩ := I.pin p hp
    have nch : p.1 ∉ ch := fun z => (hch p.1 z).2.2.2 p hp rfl
    exact ⟨keep p.1 p.2 ne nf nch e n, free p.1 p.2 nch e n, ne, nf, d⟩
theorem Inv.un {t' : Nat} (I : Inv X pins σ H s) (u : Un X.fs [] H H' s.heap h') (hok : HOk X.prog X.w H' h') : Inv X pins σ H' { s with heap := h', toks := t' } := by
  obtain ⟨m, ⟨o, es, ep, ho, r⟩, _⟩ := id I.loc
  obtain ⟨sl, hL⟩ := u.any ho I.free (by simp)
  exact I.step (g' := s.gens) (d' := s.drawn) (ch := []) (fun _ z => nomatch z) (fun b o _ hb _ e n => u.keep b o e n hb (by simp)) (fun b o _ hb _ e n => u.slot b o e n hb (by simp)) (fun b o _ e n => u.free b o e n (by simp)) (fun b o _ e => u.there b o e (by simp)) u.tups u.frzs u.tbls (fun m' hm => by
    obtain ⟨o', es', ep', ho', r'⟩ := hm
    rw [ho] at ho'; cases ho'
    exact ⟨_, es', ep', hL, r'⟩) hok I.bare
theorem Inv.call {g' : Array GenState} {t' : Nat} {d' : Drawn} {ch : List Addr} (I : Inv X pins σ H s) (u : Un (frs X.stack) ch H H' s.heap h') (hok : HOk X.prog X.w H' h') (hg : AllBare g')
    (hch : ∀ b ∈ ch, (b ∈ X.ex ∨ X.s₀.heap.objs.size ≤ b) ∧ b ≠ X.env.locals ∧ (∀ x c, X.env.cells.lookup x = some c → c ≠ b) ∧ ∀ p ∈ X.pn ++ pins, p.1 ≠ b) :
    Inv X pins σ H' { s with heap := h', gens := g', drawn := d', toks := t' } := by
  obtain ⟨m, ⟨o, es, ep, ho, r⟩, _⟩ := id I.loc
  obtain ⟨sl, hL⟩ := u.any ho I.free fun z => (hch _ z).2.1 rfl
  exact I.step (ch := ch) hch (fun b o hL hb hc e n => u.keep b o e n (fun z => (List.mem_cons.mp (I.stkSub b z)).elim hL hb) hc) (fun b o _ _ hc e n => u.any e n hc) (fun b o hc e n => u.free b o e n hc) (fun b o hc e => u.there b o e hc) u.tups u.frzs u.tbls (fun m' hm => by
    obtain ⟨o', es', ep', ho', r'⟩ := hm
    rw [ho] at ho'; cases ho'
    exact ⟨_, es', ep', hL, r'⟩) hok hg
theorem Inv.turned {t' : Nat} {it : Addr} (I : Inv X pins σ H s) (k : ∀ b o, b ≠ it → s.heap.get? b = some o → h'.get? b = some o) (hn : H it = none) (hL : it ≠ X.env.locals)
    (h1 : it ∈ X.ex ∨ X.s₀.heap.objs.size ≤ it) (h2 : ∀ x c, X.env.cells.lookup x = some c → c ≠ it) (h3 : ∀ p ∈ X.pn ++ pins, p.1 ≠ it) : Inv X pins σ H { s with heap := h', toks := t' } := by
  have nit : ∀ b u, H b = some u → b ≠ it := fun b u e z => by rw [z, hn] at e; cases e
  refine I.step (g' := s.gens) (d' := s.drawn) (ch := [it]) (fun b hb => ?_) (fun b o _ _ hc e _ => k b o (fun z => hc (by simp [z])) e) (fun b o _ _ hc e _ => ⟨o.slots, k b o (fun z => hc (by simp [z])) e⟩) (fun _ _ _ _ n => n)
    (fun b o hc e => ⟨o, k b o (fun z => hc (by simp [z])) e⟩) (fun _ _ e => e) (fun _ _ _ e => e) (fun b ps e => ⟨#[], by rw [e]; simp⟩) (fun m hm => ?_) (fun b u e => ?_) I.bare
  · have e : b = it := by simpa using hb
    subst e
    exact ⟨h1, hL, h2, h3⟩
  · obtain ⟨o, es, ep, ho, r⟩ := hm
    exact ⟨o, es, ep, k _ o (Ne.symm hL) ho, r⟩
  · refine (I.hok b u e).stay (fun c v hc q => k c v ?_ q) (fun _ q => q) fun _ _ q => q
    rcases hc with z | z
    · rw [z]; exact nit b u e
    · exact nit c _ z
theorem Inv.tok (I : Inv X pins σ H s) (t : Nat) : Inv X pins σ H { s with toks := t } := I.un (h' := s.heap) (t' := t) Un.refl I.hok
theorem Inv.kept {t' : Nat} (I : Inv X pins σ H s) (k : ∀ b u, s.heap.get? b = some u → h'.get? b = some u) : Inv X pins σ H { s with heap := h', toks := t' } := I.un (Un.kept k) (I.hok.kept k)
theorem Inv.laid {a : Addr} {o : HO} {t' : Nat} (I : Inv X pins σ H s) (k : ∀ b u, s.heap.get? b = some u → h'.get? b = some u) (hp : s.heap.objs.size ≤ a) (new : ObjOk X.prog X.w (upd H a o) h' a o) :
    Inv X pins σ (upd H a o) { s with heap := h', toks := t' } := I.un (Un.laid k hp (I.hok.fresh hp)) (I.hok.laid k hp new)
theorem Inv.write {x e : Addr} {o : HO} {t' : Nat} (I : Inv X pins σ H s) (mu : Mut (H x)) (he : e = x ∨ H e = some (.own x)) (k : ∀ b u, b ≠ e → s.heap.get? b = some u → h'.get? b = some u) (heo : ∃ u, h'.get? e = some u)
    (new : ObjOk X.prog X.w (upd H x o) h' x o) : Inv X pins σ (upd H x o) { s with heap := h', toks := t' } := I.un (Un.write mu he k heo) (I.hok.write mu he k heo new)
theorem Inv.pins_of {pins' : List (Addr × Obj)} (I : Inv X pins σ H s) (h : ∀ p ∈ pins', s.heap.get? p.1 = some p.2 ∧ H p.1 = none ∧ p.1 ≠ X.env.locals ∧ p.1 ∉ X.fs ∧ ∀ v, p.2.data ≠ .cell v) : Inv X pins' σ H s :=
  ⟨I.ok, I.os, I.bare, I.base, I.loc, I.cell, I.free, I.freeC, fun p hp => (List.mem_append.mp hp).elim (fun z => I.pin p (List.mem_append_left _ z)) (h p), I.hok, I.len⟩
theorem nodup_ix {N : List Str} (hN : N.Nodup) {i j : Nat} {x : Str} (a : N[i]? = some x) (b : N[j]? = some x) : i = j := by
  obtain ⟨h1, e1⟩ := List.getElem?_eq_some_iff.mp a
  obtain ⟨h2, e2⟩ := List.getElem?_eq_some_iff.mp b
  exact (List.getElem_inj hN).mp (e1.trans e2.symm)
theorem store_ok2 {M : Model} {A : Around} {E : Value → Shared → Prop} {i : Nat} {x : Str} {v : V} {u : Value} {Q : Unit → Shared → Prop} (I : Inv X pins σ H s) (hN : X.N.Nodup) (hi : X.N[i]? = some x) (hx : Loc X.env.scope x) (r : RelV v u)
    (h : ∀ s', Inv X pins (σ.set i (some v)) H s' → (∃ a, Heap.SameBut a s.heap s'.heap ∧ (a = X.env.locals ∨ X.env.cells.lookup x = some a)) → Q () s') (hf : X.fn x = true ∨ X.env.scope.names.lookup x = some .local := by first | exact .inl rfl | exact .inr rfl | assumption) : wpAny M A (storeName X.env x u) Q E s := by
  obtain ⟨m, hn, hl⟩ := id I.loc
  have hcls : (X.env.scope.kind == .class || (X.env.scope.kind == .module && X.env.locals != X.env.globals)) = false := by rw [I.ok.kind]; rfl
  have hiσ : i < σ.length := by rw [I.len]; exact (List.getElem?_eq_some_iff.mp hi).1
  have cne := I.cne
  have tracked : ∀ {a : Addr} {h' : Heap}, (∃ o, s.heap.get? a = some o ∧ H a = none) → Heap.SameBut a s.heap h' → HOk X.prog X.w H h' := fun {a h'} ha hs b ob e => by
    obtain ⟨_, _, hfree⟩ := ha
    refine (I.hok b ob e).stay (fun c w' hc q => (hs.2 c ?_).trans q) (fun _ q => q) fun _ _ q => q
    rintro rfl
    rcases hc with rfl | hc
    · rw [hfree] at e; cases e
    · rw [hfree] at hc; cases hc
  rcases hx with hk | hk
  · refine wpAny_storeName_local hk hn (fun h' hn' hs => ?_) hcls
    obtain ⟨oL, _, _, hoL, _⟩ := id hn
    refine h _ ⟨I.ok, I.os, I.bare, ⟨fun b o e n hb hx => ?_, fun b o e n hb hx => ?_, I.base.free, fun b o e hx => ?_, I.base.tups, I.base.frzs, I.base.tbls⟩, ⟨_, hn', fun j y v' e1 e2 e3 => ?_⟩, fun y c e => ?_, I.free, I.freeC, fun p hp => ?_, tracked ⟨oL, hoL, I.free⟩ hs, by simpa using I.len⟩ ⟨_, hs, .inl rfl⟩
    · exact (hs.2 b (Nat.ne_of_lt (Nat.lt_of_lt_of_le (Heap.lt_size e) I.ok.above))).trans (I.base.keep b o e n hb hx)
    · obtain ⟨sl, e1⟩ := I.base.slot b o e n hb hx
      exact ⟨sl, (hs.2 b (Nat.ne_of_lt (Nat.lt_of_lt_of_le (Heap.lt_size e) I.ok.above))).trans e1⟩
    · obtain ⟨o', e1⟩ := I.base.there b o e hx
      exact ⟨o', (hs.2 b (Nat.ne_of_lt (Nat.lt_of_lt_of_le (Heap.lt_size e) I.ok.above))).trans e1⟩
    · by_cases hj : j = i
      · subst hj
        rw [hi] at e1; cases e1
        rw [List.getElem?_set_self hiσ] at e2
        cases e2
        exact ⟨u, r, .inl ⟨hk, by simp⟩⟩
      · rw [List.getElem?_set_ne (Ne.symm hj)] at e2
        obtain ⟨u', r', q⟩ := hl j y v' e1 e2 e3
        refine ⟨u', r', ?_⟩
        rcases q with ⟨k, e⟩ | ⟨k, c, e, z⟩
        · refine .inl ⟨k, ?_⟩
          have : y ≠ x := fun e => hj (nodup_ix hN e1 (e ▸ hi))
          simp [this, e]
        · exact .inr ⟨k, c, e, z.sameBut hs (cne y c e)⟩
    · obtain ⟨w', z⟩ := I.cell y c e
      exact ⟨w', z.sameBut hs (cne y c e)⟩
    · obtain ⟨e, n, ne, nf, d⟩ := I.pin p hp
      exact ⟨(hs.2 p.1 ne).trans e, n, ne, nf, d⟩
  · have hfn : X.fn x = true := by
      rcases hf with z | z
      · exact z
      · rw [z] at hk; cases hk
    obtain ⟨c, hc⟩ := I.ok.has x (.inl hk)
    obtain ⟨w', z⟩ := I.cell x c hc
    refine wpAny_storeName_cell I.ok.kind hk hc z (fun h' hc' hs => ?_)
    obtain ⟨oc, hoc, hocd⟩ := id z
    refine h { s with heap := h' } ⟨I.ok, I.os, I.bare, ⟨fun b o e n hb hx => ?_, fun b o e n hb hx => ?_, I.base.free, fun b o e hx => ?_, I.base.tups, I.base.frzs, I.base.tbls⟩, ⟨m, hn.sameBut hs (Ne.symm (cne x c hc)), fun j y v' e1 e2 e3 => ?_⟩, fun y c' e => ?_, I.free, I.freeC, fun p hp => ?_, tracked ⟨oc, hoc, I.freeC x c hc⟩ hs, by simpa using I.len⟩ ⟨c, hs, .inr hc⟩
    · exact (hs.2 b (Nat.ne_of_lt (Nat.lt_of_lt_of_le (Heap.lt_size e) (I.ok.cab x c hfn hc)))).trans (I.base.keep b o e n hb hx)
    · obtain ⟨sl, e1⟩ := I.base.slot b o e n hb hx
      exact ⟨sl, (hs.2 b (Nat.ne_of_lt (Nat.lt_of_lt_of_le (Heap.lt_size e) (I.ok.cab x c hfn hc)))).trans e1⟩
    · obtain ⟨o', e1⟩ := I.base.there b o e hx
      exact ⟨o', (hs.2 b (Nat.ne_of_lt (Nat.lt_of_lt_of_le (Heap.lt_size e) (I.ok.cab x c hfn hc)))).trans e1⟩
    · by_cases hj : j = i
      · subst hj
        rw [hi] at e1; cases e1
        rw [List.getElem?_set_self hiσ] at e2
        cases e2
        exact ⟨u, r, .inr ⟨.inl hk, c, hc, hc'⟩⟩
      · rw [List.getElem?_set_ne (Ne.symm hj)] at e2
        obtain ⟨u', r', q⟩ := hl j y v' e1 e2 e3
        refine ⟨u', r', ?_⟩
        rcases q with q | ⟨k, c', e, z'⟩
        · exact .inl q
        · refine .inr ⟨k, c', e, z'.sameBut hs ?_⟩
          rintro rfl
          exact hj (nodup_ix hN e1 (I.ok.inj _ _ _ e hc ▸ hi))
    · by_cases hcc : c' = c
      · subst hcc; exact ⟨_, hc'⟩
      · obtain ⟨w2, z2⟩ := I.cell y c' e
        exact ⟨w2, z2.sameBut hs hcc⟩
    · obtain ⟨e, n, ne, nf, d⟩ := I.pin p hp
      refine ⟨(hs.2 p.1 ?_).trans e, n, ne, nf, d⟩
      intro q
      rw [q, hoc] at e
      have q' : oc = p.2 := Option.some.inj e
      exact d w' (by rw [← q']; exact hocd)
theorem store_ok {M : Model} {A : Around} {E : Value → Shared → Prop} {i : Nat} {x : Str} {v : V} {u : Value} {Q : Unit → Shared → Prop} (I : Inv X pins σ H s) (hN : X.N.Nodup) (hi : X.N[i]? = some x) (hx : Loc X.env.scope x) (r : RelV v u)
    (h : ∀ s', Inv X pins (σ.set i (some v)) H s' → Q () s') (hf : X.fn x = true ∨ X.env.scope.names.lookup x = some .local := by first | exact .inl rfl | exact .inr rfl | assumption) : wpAny M A (storeName X.env x u) Q E s :=
  store_ok2 I hN hi hx r (fun s' I' _ => h s' I') hf
theorem Inv.call' {s' : Shared} {ch : List Addr} (I : Inv X pins σ H s) (ho : s'.os = s.os) (u : Un (frs X.stack) ch H H' s.heap s'.heap) (hok : HOk X.prog X.w H' s'.heap) (hg : AllBare s'.gens)
    (hch : ∀ b ∈ ch, (b ∈ X.ex ∨ X.s₀.heap.objs.size ≤ b) ∧ b ≠ X.env.locals ∧ (∀ x c, X.env.cells.lookup x = some c → c ≠ b) ∧ ∀ p ∈ X.pn ++ pins, p.1 ≠ b) : Inv X pins σ H' s' := by
  obtain ⟨h', g', d', t', o'⟩ := s'
  have e : o' = s.os := ho
  subst e
  exact I.call (g' := g') (t' := t') (d' := d') u hok hg hch
end
abbrev XK := Value → Option Addr → Hp → Prop
abbrev St := List (Option V)
abbrev VK := V → Hp → Prop
abbrev TE := St → Hp → VK → Prop
abbrev TT := St → Hp → (Bool → Hp → Prop) → Prop
abbrev TA := St → Hp → (List V → Hp → Prop) → Prop
structure Ends where
  nx : St → Hp → Prop
  rt : VK
  bk : St → Hp → Prop := fun _ _ => False
  ct : St → Hp → Prop := fun _ _ => False
abbrev TS := Ends → St → Hp → Prop
def EP (X : Cx) (pins : List (Addr × Obj)) (σ : St) (Q : VK) (u : Value) (s' : Shared) : Prop := ∃ v H', Inv X pins σ H' s' ∧ RelV v u ∧ Q v H'
def TP (X : Cx) (pins : List (Addr × Obj)) (σ : St) (Q : Bool → Hp → Prop) (b : Bool) (s' : Shared) : Prop := ∃ H', Inv X pins σ H' s' ∧ Q b H'
def AP (X : Cx) (pins : List (Addr × Obj)) (σ : St) (Q : List V → Hp → Prop) (us : List Value) (s' : Shared) : Prop := ∃ vs H', Inv X pins σ H' s' ∧ Vals vs us ∧ Q vs H'
def SP (X : Cx) (pins : List (Addr × Obj)) (D : Ends) (f : Flow) (s' : Shared) : Prop :=
  match f with
  | .next => ∃ σ' H', Inv X pins σ' H' s' ∧ D.nx σ' H'
  | .brk => ∃ σ' H', Inv X pins σ' H' s' ∧ D.bk σ' H'
  | .cont => ∃ σ' H', Inv X pins σ' H' s' ∧ D.ct σ' H'
  | .ret u => ∃ v σ' H', Inv X pins σ' H' s' ∧ RelV v u ∧ D.rt v H'
def PE (X : Cx) (e : Expr) (t : TE) : Prop :=
  ∀ (pins : List (Addr × Obj)) (s : Shared) (σ : St) (H : Hp) (Q : VK), Inv X pins σ H s → t σ H Q → wpAny (model X.prog X.w) X.A (eval e X.env) (EP X pins σ Q) X.xe s
def PT (X : Cx) (e : Expr) (t : TT) : Prop :=
  ∀ (pins : List (Addr × Obj)) (s : Shared) (σ : St) (H : Hp) (Q : Bool → Hp → Prop), Inv X pins σ H s → t σ H Q → wpAny (model X.prog X.w) X.A (isTrue e X.env (eval e X.env)) (TP X pins σ Q) X.xe s
def PW (X : Cx) (e : Expr) (t : TT) : Prop :=
  ∀ (whole : Sem Value) (pins : List (Addr × Obj)) (s : Shared) (σ : St) (H : Hp) (Q : Bool → Hp → Prop), Inv X pins σ H s → t σ H Q → wpAny (model X.prog X.w) X.A (isTrue e X.env whole) (TP X pins σ Q) X.xe s
theorem PW.pt {X : Cx} {e : Expr} {t : TT} (h : PW X e t) : PT X e t := h _
def PA (X : Cx) (es : List Expr) (t : TA) : Prop :=
  ∀ (pos : Pos) (pins : List (Addr × Obj)) (s : Shared) (σ : St) (H : Hp) (Q : List V → Hp → Prop), Inv X pins σ H s → t σ H Q → wpAny (model X.prog X.w) X.A (spliced (backTo pos (starEach es X.env))) (AP X pins σ Q) X.xe s
def PS (X : Cx) (st : Stmt) (t : TS) : Prop :=
  ∀ (pins : List (Addr × Obj)) (s : Shared) (σ : St) (H : Hp) (D : Ends), Inv X pins σ H s → t D σ H → wpAny (model X.prog X.w) X.A (exec st X.env) (SP X pins D) X.xe s
def PSs (X : Cx) (st : List Stmt) (t : TS) : Prop :=
  ∀ (pins : List (Addr × Obj)) (s : Shared) (σ : St) (H : Hp) (D : Ends), Inv X pins σ H s → t D σ H → wpAny (model X.prog X.w) X.A (execs st X.env) (SP X pins D) X.xe s
theorem thn {α : Type} {t : Sem α} {Q Q' : α → Shared → Prop} {M : Model} {A : Around} {E : Value → Shared → Prop} {s : Shared} (h : wpAny M A t Q E s) (hQ : ∀ a s, Q a s → Q' a s) : wpAny M A t Q' E s := wpAny_mono h hQ fun _ _ x => x
end L2
namespace L2
open PySem PySem.Spec PyProof.Rows
section
variable {X : Cx}
theorem bin {a b : Expr} {ta tb : TE} (ha : PE X a ta) (hb : PE X b tb) {pins : List (Addr × Obj)} {s : Shared} {σ : St} {H : Hp} {R : V → V → Hp → Prop} (I : Inv X pins σ H s) (h : ta σ H fun x H1 => tb σ H1 fun y H2 => R x y H2)
    {α : Type} {Q : α → Shared → Prop} {f : Value → Value → Sem α}
    (hf : ∀ v u s2 x y H2, Inv X pins σ H2 s2 → RelV x v → RelV y u → R x y H2 → wpAny (model X.prog X.w) X.A (f v u) Q X.xe s2) :
    wpAny (model X.prog X.w) X.A (eval a X.env) (fun v s₁ => wpAny (model X.prog X.w) X.A (eval b X.env) (fun u s₂ => wpAny (model X.prog X.w) X.A (f v u) Q X.xe s₂) X.xe s₁) X.xe s := by
  refine thn (ha pins s σ H _ I h) fun v s1 ⟨x, H1, I1, r1, q1⟩ => ?_
  refine thn (hb pins s1 σ H1 _ I1 q1) fun u s2 ⟨y, H2, I2, r2, q2⟩ => ?_
  exact hf v u s2 x y H2 I2 r1 r2 q2
def tVar (i : Nat) : TE := fun σ H Q => ∃ v, σ[i]? = some (some v) ∧ Q v H
def tC (v : V) : TE := fun _ H Q => Q v H
theorem pe_var {i : Nat} {x : Str} {pos : Pos} (hN : X.N[i]? = some x) (hv : Vis X.env.scope x) (hd : (x == ("__debug__" : Str)) = false := by decide) (hcd : (x == ("__classdict__" : Str)) = false := by decide) : PE X (.Name x pos) (tVar i) := by
  intro pins s σ H Q I h
  obtain ⟨v, e, h⟩ := h
  obtain ⟨m, hn, hl⟩ := I.loc
  obtain ⟨u, r, l⟩ := hl i x v hN e hv
  have fin : EP X pins σ Q u s := ⟨v, H, I, r, h⟩
  rcases l with ⟨hk, hm⟩ | ⟨hk, c, hc, hcell⟩
  · exact wpAny_Name (wpAny_loadName_local I.ok.kind hk hn hm fin) hd
  · rcases hk with hk | hk
    · exact wpAny_Name (wpAny_loadName_cell I.ok.kind hk hc hcell fin) hd
    · exact wpAny_Name (wpAny_loadName_free I.ok.kind hk hc hcell fin hcd) hd
theorem pe_int {i j pos} : PE X (.Constant (.int i) j pos) (tC (.int i)) := fun _ _ _ H _ I h => wpAny_Constant_int ⟨.int i, H, I.tok _, ⟨_, rfl⟩, h⟩
theorem pe_str {x j pos} : PE X (.Constant (.str x) j pos) (tC (.str x)) := fun _ _ _ H _ I h => Calls.Constant_str ⟨.str x, H, I.tok _, ⟨_, rfl⟩, h⟩
def Gl (X : Cx) (x : Str) : Prop := X.env.kindOf x = some .globalImplicit
theorem ld_glob {E : Value → Shared → Prop} {pins : List (Addr × Obj)} {s : Shared} {σ : St} {H : Hp} {x : Str} {u : Value} {pos : Pos} {Q : Value → Shared → Prop} (I : Inv X pins σ H s) (hg : Gl X x) (hm : X.mg x = some u) (h : Q u s)
    (hd : (x == ("__debug__" : Str)) = false := by decide) : wpAny (model X.prog X.w) X.A (eval (.Name x pos) X.env) Q E s :=
  Calls.Name_function_global I.ok.kind hg (Calls.loadGlobal_global (by rw [I.ok.glob]; exact I.mod.glob.keeps I.bk) hm h) hd
theorem ld_blt {E : Value → Shared → Prop} {pins : List (Addr × Obj)} {s : Shared} {σ : St} {H : Hp} {x : Str} {u : Value} {pos : Pos} {Q : Value → Shared → Prop} (I : Inv X pins σ H s) (hg : Gl X x) (hm : X.mg x = none) (hv : bootBuiltins x = some u) (h : Q u s)
    (hn : x ≠ "__name__" := by decide) (hd : (x == ("__debug__" : Str)) = false := by decide) : wpAny (model X.prog X.w) X.A (eval (.Name x pos) X.env) Q E s := by
  obtain ⟨mb, h1, h2⟩ := I.mod.blt
  exact Calls.Name_function_global I.ok.kind hg (Calls.loadGlobal_builtin (by rw [I.ok.glob]; exact I.mod.glob.keeps I.bk) hm (by rw [I.ok.blt]; exact h1.keeps I.bk) ((h2 x hn).trans hv) h) hd
theorem pe_glob {x : Str} {v : V} {u : Value} {pos : Pos} (hg : Gl X x) (hm : X.mg x = some u) (r : RelV v u) (hd : (x == ("__debug__" : Str)) = false := by decide) : PE X (.Name x pos) (tC v) :=
  fun _ _ _ H _ I h => ld_glob I hg hm ⟨v, H, I, r, h⟩ hd
theorem pe_bltn {x : Str} {v : V} {u : Value} {pos : Pos} (hg : Gl X x) (hm : X.mg x = none) (hv : bootBuiltins x = some u) (r : RelV v u) (hn : x ≠ "__name__" := by decide) (hd : (x == ("__debug__" : Str)) = false := by decide) : PE X (.Name x pos) (tC v) :=
  fun _ _ _ H _ I h => ld_blt I hg hm hv ⟨v, H, I, r, h⟩ hn hd
variable {a b : Expr} {ta tb : TE} {pos : Pos}
def PC (X : Cx) (op : CmpOp) (a b : Expr) (t : TE) : Prop :=
  ∀ (pins : List (Addr × Obj)) (s : Shared) (σ : St) (H : Hp) (Q : VK), Inv X pins σ H s → t σ H Q →
    wpAny (model X.prog X.w) X.A (eval a X.env) (fun v s₁ => wpAny (model X.prog X.w) X.A (eval b X.env) (fun u s₂ => wpAny (model X.prog X.w) X.A (compareOp op v u) (EP X pins σ Q) X.xe s₂) X.xe s₁) X.xe s
def tB (t : TE) : TT := fun σ H Q => t σ H fun x H1 => ∃ c, x = .bl c ∧ Q c H1
theorem pt_cmp {op : CmpOp} {t : TE} (h : PC X op a b t) (h1 : behindInMarks op b = false := by first | exact nobehind _ (by decide) (by decide) | rfl) : PT X (.Compare a [op] [b] pos) (tB t) := by
  intro pins s σ H Q I hw
  refine wpAny_isTrue_Compare1 (thn (h pins s σ H _ I hw) fun v s1 h1 => thn h1 fun u s2 h2 => thn h2 fun c s3 ⟨x, H1, I1, r1, q1⟩ => ?_) h1
  obtain ⟨d, rfl, q⟩ := q1
  cases r1
  exact wpAny_truthy_bool ⟨H1, I1, q⟩
theorem pt_val {e : Expr} {t : TE} (h : PE X e t) (he : ∀ whole, isTrue e X.env whole = (do let v ← whole; standAt e.pos; holding [v] (truthy v)) := by intro _; rfl) : PT X e (tB t) := by
  intro pins s σ H Q I hw
  refine isTrue_plain (thn (h pins s σ H _ I hw) fun v s1 ⟨x, H1, I1, r1, q1⟩ => ?_) (he _)
  obtain ⟨d, rfl, q⟩ := q1
  cases r1
  exact wpAny_truthy_bool ⟨H1, I1, q⟩
variable {tA tB' : TT} {rest : List Expr}
def tAnd (t u : TT) : TT := fun σ H Q => t σ H fun c H1 => if c = true then u σ H1 Q else Q false H1
def tOr (t u : TT) : TT := fun σ H Q => t σ H fun c H1 => if c = true then Q true H1 else u σ H1 Q
def tNot (t : TT) : TT := fun σ H Q => t σ H fun c H1 => Q (!c) H1
theorem pw_and1 (ha : PT X a tA) : PW X (.BoolOp .And [a] pos) tA := by
  intro wh pins s σ H Q I h
  refine isTrue_and (thn (ha pins s σ H Q I h) fun c s1 e => ?_)
  cases c with
  | true => exact isTrue_and_nil e
  | false => exact e
theorem pw_or1 (ha : PT X a tA) : PW X (.BoolOp .Or [a] pos) tA := by
  intro wh pins s σ H Q I h
  refine isTrue_or (thn (ha pins s σ H Q I h) fun c s1 e => ?_)
  cases c with
  | false => exact isTrue_or_nil e
  | true => exact e
theorem pw_and (ha : PT X a tA) (hb : PW X (.BoolOp .And (b :: rest) pos) tB') : PW X (.BoolOp .And (a :: b :: rest) pos) (tAnd tA tB') := by
  intro wh pins s σ H Q I h
  refine isTrue_and (thn (ha pins s σ H _ I h) fun c s1 ⟨H1, I1, q1⟩ => ?_)
  cases c with
  | true => exact hb wh pins s1 σ H1 Q I1 q1
  | false => exact ⟨H1, I1, q1⟩
theorem pw_or (ha : PT X a tA) (hb : PW X (.BoolOp .Or (b :: rest) pos) tB') : PW X (.BoolOp .Or (a :: b :: rest) pos) (tOr tA tB') := by
  intro wh pins s σ H Q I h
  refine isTrue_or (thn (ha pins s σ H _ I h) fun c s1 ⟨H1, I1, q1⟩ => ?_)
  cases c with
  | true => exact ⟨H1, I1, q1⟩
  | false => exact hb wh pins s1 σ H1 Q I1 q1
theorem pt_not (ha : PT X a tA) : PT X (.UnaryOp .Not a pos) (tNot tA) := by
  intro pins s σ H Q I h
  exact isTrue_not (ha pins s σ H (fun c H1 => Q (!c) H1) I h)
def tAndV (ta tb : TE) : TE := fun σ H Q => ta σ H fun x H1 => ∃ c, x = .bl c ∧ if c = true then tb σ H1 Q else Q (.bl false) H1
def tNotV (ta : TE) : TE := fun σ H Q => ta σ H fun x H1 => ∃ c, x = .bl c ∧ Q (.bl (!c)) H1
theorem pe_one {op} {t : TE} (h : PE X a t) : PE X (.BoolOp op [a] pos) t := fun pins s σ H Q I hw => BoolOp_one (h pins s σ H Q I hw)
theorem pe_and (ha : PE X a ta) (hb : PE X (.BoolOp .And (b :: rest) pos) tb) : PE X (.BoolOp .And (a :: b :: rest) pos) (tAndV ta tb) := by
  intro pins s σ H Q I h
  refine BoolOp_and (thn (ha pins s σ H _ I h) fun v s1 ⟨x, H1, I1, r1, q1⟩ => ?_)
  obtain ⟨c, rfl, q1⟩ := q1
  cases r1
  refine wpAny_truthy_bool ?_
  cases c with
  | true => exact hb pins s1 σ H1 Q I1 q1
  | false => exact ⟨.bl false, H1, I1, rfl, q1⟩
theorem pe_not (ha : PE X a ta) : PE X (.UnaryOp .Not a pos) (tNotV ta) := by
  intro pins s σ H Q I h
  refine UnaryOp_ (thn (ha pins s σ H _ I h) fun v s1 ⟨x, H1, I1, r1, q1⟩ => ?_)
  obtain ⟨c, rfl, q1⟩ := q1
  cases r1
  exact not_of (wpAny_truthy_bool ⟨.bl (!c), H1, I1, rfl, q1⟩)
def tIf (t : TT) (ta tb : TE) : TE := fun σ H Q => t σ H fun c H1 => if c = true then ta σ H1 Q else tb σ H1 Q
theorem pe_ifExp {c : Expr} (hc : PT X c tA) (ha : PE X a ta) (hb : PE X b tb) : PE X (.IfExp c a b pos) (tIf tA ta tb) := by
  intro pins s σ H Q I h
  refine wpAny_IfExp (thn (hc pins s σ H _ I h) fun d s1 ⟨H1, I1, q1⟩ => ?_)
  cases d with
  | true => exact ha pins s1 σ H1 Q I1 q1
  | false => exact hb pins s1 σ H1 Q I1 q1
end
end L2
namespace L2
open PySem PySem.Spec PyProof.Rows
def SqL (K : PySem.W.Frag) (H : Hp) (a : Addr) (xs : List V) : Prop :=
  Rd H a (.lst xs) ∨
    ∃ (o : Obj) (its : Array Value) (n : Nat), K.lookup a = some o ∧ o.cls = .type "list" ∧ o.dict = none ∧ o.data = .seq its n ∧ its.size ≤ sizeLine ∧ Vals xs its.toList
def SqT (K : PySem.W.Frag) (H : Hp) (a : Addr) (xs : List V) : Prop :=
  Rd H a (.tup xs) ∨
    ∃ (o : Obj) (its : Array Value) (n : Nat), K.lookup a = some o ∧ o.cls = .type "tuple" ∧ o.data = .seq its n ∧ its.size ≤ sizeLine ∧ Vals xs its.toList
def absV : Value → Option V
  | .none => some .non
  | .bool b => some (.bl b)
  | .int i _ => some (.int i)
  | .str x _ => some (.str x)
  | .bytes b _ => some (.byt b)
  | .float b _ => some (.flt b)
  | .ref a => some (.ref a)
  | .type n => some (.ty n)
  | _ => none
theorem RelV.abs {x : V} {u : Value} (r : RelV x u) : absV u = some x := by
  cases x with
  | non => cases r; rfl
  | bl _ => cases r; rfl
  | int _ => obtain ⟨t, rfl⟩ := r; rfl
  | str _ => obtain ⟨t, rfl⟩ := r; rfl
  | byt _ => obtain ⟨t, rfl⟩ := r; rfl
  | flt _ => obtain ⟨t, rfl⟩ := r; rfl
  | ref _ => cases r; rfl
  | ty _ => cases r; rfl
theorem RelV.inj {x y : V} {u : Value} (r : RelV x u) (q : RelV y u) : x = y := Option.some.inj (r.abs.symm.trans q.abs)
theorem Vals.inj : ∀ {xs ys : List V} {us : List Value}, Vals xs us → Vals ys us → xs = ys
  | _, _, _, .nil, .nil => rfl
  | _, _, _, .cons r t, .cons r' t' => by rw [r.inj r', Vals.inj t t']
section
variable {X : Cx} {pins : List (Addr × Obj)} {σ : St} {H : Hp} {s : Shared} {a : Addr} {xs ys : List V}
theorem SqL.of {K : PySem.W.Frag} (h : H a = some (.lst xs)) : SqL K H a xs := .inl (.inl h)
theorem SqT.of {K : PySem.W.Frag} (h : H a = some (.tup xs)) : SqT K H a xs := .inl (.inl h)
theorem Inv.list (I : Inv X pins σ H s) (h : SqL X.K H a xs) : ∃ its : List Value, Vals xs its ∧ PlainL s.heap a its.toArray ∧ xs.length ≤ sizeLine := by
  rcases h with h | ⟨o, its, n, hk, hc, hd, hs, hz, r⟩
  · obtain ⟨z, its, n, r, e⟩ := h.ok I.hok
    exact ⟨its, r, ⟨_, n, e, rfl, rfl, rfl⟩, z⟩
  · refine ⟨its.toList, r, ⟨o, n, I.kIn a o hk, hc, hd, by simpa using hs⟩, ?_⟩
    have e := r.length
    simp only [Array.length_toList] at e
    omega
theorem Inv.tuple (I : Inv X pins σ H s) (h : SqT X.K H a xs) : ∃ its : List Value, Vals xs its ∧ IsTup s.heap a its.toArray ∧ xs.length ≤ sizeLine := by
  rcases h with h | ⟨o, its, n, hk, hc, hs, hz, r⟩
  · obtain ⟨z, its, r, p⟩ := h.ok I.hok
    exact ⟨its, r, p, z⟩
  · refine ⟨its.toList, r, ⟨o, I.kIn a o hk, hc, n, by simpa using hs⟩, ?_⟩
    have e := r.length
    simp only [Array.length_toList] at e
    omega
theorem Inv.list_inj (I : Inv X pins σ H s) (h : SqL X.K H a xs) (h' : SqL X.K H a ys) : xs = ys := by
  obtain ⟨its, r, ⟨o, n, e, _, _, d⟩, _⟩ := I.list h
  obtain ⟨its', r', ⟨o', n', e', _, _, d'⟩, _⟩ := I.list h'
  rw [e] at e'; cases e'
  rw [d] at d'
  injection d' with d1 _
  have : its = its' := by simpa using congrArg Array.toList d1
  subst this
  exact r.inj r'
theorem Inv.tuple_inj (I : Inv X pins σ H s) (h : SqT X.K H a xs) (h' : SqT X.K H a ys) : xs = ys := by
  obtain ⟨its, r, ⟨o, e, _, n, d⟩, _⟩ := I.tuple h
  obtain ⟨its', r', ⟨o', e', _, n', d'⟩, _⟩ := I.tuple h'
  rw [e] at e'; cases e'
  rw [d] at d'
  injection d' with d1 _
  have : its = its' := by simpa using congrArg Array.toList d1
  subst this
  exact r.inj r'
end
abbrev Cx.wish (X : Cx) (E : Value → Shared → Prop) : Cx := { X with xe := E }
abbrev Cx.nox (X : Cx) : Cx := X.wish fun _ _ => False
theorem Cx.Ok.wish {X : Cx} (ok : X.Ok) (E : Value → Shared → Prop) : (X.wish E).Ok :=
  ⟨ok.mod, ok.kind, ok.glob, ok.blt, ok.above, ok.inj, ok.has, ok.cab, ok.hd, ok.frames, ok.stk, ok.exf, ok.bs, ok.bsz, ok.noex, ok.exfs, ok.funs, ok.frf⟩
theorem Cx.Ok.unwish {X : Cx} {E : Value → Shared → Prop} (ok : (X.wish E).Ok) : X.Ok :=
  ⟨ok.mod, ok.kind, ok.glob, ok.blt, ok.above, ok.inj, ok.has, ok.cab, ok.hd, ok.frames, ok.stk, ok.exf, ok.bs, ok.bsz, ok.noex, ok.exfs, ok.funs, ok.frf⟩
section
variable {X : Cx} {pins : List (Addr × Obj)} {σ : St} {H : Hp} {s : Shared} {E : Value → Shared → Prop}
theorem Inv.wish (I : Inv X pins σ H s) (E : Value → Shared → Prop) : Inv (X.wish E) pins σ H s := ⟨I.ok.wish E, I.os, I.bare, I.base, I.loc, I.cell, I.free, I.freeC, I.pin, I.hok, I.len⟩
theorem Inv.unwish (I : Inv (X.wish E) pins σ H s) : Inv X pins σ H s := ⟨I.ok.unwish, I.os, I.bare, I.base, I.loc, I.cell, I.free, I.freeC, I.pin, I.hok, I.len⟩
theorem SP.unwish {D : Ends} {f : Flow} {s' : Shared} (h : SP (X.wish E) pins D f s') : SP X pins D f s' := by
  cases f with
  | next => obtain ⟨σ', H', I, q⟩ := h; exact ⟨σ', H', I.unwish, q⟩
  | brk => obtain ⟨σ', H', I, q⟩ := h; exact ⟨σ', H', I.unwish, q⟩
  | cont => obtain ⟨σ', H', I, q⟩ := h; exact ⟨σ', H', I.unwish, q⟩
  | ret u => obtain ⟨v, σ', H', I, r, q⟩ := h; exact ⟨v, σ', H', I.unwish, r, q⟩
theorem PSs.nox {st : List Stmt} {t : TS} (h : PSs X.nox st t) : PSs X st t := fun pins s σ H D I hw =>
  wpAny_mono (h pins s σ H D (I.wish _) hw) (fun _ _ q => q.unwish) fun _ _ z => False.elim z
end
section
variable {X : Cx} {st : Stmt} {rest : List Stmt} {t u : TS} {e : Expr} {te : TE} {pos : Pos}
def tNext : TS := fun D σ H => D.nx σ H
def tSeq (t u : TS) : TS := fun D σ H => t { D with nx := u D } σ H
theorem pss_nil : PSs X [] tNext := fun _ _ σ H _ I h => wpAny_execs_nil ⟨σ, H, I, h⟩
theorem pss_cons (h1 : PS X st t) (h2 : PSs X rest u) : PSs X (st :: rest) (tSeq t u) := by
  intro pins s σ H D I h
  refine wpAny_execs_cons (thn (h1 pins s σ H { D with nx := u D } I h) fun f s1 q => ?_)
  cases f with
  | next =>
    obtain ⟨σ', H', I', q⟩ := q
    exact h2 pins s1 σ' H' D I' q
  | ret v => exact q
  | brk => exact q
  | cont => exact q
theorem Inv.quiet {pins : List (Addr × Obj)} {σ : St} {H : Hp} {s : Shared} (I : Inv X pins σ H s) : interactive X.env = false := by simp [interactive, I.ok.kind]
def tDrop (te : TE) : TS := fun D σ H => te σ H fun _ H1 => D.nx σ H1
theorem ps_expr (he : PE X e te) (hs : swapsWith e none pos.line X.env = pure false := by rfl) : PS X (.Expr e pos) (tDrop te) := by
  intro pins s σ H D I h
  exact wpAny_Expr_any (thn (he pins s σ H _ I h) fun v s1 ⟨x, H1, I1, r1, q1⟩ => ⟨σ, H1, I1, q1⟩) I.quiet hs
def tRet (te : TE) : TS := fun D σ H => te σ H D.rt
theorem ps_ret (he : PE X e te) : PS X (.Return (some e) pos) (tRet te) := by
  intro pins s σ H D I h
  exact wpAny_Return_some (thn (he pins s σ H _ I h) fun v s1 ⟨x, H1, I1, r1, q1⟩ => ⟨x, σ, H1, I1, r1, q1⟩)
def tIfS (c : TT) (t u : TS) : TS := fun D σ H => c σ H fun b H1 => if b = true then t D σ H1 else u D σ H1
theorem ps_if {c : Expr} {a b : List Stmt} {tc : TT} (hc : PT X c tc) (ha : PSs X a t) (hb : PSs X b u) : PS X (.If c a b pos) (tIfS tc t u) := by
  intro pins s σ H D I h
  refine wpAny_If (thn (hc pins s σ H _ I h) fun d s1 ⟨H1, I1, q1⟩ => ?_)
  cases d with
  | true => exact ha pins s1 σ H1 D I1 q1
  | false => exact hb pins s1 σ H1 D I1 q1
def tNever : TS := fun _ _ _ => False
theorem pss_never {sts : List Stmt} : PSs X sts tNever := fun _ _ _ _ _ _ h => h.elim
end
abbrev TG := V → St → Hp → (St → Hp → Prop) → Prop
def PG (X : Cx) (target : Expr) (t : TG) : Prop :=
  ∀ (pins : List (Addr × Obj)) (s : Shared) (σ : St) (H : Hp) (v : V) (u : Value) (Q : St → Hp → Prop), Inv X pins σ H s → RelV v u → t v σ H Q →
    wpAny (model X.prog X.w) X.A (assign target X.env u) (fun _ s' => ∃ σ' H', Inv X pins σ' H' s' ∧ Q σ' H') X.xe s
section
variable {X : Cx} {pos : Pos}
def gName (i : Nat) : TG := fun v σ H Q => Q (σ.set i (some v)) H
theorem pg_name {i : Nat} {x : Str} (hN : X.N.Nodup) (hi : X.N[i]? = some x) (hx : Loc X.env.scope x) (hf : X.fn x = true ∨ X.env.scope.names.lookup x = some .local := by first | exact .inl rfl | exact .inr rfl | assumption) : PG X (.Name x pos) (gName i) := by
  intro pins s σ H v u Q I r h
  exact wpAny_assign_Name (store_ok I hN hi hx r (fun s' I' => ⟨_, H, I', h⟩) hf)
def tAsg (te : TE) (g : TG) : TS := fun D σ H => te σ H fun x H1 => g x σ H1 D.nx
theorem ps_set {i : Nat} {x : Str} {e : Expr} {te : TE} {pos' : Pos} (hN : X.N.Nodup) (hi : X.N[i]? = some x) (hx : Loc X.env.scope x) (he : PE X e te) (hs : swapsWith e (some (.Name x pos')) pos.line X.env = pure false := by rfl) (hf : X.fn x = true ∨ X.env.scope.names.lookup x = some .local := by first | exact .inl rfl | exact .inr rfl | assumption) :
    PS X (.Assign [.Name x pos'] e pos) (tAsg te (gName i)) := by
  intro pins s σ H D I h
  refine wpAny_Assign_Name (thn (he pins s σ H _ I h) fun v s1 ⟨y, H1, I1, r1, q1⟩ => ?_) hs
  exact store_ok I1 hN hi hx r1 (fun s2 I2 => ⟨_, H1, I2, q1⟩) hf
end
section
variable {X : Cx} {pos : Pos}
def tWhile (c : TT) (tb : TS) : TS := fun D σ H => ∃ W : Nat → St → Hp → Prop, (∃ m, W m σ H) ∧ ∀ m σ H, W m σ H →
  c σ H fun b H1 => if b = true then ∃ N : St → Hp → Prop, (∀ σ' H', N σ' H' → ∃ m', m' < m ∧ W m' σ' H') ∧ tb { D with nx := N, ct := N, bk := D.nx } σ H1 else D.nx σ H1
theorem ps_while {c : Expr} {body : List Stmt} {tc : TT} {tb : TS} (hp : PassesOwn (model X.prog X.w) X.A X.env X.xe) (hc : PT X c tc) (hb : PSs X body tb) : PS X (.While c body [] pos) (tWhile tc tb) := by
  intro pins s σ H D I h
  obtain ⟨W, ⟨m0, w0⟩, turn⟩ := h
  refine wpAny_While (codeAny_whileLoop (fun n s' => ∃ σ' H', Inv X pins σ' H' s' ∧ W n σ' H') ?_ m0 ⟨σ, H, I, w0⟩)
  rintro n s1 ⟨σ1, H1, I1, w1⟩
  refine wpAny_passesOwn hp (thn (hc pins s1 σ1 H1 _ I1 (turn n σ1 H1 w1)) fun b s2 ⟨H2, I2, q2⟩ => ?_)
  cases b with
  | true =>
    obtain ⟨N, hN, q2⟩ := q2
    rw [if_pos rfl]
    refine wpAny_passesOwn hp (thn (hb pins s2 σ1 H2 _ I2 q2) fun f s3 q3 => ?_)
    cases f with
    | next =>
      obtain ⟨σ3, H3, I3, n3⟩ := q3
      obtain ⟨m', hm, w3⟩ := hN σ3 H3 n3
      exact ⟨m', hm, σ3, H3, I3, w3⟩
    | cont =>
      obtain ⟨σ3, H3, I3, n3⟩ := q3
      obtain ⟨m', hm, w3⟩ := hN σ3 H3 n3
      exact ⟨m', hm, σ3, H3, I3, w3⟩
    | brk => exact q3
    | ret v => exact q3
  | false =>
    rw [if_neg Bool.false_ne_true]
    exact wpAny_execs_nil ⟨σ1, H2, I2, q2⟩
end
structure It where
  go : Nat → Hp → Prop
  yld : Nat → Hp → V → Hp → Prop
  stop : Nat → Hp → Prop
def FpOk (X : Cx) (pins : List (Addr × Obj)) (H : Hp) (b : Addr) : Prop :=
  H b = none ∧ b ≠ X.env.locals ∧ b ∉ X.fs ∧ (b ∈ X.ex ∨ X.s₀.heap.objs.size ≤ b) ∧ (∀ x c, X.env.cells.lookup x = some c → c ≠ b) ∧ ∀ p ∈ X.pn ++ pins, p.1 ≠ b
theorem Inv.fpOk {X : Cx} {pins : List (Addr × Obj)} {σ : St} {H H' : Hp} {s : Shared} {b : Addr} (I : Inv X pins σ H s) (hb : s.heap.objs.size ≤ b) (hn : H' b = none) : FpOk X pins H' b := by
  refine ⟨hn, Nat.ne_of_gt (Nat.lt_of_lt_of_le I.lt hb), I.nofs hb, .inr (Nat.le_trans I.sz hb), fun x c e z => ?_, fun p hp z => ?_⟩
  · obtain ⟨v, q⟩ := I.cell x c e
    exact absurd (Nat.lt_of_lt_of_le q.lt (by rw [z]; exact hb)) (Nat.lt_irrefl _)
  · exact absurd (Nat.lt_of_lt_of_le (Heap.lt_size (I.pin p hp).1) (by rw [z]; exact hb)) (Nat.lt_irrefl _)
structure Turn (P : Program) (w : World) (K : PySem.W.Frag) (tg : Expr) (J : It) (fp : List Addr) (it : Addr) (tn : Nat → Heap → Prop) : Prop where
  mem : it ∈ fp
  obj : ∀ i h, tn i h → ∀ b ∈ fp, ∃ o, h.get? b = some o ∧ ∀ v, o.data ≠ .cell v
  keep : ∀ i h h', tn i h → (∀ b ∈ fp, ∀ o, h.get? b = some o → h'.get? b = some o) → tn i h'
  item : ∀ (X : Cx), X.prog = P → X.w = w → X.K = K → X.calm = true → ∀ (i : Nat) (pins : List (Addr × Obj)) (s : Shared) (σ : St) (H : Hp) (E : Value → Shared → Prop), Inv X pins σ H s → (∀ b ∈ fp, FpOk X pins H b) → tn i s.heap → J.go i H →
    wpAny (model P w) X.A (pyNext (.ref it)) (fun r s1 => ∃ u, r = some u ∧
      wpAny (model P w) X.A (letOwnedTupleGo tg (.ref it) u) (fun _ s2 => ∃ x H', Inv X pins σ H' s2 ∧ RelV x u ∧ J.yld i H x H' ∧ tn (i + 1) s2.heap ∧ ∀ b ∈ fp, H' b = none) E s1) E s
  done : ∀ (X : Cx), X.prog = P → X.w = w → X.K = K → X.calm = true → ∀ (i : Nat) (pins : List (Addr × Obj)) (s : Shared) (σ : St) (H : Hp) (E : Value → Shared → Prop), Inv X pins σ H s → (∀ b ∈ fp, FpOk X pins H b) → tn i s.heap → J.stop i H →
    wpAny (model P w) X.A (pyNext (.ref it)) (fun r s1 => r = none ∧ Inv X pins σ H s1) E s
  self : ∀ (A : Around) (i : Nat) (s : Shared) (Q : Value → Shared → Prop) (E : Value → Shared → Prop), tn i s.heap → Q (.ref it) s → wpAny (model P w) A (pyIter (.ref it)) Q E s
abbrev TI := St → Hp → (It → Hp → Prop) → Prop
def PIE (X : Cx) (pins : List (Addr × Obj)) (σ : St) (tg : Expr) (R : It → Hp → Prop) (itv : Value) (s2 : Shared) : Prop :=
  ∃ (it : Addr) (fp : List Addr) (tn : Nat → Heap → Prop) (J : It) (H' : Hp), itv = .ref it ∧ Inv X pins σ H' s2 ∧ Turn X.prog X.w X.K tg J fp it tn ∧ tn 0 s2.heap ∧ (∀ b ∈ fp, FpOk X pins H' b) ∧ R J H'
def PI (X : Cx) (tg iter : Expr) (wi : TI) : Prop :=
  ∀ (pins : List (Addr × Obj)) (s : Shared) (σ : St) (H : Hp) (R : It → Hp → Prop), Inv X pins σ H s → wi σ H R →
    wpAny (model X.prog X.w) X.A (eval iter X.env) (fun v s1 => wpAny (model X.prog X.w) X.A (pyIter v) (PIE X pins σ tg R) X.xe s1) X.xe s
theorem go_of {M : Model} {A : Around} {E : Value → Shared → Prop} {s : Shared} {tg : Expr} {it : Addr} {u : Value} {o : Obj} {n : String} {vs : Array Value} {Q : Unit → Shared → Prop} (ho : s.heap.get? it = some o) (hc : o.cls = .type n) (hd : o.data = .fields vs)
    (hn : ["enumerate", "zip", "dict_itemiterator", "dict_reverseitemiterator", "odict_iterator", "itertools.zip_longest", "itertools.pairwise"].contains n = false) (hQ : Q () s) : wpAny M A (letOwnedTupleGo tg (.ref it) u) Q E s := by
  unfold letOwnedTupleGo
  cases tg <;> first
    | exact wpAny_pure hQ
    | (cases u <;> first
        | exact wpAny_pure hQ
        | (refine wpAny_bind (wpAny_load ho ?_)
           rw [hc, hd]
           show wpAny M A (if (["enumerate", "zip", "dict_itemiterator", "dict_reverseitemiterator", "odict_iterator", "itertools.zip_longest", "itertools.pairwise"].contains n && vs[0]? == some (rawInt _)) = true then _ else _) Q E s
           rw [if_neg (by intro h; rw [hn, Bool.false_and] at h; cases h)]
           exact wpAny_pure hQ))
def Itl (K : PySem.W.Frag) (a : Addr) : It :=
  ⟨fun i H => ∃ xs x, SqL K H a xs ∧ xs[i]? = some x, fun i H x H' => H' = H ∧ ∀ xs, SqL K H a xs → xs[i]? = some x, fun i H => ∃ xs, SqL K H a xs ∧ xs.length ≤ i⟩
def Itt (K : PySem.W.Frag) (a : Addr) : It :=
  ⟨fun i H => ∃ xs x, SqT K H a xs ∧ xs[i]? = some x, fun i H x H' => H' = H ∧ ∀ xs, SqT K H a xs → xs[i]? = some x, fun i H => ∃ xs, SqT K H a xs ∧ xs.length ≤ i⟩
def Itr (lo : Int) (n : Nat) : It := ⟨fun i _ => i < n, fun i H x H' => H' = H ∧ x = .int (lo + i), fun i _ => n ≤ i⟩
theorem turn_list {P : Program} {w : World} {K : PySem.W.Frag} {tg : Expr} (a it : Addr) : Turn P w K tg (Itl K a) [it] it (fun i h => h.IsListIter it a i) where
  mem := by simp
  obj := fun i h st b hb => by
    have e : b = it := by simpa using hb
    subst e
    obtain ⟨o, e, c, d⟩ := st
    exact ⟨o, e, fun v z => by rw [d] at z; cases z⟩
  keep := fun i h h' st k => st.at fun o e => k it (by simp) o e
  item := by
    intro X hP hw hK hc i pins s σ H E I hf st hg
    subst hP hw hK
    obtain ⟨xs, x, hq, hx⟩ := hg
    obtain ⟨its, rv, p, hz⟩ := I.list hq
    obtain ⟨u, hu, ru⟩ := rv.get hx
    obtain ⟨f0, f1, f2, f3, f4, f5⟩ := hf it (by simp)
    refine wpAny_pyNext_list_item st p.isList (x := u) (by simpa using hu) fun h' st' sb => ?_
    have I1 : Inv X pins σ H { s with heap := h' } := I.turned (t' := s.toks) (fun b o hb e => (sb.2 b hb).trans e) f0 f1 f3 f4 f5
    obtain ⟨o, e, c, d⟩ := id st'
    exact ⟨u, rfl, go_of (s := { s with heap := h' }) e c d (by decide) ⟨x, H, I1, ru, ⟨rfl, fun ys hy => by rw [I.list_inj hy hq]; exact hx⟩, st', fun b hb => (hf b hb).1⟩⟩
  done := by
    intro X hP hw hK hc i pins s σ H E I hf st hg
    subst hP hw hK
    obtain ⟨xs, hq, hx⟩ := hg
    obtain ⟨its, rv, p, hz⟩ := I.list hq
    obtain ⟨f0, f1, f2, f3, f4, f5⟩ := hf it (by simp)
    have hl := rv.length
    exact wpAny_pyNext_list_end (I.ok.hd hc) st p.isList (by simp; omega) fun h' eb => ⟨rfl, I.turned (t' := s.toks) (fun b o hb e => eb b o hb e) f0 f1 f3 f4 f5⟩
  self := fun _ _ _ _ _ st h => wpAny_pyIter_listiter st h
theorem turn_tuple {P : Program} {w : World} {K : PySem.W.Frag} {tg : Expr} (a it : Addr) : Turn P w K tg (Itt K a) [it] it (fun i h => h.IsTupleIter it a i) where
  mem := by simp
  obj := fun i h st b hb => by
    have e : b = it := by simpa using hb
    subst e
    obtain ⟨o, e, c, d⟩ := st
    exact ⟨o, e, fun v z => by rw [d] at z; cases z⟩
  keep := fun i h h' st k => st.at fun o e => k it (by simp) o e
  item := by
    intro X hP hw hK hc i pins s σ H E I hf st hg
    subst hP hw hK
    obtain ⟨xs, x, hq, hx⟩ := hg
    obtain ⟨its, rv, p, hz⟩ := I.tuple hq
    obtain ⟨u, hu, ru⟩ := rv.get hx
    obtain ⟨f0, f1, f2, f3, f4, f5⟩ := hf it (by simp)
    refine wpAny_pyNext_tuple_item st (show s.heap.IsTuple a its.toArray from p) (x := u) (by simpa using hu) fun h' st' sb => ?_
    have I1 : Inv X pins σ H { s with heap := h' } := I.turned (t' := s.toks) (fun b o hb e => (sb.2 b hb).trans e) f0 f1 f3 f4 f5
    obtain ⟨o, e, c, d⟩ := id st'
    exact ⟨u, rfl, go_of (s := { s with heap := h' }) e c d (by decide) ⟨x, H, I1, ru, ⟨rfl, fun ys hy => by rw [I.tuple_inj hy hq]; exact hx⟩, st', fun b hb => (hf b hb).1⟩⟩
  done := by
    intro X hP hw hK hc i pins s σ H E I hf st hg
    subst hP hw hK
    obtain ⟨xs, hq, hx⟩ := hg
    obtain ⟨its, rv, p, hz⟩ := I.tuple hq
    obtain ⟨f0, f1, f2, f3, f4, f5⟩ := hf it (by simp)
    have hl := rv.length
    exact wpAny_pyNext_tuple_end (I.ok.hd hc) st (show s.heap.IsTuple a its.toArray from p) (by simp; omega) fun h' eb => ⟨rfl, I.turned (t' := s.toks) (fun b o hb e => eb b o hb e) f0 f1 f3 f4 f5⟩
  self := fun _ _ _ _ _ st h => wpAny_pyIter_tupleiter st h
theorem turn_range {P : Program} {w : World} {K : PySem.W.Frag} {tg : Expr} (it : Addr) (lo : Int) (n : Nat) : Turn P w K tg (Itr lo n) [it] it (fun i h => IsRangeIter h it (lo + (i : Nat) * 1) ((n : Int) - (i : Nat)) 1) where
  mem := by simp
  obj := fun i h st b hb => by
    have e : b = it := by simpa using hb
    subst e
    exact ⟨_, st, fun v z => by
      have z' : Data.fields _ = Data.cell v := z
      cases z'⟩
  keep := fun i h h' st k => k it (by simp) _ st
  item := by
    intro X hP hw hK hc i pins s σ H E I hf st hg
    subst hP hw hK
    obtain ⟨f0, f1, f2, f3, f4, f5⟩ := hf it (by simp)
    have W := Walks.range (prog := X.prog) (w := X.w) (I.ok.hd hc) it lo 1 n
    refine W.item i s _ _ hg st fun v h' tk hv st' kk => ?_
    obtain ⟨t, rfl⟩ := hv
    have I1 : Inv X pins σ H { s with heap := h', toks := tk } := I.turned (fun b o hb e => kk b o (by simpa using hb) e) f0 f1 f3 f4 f5
    refine ⟨_, rfl, go_of (s := { s with heap := h', toks := tk }) (n := "range_iterator") st' rfl rfl (by decide) ⟨.int (lo + i), H, I1, ⟨t, ?_⟩, ⟨rfl, rfl⟩, st', fun b hb => (hf b hb).1⟩⟩
    rw [Int.mul_one]
  done := by
    intro X hP hw hK hc i pins s σ H E I hf st hg
    subst hP hw hK
    obtain ⟨f0, f1, f2, f3, f4, f5⟩ := hf it (by simp)
    exact wpAny_pyNext_range_end (I.ok.hd hc) st (by have : n ≤ i := hg; omega) fun h' eb => ⟨rfl, I.turned (t' := s.toks) (fun b o hb e => eb b o hb e) f0 f1 f3 f4 f5⟩
  self := fun _ _ _ _ _ st h => wpAny_pyIter_rangeiter st h
end L2
namespace L2
open PySem PySem.Spec PyProof.Rows
section
variable {X : Cx} {tg : Expr}
def iList (K : PySem.W.Frag) (tl : TE) : TI := fun σ H R => tl σ H fun x H1 => ∃ a, x = .ref a ∧ (∃ xs, SqL K H1 a xs) ∧ R (Itl K a) H1
def iTup (K : PySem.W.Frag) (tl : TE) : TI := fun σ H R => tl σ H fun x H1 => ∃ a, x = .ref a ∧ (∃ xs, SqT K H1 a xs) ∧ R (Itt K a) H1
theorem pi_list {l : Expr} {tl : TE} (hl : PE X l tl) : PI X tg l (iList X.K tl) := by
  intro pins s σ H R I h
  refine thn (hl pins s σ H _ I h) fun v s1 ⟨x, H1, I1, r1, q1⟩ => ?_
  obtain ⟨a, e, ⟨xs, hq⟩, q⟩ := q1
  subst e
  cases r1
  obtain ⟨its, rv, p, hz⟩ := I1.list hq
  refine wpAny_pyIter_list p.isList ?_
  refine ⟨s1.heap.objs.size, [s1.heap.objs.size], _, _, H1, rfl, I1.kept (t' := s1.toks) fun b o e => Heap.get?_push_of_some _ e, turn_list a _, ⟨_, Heap.get?_push_size _ rfl, rfl, rfl⟩, fun b hb => ?_, q⟩
  have e : b = s1.heap.objs.size := by simpa using hb
  subst e
  exact I1.fpOk (Nat.le_refl _) (I1.hok.fresh (Nat.le_refl _))
theorem pi_tup {l : Expr} {tl : TE} (hl : PE X l tl) : PI X tg l (iTup X.K tl) := by
  intro pins s σ H R I h
  refine thn (hl pins s σ H _ I h) fun v s1 ⟨x, H1, I1, r1, q1⟩ => ?_
  obtain ⟨a, e, ⟨xs, hq⟩, q⟩ := q1
  subst e
  cases r1
  obtain ⟨its, rv, p, hz⟩ := I1.tuple hq
  refine wpAny_pyIter_tuple (show s1.heap.IsTuple a its.toArray from p) ?_
  refine ⟨s1.heap.objs.size, [s1.heap.objs.size], _, _, H1, rfl, I1.kept (t' := s1.toks) fun b o e => Heap.get?_push_of_some _ e, turn_tuple a _, ⟨_, Heap.get?_push_size _ rfl, rfl, rfl⟩, fun b hb => ?_, q⟩
  have e : b = s1.heap.objs.size := by simpa using hb
  subst e
  exact I1.fpOk (Nat.le_refl _) (I1.hok.fresh (Nat.le_refl _))
theorem range_it {pins : List (Addr × Obj)} {σ : St} {H : Hp} {s : Shared} {R : It → Hp → Prop} {E : Value → Shared → Prop} {lo hi : Int} {t u v : Tok} {tk : Nat} (I : Inv X pins σ H s) (h1 : -(2 ^ 62) ≤ lo) (h2 : lo < 2 ^ 62) (h3 : -(2 ^ 62) ≤ hi) (h4 : hi < 2 ^ 62)
    (q : R (Itr lo (hi - lo).toNat) H) : wpAny (model X.prog X.w) X.A (pyIter (.ref s.heap.objs.size)) (PIE X pins σ tg R) E { s with heap := s.heap.push { cls := .type "range", data := .fields #[.int lo t, .int hi u, .int 1 v] }, toks := tk } := by
  refine wpAny_pyIter_range (IsRange.new ..) (small_one h1 h2 h3 h4) ?_
  have I1 : Inv X pins σ H { s with heap := s.heap.push { cls := .type "range", data := .fields #[.int lo t, .int hi u, .int 1 v] }, toks := tk } := I.kept fun b o e => Heap.get?_push_of_some _ e
  refine ⟨(s.heap.push { cls := .type "range", data := .fields #[.int lo t, .int hi u, .int 1 v] }).objs.size, [(s.heap.push { cls := .type "range", data := .fields #[.int lo t, .int hi u, .int 1 v] }).objs.size], _, _, H, rfl,
    I1.kept (t' := tk) fun b o e => Heap.get?_push_of_some _ e, turn_range _ lo (hi - lo).toNat, ?_, fun b hb => ?_, q⟩
  · have e1 : lo + ((0 : Nat) : Int) * 1 = lo := by simp
    have e2 : (((hi - lo).toNat : Nat) : Int) - ((0 : Nat) : Int) = Builtin.Range.rangeSize lo hi 1 := by rw [rangeSize_one]; split <;> omega
    show IsRangeIter _ _ (lo + ((0 : Nat) : Int) * 1) ((((hi - lo).toNat : Nat) : Int) - ((0 : Nat) : Int)) 1
    rw [e1, e2]
    exact Heap.get?_push_size _ rfl
  · have e : b = (s.heap.push { cls := .type "range", data := .fields #[.int lo t, .int hi u, .int 1 v] }).objs.size := by simpa using hb
    subst e
    exact I1.fpOk (Nat.le_refl _) (I1.hok.fresh (Nat.le_refl _))
def iRng1 (ta : TA) : TI := fun σ H R => ta σ H fun vs H1 => ∃ j : Int, vs = [.int j] ∧ -(2 ^ 62) ≤ j ∧ j < 2 ^ 62 ∧ R (Itr 0 j.toNat) H1
theorem pi_range1 {a : Expr} {ta : TA} {p pos : Pos} (hg : Gl X "range") (hm : X.mg "range" = none) (ha : PA X [a] ta) (hs : starEach [a] X.env = [(false, eval a X.env)] := by rfl) : PI X tg (.Call (.Name "range" p) [a] [] pos) (iRng1 ta) := by
  intro pins s σ H R I h
  refine Call_ (ld_blt I hg hm boot_range (PyProof.Rows.callWith_type1 (thn (ha pos pins s σ H _ I h) fun us s1 ⟨vs, H1, I1, r1, q1⟩ => ?_) hs rfl))
  obtain ⟨j, e, q1, q2, q⟩ := q1
  subst e
  cases r1 with
  | cons r rr =>
    cases rr
    obtain ⟨t, rfl⟩ := r
    exact call_range_1 (range_it I1 (by omega) (by omega) q1 q2 (by simpa using q))
def tFor (wi : TI) (g : TG) (tb : TS) : TS := fun D σ H => wi σ H fun J H1 => ∃ W : Nat → Nat → St → Hp → Prop, (∃ m, W 0 m σ H1) ∧ ∀ i m σ H, W i m σ H →
  (J.stop i H ∧ D.nx σ H) ∨ (J.go i H ∧ ∃ N : St → Hp → Prop, (∀ σ' H', N σ' H' → ∃ m', m' < m ∧ W (i + 1) m' σ' H') ∧ ∀ x H', J.yld i H x H' → g x σ H' fun σ2 H2 => tb { D with nx := N, ct := N, bk := D.nx } σ2 H2)
def pinsAt (fp : List Addr) (h : Heap) : List (Addr × Obj) := fp.filterMap fun b => (h.get? b).map fun o => (b, o)
theorem mem_pinsAt {fp : List Addr} {h : Heap} {b : Addr} {o : Obj} (hb : b ∈ fp) (e : h.get? b = some o) : (b, o) ∈ pinsAt fp h := List.mem_filterMap.mpr ⟨b, hb, by rw [e]; rfl⟩
theorem of_pinsAt {fp : List Addr} {h : Heap} {p : Addr × Obj} (hp : p ∈ pinsAt fp h) : p.1 ∈ fp ∧ h.get? p.1 = some p.2 := by
  obtain ⟨b, hb, e⟩ := List.mem_filterMap.mp hp
  cases q : h.get? b with
  | none => rw [q] at e; cases e
  | some o =>
    rw [q] at e
    have e' : (b, o) = p := Option.some.inj e
    subst e'
    exact ⟨hb, q⟩
theorem Inv.pinned {pins : List (Addr × Obj)} {σ : St} {H : Hp} {s : Shared} {fp : List Addr} (I : Inv X pins σ H s) (hf : ∀ b ∈ fp, FpOk X pins H b) (ho : ∀ b ∈ fp, ∃ o, s.heap.get? b = some o ∧ ∀ v, o.data ≠ .cell v) : Inv X (pins ++ pinsAt fp s.heap) σ H s :=
  I.pins_of fun p hp => (List.mem_append.mp hp).elim (fun z => I.pin p (List.mem_append_right _ z)) fun z => by
    obtain ⟨hb, e⟩ := of_pinsAt z
    obtain ⟨f0, f1, f2, _⟩ := hf p.1 hb
    obtain ⟨o, e', d⟩ := ho p.1 hb
    rw [e] at e'; cases e'
    exact ⟨e, f0, f1, f2, d⟩
theorem Inv.unpinned {pins pl : List (Addr × Obj)} {σ : St} {H : Hp} {s : Shared} (I : Inv X (pins ++ pl) σ H s) : Inv X pins σ H s := I.pins_of fun p hp => I.pin p (List.mem_append_right _ (List.mem_append_left _ hp))
theorem ps_for {iter : Expr} {body : List Stmt} {wi : TI} {g : TG} {tb : TS} {pos : Pos} (hp : PassesOwn (model X.prog X.w) X.A X.env X.xe) (hc : X.calm = true) (hi : PI X tg iter wi) (hg : PG X tg g) (hb : PSs X body tb)
    (hs : ∀ x, foldedSetIterable iter X.env x = pure x := by intro _; rfl) : PS X (.For tg iter body [] pos) (tFor wi g tb) := by
  intro pins s σ H D I h
  refine wpAny_For (thn (hi pins s σ H _ I h) fun v s1 h1 => thn h1 fun itv s2 h2 => ?_) hs
  obtain ⟨it, fp, tn, J, H2, e, I2, T, st2, f2, W, ⟨m0, w0⟩, turn⟩ := h2
  subst e
  -- what stays true of the iterator's objects through the loop
  have stat : ∀ {H' : Hp}, (∀ b ∈ fp, H' b = none) → ∀ b ∈ fp, FpOk X pins H' b := fun hn b hb => ⟨hn b hb, (f2 b hb).2⟩
  refine codeAny_forLoop_any (fun n s' => ∃ i σ' H', Inv X pins σ' H' s' ∧ tn i s'.heap ∧ (∀ b ∈ fp, H' b = none) ∧ W i n σ' H') ?_ m0 ⟨0, σ, H2, I2, st2, fun b hb => (f2 b hb).1, w0⟩
  rintro n s3 ⟨i, σ3, H3, I3, st3, fr3, w3⟩
  rcases turn i n σ3 H3 w3 with ⟨stop, qn⟩ | ⟨go, N, hN, step⟩
  · refine wpAny_passesOwn hp (thn (T.done X rfl rfl rfl hc i pins s3 σ3 H3 X.xe I3 (stat fr3) st3 stop) fun r s4 ⟨hr, I4⟩ => ?_)
    subst hr
    exact wpAny_execs_nil ⟨σ3, H3, I4, qn⟩
  · refine wpAny_passesOwn hp (thn (T.item X rfl rfl rfl hc i pins s3 σ3 H3 X.xe I3 (stat fr3) st3 go) fun r s4 ⟨u, hr, h4⟩ => ?_)
    subst hr
    refine wpAny_passesOwn hp (thn h4 fun _ s5 ⟨x, H5, I5, r5, y5, st5, fr5⟩ => ?_)
    have I5' := I5.pinned (stat fr5) (T.obj _ _ st5)
    refine wpAny_passesOwn hp (thn (hg _ s5 σ3 H5 x u _ I5' r5 (step x H5 y5)) fun _ s6 ⟨σ6, H6, I6, q6⟩ => ?_)
    refine wpAny_passesOwn hp (thn (hb _ s6 σ6 H6 _ I6 q6) fun f s7 q7 => ?_)
    have again : ∀ {σ7 : St} {H7 : Hp}, Inv X (pins ++ pinsAt fp s5.heap) σ7 H7 s7 → N σ7 H7 → ∃ m, m < n ∧ ∃ i σ' H', Inv X pins σ' H' s7 ∧ tn i s7.heap ∧ (∀ b ∈ fp, H' b = none) ∧ W i m σ' H' := fun {σ7 H7} I7 n7 => by
      obtain ⟨m', hm, w7⟩ := hN σ7 H7 n7
      refine ⟨m', hm, i + 1, σ7, H7, I7.unpinned, T.keep _ _ _ st5 fun b hb o e => (I7.pin (b, o) (List.mem_append_right _ (List.mem_append_right _ (mem_pinsAt hb e)))).1, fun b hb => ?_, w7⟩
      obtain ⟨o, e, d⟩ := T.obj _ _ st5 b hb
      exact (I7.pin (b, o) (List.mem_append_right _ (List.mem_append_right _ (mem_pinsAt hb e)))).2.1
    cases f with
    | next => obtain ⟨σ7, H7, I7, n7⟩ := q7; exact again I7 n7
    | cont => obtain ⟨σ7, H7, I7, n7⟩ := q7; exact again I7 n7
    | brk => obtain ⟨σ7, H7, I7, q7⟩ := q7; exact ⟨σ7, H7, I7.unpinned, q7⟩
    | ret v => obtain ⟨x7, σ7, H7, I7, r7, q7⟩ := q7; exact ⟨x7, σ7, H7, I7.unpinned, r7, q7⟩
end
end L2
namespace L2
open PySem PySem.Spec PyProof.Rows
abbrev R2 := V → V → Hp → VK → Prop
def OpR (X : Cx) (f : Value → Value → Sem Value) (r : R2) : Prop :=
  ∀ (pins : List (Addr × Obj)) (s : Shared) (σ : St) (H : Hp) (x y : V) (v u : Value) (Q : VK), Inv X pins σ H s → RelV x v → RelV y u → r x y H Q →
    wpAny (model X.prog X.w) X.A (f v u) (EP X pins σ Q) X.xe s
def UnR (X : Cx) (f : Value → Sem Value) (r : V → Hp → VK → Prop) : Prop :=
  ∀ (pins : List (Addr × Obj)) (s : Shared) (σ : St) (H : Hp) (x : V) (v : Value) (Q : VK), Inv X pins σ H s → RelV x v → r x H Q →
    wpAny (model X.prog X.w) X.A (f v) (EP X pins σ Q) X.xe s
def CallR (X : Cx) (f : Value) (r : List V → Hp → VK → Prop) : Prop :=
  ∀ (pins : List (Addr × Obj)) (s : Shared) (σ : St) (H : Hp) (xs : List V) (us : List Value) (Q : VK), Inv X pins σ H s → Vals xs us → r xs H Q →
    wpAny (model X.prog X.w) X.A (call f us) (EP X pins σ Q) X.xe s
def TruR (X : Cx) (r : V → Hp → (Bool → Hp → Prop) → Prop) : Prop :=
  ∀ (pins : List (Addr × Obj)) (s : Shared) (σ : St) (H : Hp) (x : V) (v : Value) (Q : Bool → Hp → Prop), Inv X pins σ H s → RelV x v → r x H Q →
    wpAny (model X.prog X.w) X.A (truthy v) (TP X pins σ Q) X.xe s
def tOp (r : R2) (ta tb : TE) : TE := fun σ H Q => ta σ H fun x H1 => tb σ H1 fun y H2 => r x y H2 Q
def tUn (r : V → Hp → VK → Prop) (ta : TE) : TE := fun σ H Q => ta σ H fun x H1 => r x H1 Q
def rI (C : Int → Int → Prop) (g : Int → Int → V) : R2 := fun x y H Q => ∃ i j, x = .int i ∧ y = .int j ∧ C i j ∧ Q (g i j) H
def rI0 (g : Int → Int → V) : R2 := fun x y H Q => ∃ i j, x = .int i ∧ y = .int j ∧ Q (g i j) H
def rU (g : Int → V) : V → Hp → VK → Prop := fun x H Q => ∃ i, x = .int i ∧ Q (g i) H
section
variable {X : Cx} {a b c : Expr} {ta tb tc : TE} {pos : Pos}
theorem binT (ha : PE X a ta) (hb : PE X b tb) {pins : List (Addr × Obj)} {s : Shared} {σ : St} {H : Hp} {R : V → V → Hp → Prop} (I : Inv X pins σ H s)
    (h : ta σ H fun x H1 => tb σ H1 fun y H2 => R x y H2) {Q : Value → Shared → Prop} {f : Value → Value → Sem Value}
    (hf : ∀ v u s2 x y H2, Inv X pins σ H2 s2 → RelV x v → RelV y u → R x y H2 → wpAny (model X.prog X.w) X.A (f v u) Q X.xe s2) :
    wpAny (model X.prog X.w) X.A (eval a X.env) (fun v s₁ => wpAny (model X.prog X.w) X.A (eval b X.env) (fun u s₂ => wpAny (model X.prog X.w) X.A (f v u) Q X.xe s₂) X.xe s₁) X.xe s := by
  refine thn (ha pins s σ H _ I h) fun v s1 ⟨x, H1, I1, r1, q1⟩ => ?_
  refine thn (hb pins s1 σ H1 _ I1 q1) fun u s2 ⟨y, H2, I2, r2, q2⟩ => ?_
  exact hf v u s2 x y H2 I2 r1 r2 q2
theorem pe_op {op : Operator} {r : R2} (ho : OpR X (binaryOp op) r) (ha : PE X a ta) (hb : PE X b tb) : PE X (.BinOp a op b pos) (tOp r ta tb) := by
  intro pins s σ H Q I h
  exact wpAny_BinOp (binT ha hb I h fun v u s2 x y H2 I2 rx ry q => ho pins s2 σ H2 x y v u Q I2 rx ry q)
theorem pe_un {op : UnaryOp} {r : V → Hp → VK → Prop} (ho : UnR X (unaryOp op) r) (ha : PE X a ta) : PE X (.UnaryOp op a pos) (tUn r ta) := by
  intro pins s σ H Q I h
  exact UnaryOp_ (thn (ha pins s σ H _ I h) fun v s1 ⟨x, H1, I1, r1, q1⟩ => ho pins s1 σ H1 x v Q I1 r1 q1)
theorem opI {f : Value → Value → Sem Value} {C : Int → Int → Prop} {g : Int → Int → Int}
    (rule : ∀ (i j : Int) (t u : Tok) (s : Shared) (Q : Value → Shared → Prop) (E : Value → Shared → Prop), C i j → Q (.int (g i j) s.toks) { s with toks := s.toks + 1 } → wpAny (model X.prog X.w) X.A (f (.int i t) (.int j u)) Q E s) :
    OpR X f (rI C fun i j => .int (g i j)) := by
  intro pins s σ H x y v u Q I rx ry h
  obtain ⟨i, j, rfl, rfl, hc, q⟩ := h
  obtain ⟨t, rfl⟩ := rx
  obtain ⟨t', rfl⟩ := ry
  exact rule i j t t' s _ _ hc ⟨.int (g i j), H, I.tok _, ⟨_, rfl⟩, q⟩
theorem opI0 {f : Value → Value → Sem Value} {g : Int → Int → Int}
    (rule : ∀ (i j : Int) (t u : Tok) (s : Shared) (Q : Value → Shared → Prop) (E : Value → Shared → Prop), Q (.int (g i j) s.toks) { s with toks := s.toks + 1 } → wpAny (model X.prog X.w) X.A (f (.int i t) (.int j u)) Q E s) :
    OpR X f (rI0 fun i j => .int (g i j)) := by
  intro pins s σ H x y v u Q I rx ry h
  obtain ⟨i, j, rfl, rfl, q⟩ := h
  obtain ⟨t, rfl⟩ := rx
  obtain ⟨t', rfl⟩ := ry
  exact rule i j t t' s _ _ ⟨.int (g i j), H, I.tok _, ⟨_, rfl⟩, q⟩
theorem opB0 {f : Value → Value → Sem Value} {g : Int → Int → Bool}
    (rule : ∀ (i j : Int) (t u : Tok) (s : Shared) (Q : Value → Shared → Prop) (E : Value → Shared → Prop), Q (.bool (g i j)) s → wpAny (model X.prog X.w) X.A (f (.int i t) (.int j u)) Q E s) :
    OpR X f (rI0 fun i j => .bl (g i j)) := by
  intro pins s σ H x y v u Q I rx ry h
  obtain ⟨i, j, rfl, rfl, q⟩ := h
  obtain ⟨t, rfl⟩ := rx
  obtain ⟨t', rfl⟩ := ry
  exact rule i j t t' s _ _ ⟨.bl (g i j), H, I, rfl, q⟩
theorem op_add : OpR X (binaryOp .Add) (rI0 fun i j => .int (i + j)) := opI0 fun _ _ _ _ _ _ _ q => add_int q
theorem op_sub : OpR X (binaryOp .Sub) (rI0 fun i j => .int (i - j)) := opI0 fun _ _ _ _ _ _ _ q => sub_int q
theorem op_mod : OpR X (binaryOp .Mod) (rI (fun _ j => 0 < j) fun i j => .int (i % j)) := opI fun i j _ _ _ _ _ hc q => by
  have h1 : (0 : Int) < j := hc
  exact mod_int' (by omega) (by rw [Int.fmod_eq_emod_of_nonneg i (by omega)]; exact q)
theorem op_modN : OpR X (binaryOp .Mod) (rI (fun _ j => j ≠ 0) fun i j => .int (i.fmod j)) := opI fun _ _ _ _ _ _ _ hc q => mod_int' hc q
theorem unI {f : Value → Sem Value} {g : Int → Int}
    (rule : ∀ (i : Int) (t : Tok) (s : Shared) (Q : Value → Shared → Prop) (E : Value → Shared → Prop), Q (.int (g i) s.toks) { s with toks := s.toks + 1 } → wpAny (model X.prog X.w) X.A (f (.int i t)) Q E s) :
    UnR X f (rU fun i => .int (g i)) := by
  intro pins s σ H x v Q I rx h
  obtain ⟨i, rfl, q⟩ := h
  obtain ⟨t, rfl⟩ := rx
  exact rule i t s _ _ ⟨.int (g i), H, I.tok _, ⟨_, rfl⟩, q⟩
theorem un_neg : UnR X (unaryOp .USub) (rU fun i => .int (-i)) := unI fun _ _ _ _ _ q => neg_int q
end
def scal : V → V → Bool
  | .non, .non => true | .non, .int _ => true | .int _, .non => true | .non, .bl _ => true | .bl _, .non => true | .non, .str _ => true | .str _, .non => true
  | .int _, .int _ => true | .bl _, .bl _ => true | .str _, .str _ => true | .byt _, .byt _ => true
  | .int _, .str _ => true | .str _, .int _ => true | .bl _, .str _ => true | .str _, .bl _ => true
  | _, _ => false
def rEq : R2 := fun x y H Q => scal x y = true ∧ Q (.bl (decide (x = y))) H
def rNe : R2 := fun x y H Q => scal x y = true ∧ Q (.bl (!decide (x = y))) H
theorem dec_int {i j : Int} : decide (V.int i = V.int j) = (i == j) := by
  rw [Bool.eq_iff_iff]
  simp
theorem dec_bl {i j : Bool} : decide (V.bl i = V.bl j) = (i == j) := by
  rw [Bool.eq_iff_iff]
  simp
theorem dec_str {i j : Str} : decide (V.str i = V.str j) = (i == j) := by
  rw [Bool.eq_iff_iff]
  simp
theorem dec_byt {i j : Array UInt8} : decide (V.byt i = V.byt j) = (i.toList == j.toList) := by
  rw [Bool.eq_iff_iff]
  cases i
  cases j
  simp
section
variable {X : Cx} {a b c : Expr} {ta tb tc : TE} {pos : Pos}
theorem fin_bl {pins : List (Addr × Obj)} {σ : St} {H : Hp} {s : Shared} {Q : VK} {k k' : Bool} (I : Inv X pins σ H s) (q : Q (.bl k) H) (e : k = k') : EP X pins σ Q (.bool k') s := by
  subst e
  exact ⟨.bl k, H, I, rfl, q⟩
theorem op_eq : OpR X (compareOp .Eq) rEq := by
  intro pins s σ H x y v u Q I rx ry h
  obtain ⟨hs, q⟩ := h
  cases x with
  | non =>
    cases rx
    cases y with
    | non => cases ry; exact PySem.EqNone.eq_none_none (fin_bl I q (by simp))
    | bl j => cases ry; exact PySem.EqNone.eq_none_bool (fin_bl I q (by simp))
    | int j => obtain ⟨t', rfl⟩ := ry; exact PySem.EqNone.eq_none_int (fin_bl I q (by simp))
    | str j => obtain ⟨t', rfl⟩ := ry; exact PySem.EqNone.eq_none_str (fin_bl I q (by simp))
    | _ => exact absurd (show false = true from hs) Bool.false_ne_true
  | bl i =>
    cases rx
    cases y with
    | non => cases ry; exact PySem.EqNone.eq_bool_none (fin_bl I q (by simp))
    | bl j => cases ry; exact eq_bool (fin_bl I q dec_bl)
    | str j => obtain ⟨t', rfl⟩ := ry; exact PySem.EqMixed.eq_bool_str (fin_bl I q (by simp))
    | _ => exact absurd (show false = true from hs) Bool.false_ne_true
  | int i =>
    obtain ⟨t, rfl⟩ := rx
    cases y with
    | non => cases ry; exact PySem.EqNone.eq_int_none (fin_bl I q (by simp))
    | int j => obtain ⟨t', rfl⟩ := ry; exact eq_int (fin_bl I q dec_int)
    | str j => obtain ⟨t', rfl⟩ := ry; exact PySem.EqMixed.eq_int_str (fin_bl I q (by simp))
    | _ => exact absurd (show false = true from hs) Bool.false_ne_true
  | str i =>
    obtain ⟨t, rfl⟩ := rx
    cases y with
    | non => cases ry; exact PySem.EqNone.eq_str_none (fin_bl I q (by simp))
    | bl j => cases ry; exact PySem.EqMixed.eq_str_bool (fin_bl I q (by simp))
    | int j => obtain ⟨t', rfl⟩ := ry; exact PySem.EqMixed.eq_str_int (fin_bl I q (by simp))
    | str j => obtain ⟨t', rfl⟩ := ry; exact eq_str (fin_bl I q dec_str)
    | _ => exact absurd (show false = true from hs) Bool.false_ne_true
  | byt i =>
    obtain ⟨t, rfl⟩ := rx
    cases y with
    | byt j => obtain ⟨t', rfl⟩ := ry; exact PySem.W.eq_bytes (fin_bl I q dec_byt)
    | _ => exact absurd (show false = true from hs) Bool.false_ne_true
  | _ => cases y <;> exact absurd (show false = true from hs) Bool.false_ne_true
theorem op_ne : OpR X (compareOp .NotEq) rNe := by
  intro pins s σ H x y v u Q I rx ry h
  obtain ⟨hs, q⟩ := h
  cases x with
  | non =>
    cases rx
    cases y with
    | non => cases ry; exact PySem.EqNone.ne_none_none (fin_bl I q (by simp))
    | bl j => cases ry; exact PySem.EqNone.ne_none_bool (fin_bl I q (by simp))
    | int j => obtain ⟨t', rfl⟩ := ry; exact PySem.EqNone.ne_none_int (fin_bl I q (by simp))
    | str j => obtain ⟨t', rfl⟩ := ry; exact PySem.EqNone.ne_none_str (fin_bl I q (by simp))
    | _ => exact absurd (show false = true from hs) Bool.false_ne_true
  | bl i =>
    cases rx
    cases y with
    | non => cases ry; exact PySem.EqNone.ne_bool_none (fin_bl I q (by simp))
    | bl j => cases ry; exact ne_bool (fin_bl I q (congrArg not dec_bl))
    | str j => obtain ⟨t', rfl⟩ := ry; exact PySem.EqMixed.ne_bool_str (fin_bl I q (by simp))
    | _ => exact absurd (show false = true from hs) Bool.false_ne_true
  | int i =>
    obtain ⟨t, rfl⟩ := rx
    cases y with
    | non => cases ry; exact PySem.EqNone.ne_int_none (fin_bl I q (by simp))
    | int j => obtain ⟨t', rfl⟩ := ry; exact ne_int (fin_bl I q (congrArg not dec_int))
    | str j => obtain ⟨t', rfl⟩ := ry; exact PySem.EqMixed.ne_int_str (fin_bl I q (by simp))
    | _ => exact absurd (show false = true from hs) Bool.false_ne_true
  | str i =>
    obtain ⟨t, rfl⟩ := rx
    cases y with
    | non => cases ry; exact PySem.EqNone.ne_str_none (fin_bl I q (by simp))
    | bl j => cases ry; exact PySem.EqMixed.ne_str_bool (fin_bl I q (by simp))
    | int j => obtain ⟨t', rfl⟩ := ry; exact PySem.EqMixed.ne_str_int (fin_bl I q (by simp))
    | str j => obtain ⟨t', rfl⟩ := ry; exact ne_str (fin_bl I q (congrArg not dec_str))
    | _ => exact absurd (show false = true from hs) Bool.false_ne_true
  | byt i =>
    obtain ⟨t, rfl⟩ := rx
    cases y with
    | byt j => obtain ⟨t', rfl⟩ := ry; exact PySem.W.ne_bytes (fin_bl I q (congrArg not dec_byt))
    | _ => exact absurd (show false = true from hs) Bool.false_ne_true
  | _ => cases y <;> exact absurd (show false = true from hs) Bool.false_ne_true
theorem op_lt : OpR X (compareOp .Lt) (rI0 fun i j => .bl (decide (i < j))) := opB0 fun _ _ _ _ _ _ _ q => lt_int q
theorem op_gt : OpR X (compareOp .Gt) (rI0 fun i j => .bl (decide (j < i))) := opB0 fun _ _ _ _ _ _ _ q => gt_int q
theorem op_ge : OpR X (compareOp .GtE) (rI0 fun i j => .bl (decide (j ≤ i))) := opB0 fun _ _ _ _ _ _ _ q => ge_int q
theorem nomark (b : Expr) {op : CmpOp} (h : op ≠ .In := by decide) (h2 : op ≠ .NotIn := by decide) : behindInMarks op b = false := by
  have e1 : (op == CmpOp.In) = false := by cases op <;> first | rfl | exact absurd rfl h
  have e2 : (op == CmpOp.NotIn) = false := by cases op <;> first | rfl | exact absurd rfl h2
  cases b <;> simp [behindInMarks, e1, e2]
theorem pe_cmpR {op : CmpOp} {r : R2} (ho : OpR X (compareOp op) r) (ha : PE X a ta) (hb : PE X b tb) (hm : behindInMarks op b = false) : PE X (.Compare a [op] [b] pos) (tOp r ta tb) := by
  intro pins s σ H Q I h
  exact wpAny_Compare1 (binT ha hb I h fun v u s2 x y H2 I2 rx ry q => ho pins s2 σ H2 x y v u Q I2 rx ry q) hm
def tTest (t : TE) : TT := fun σ H Q => t σ H fun x H' => ∃ k, x = .bl k ∧ Q k H'
theorem pt_cmpR {op : CmpOp} {r : R2} (ho : OpR X (compareOp op) r) (ha : PE X a ta) (hb : PE X b tb) (hm : behindInMarks op b = false) : PT X (.Compare a [op] [b] pos) (tTest (tOp r ta tb)) := by
  intro pins s σ H Q I h
  refine wpAny_isTrue_Compare1 (thn (ha pins s σ H _ I h) fun v s1 ⟨x, H1, I1, r1, q1⟩ => thn (hb pins s1 σ H1 _ I1 q1) fun u s2 ⟨y, H2, I2, r2, q2⟩ =>
    thn (ho pins s2 σ H2 x y v u _ I2 r1 r2 q2) fun c s3 ⟨z, H3, I3, r3, k, e, q3⟩ => ?_) hm
  subst e
  cases r3
  exact wpAny_truthy_bool ⟨H3, I3, q3⟩
def TruV (K : PySem.W.Frag) (x : V) (H : Hp) (k : Bool) : Prop :=
  match x with
  | .non => k = false
  | .bl b => k = b
  | .int i => k = (i != 0)
  | .str y => y.length ≤ sizeLine ∧ k = ((y.length : Int) != 0)
  | .byt y => y.size ≤ sizeLine ∧ k = ((y.size : Int) != 0)
  | .ref p => (∃ xs, SqL K H p xs ∧ k = !xs.isEmpty) ∨ (∃ xs, SqT K H p xs ∧ k = !xs.isEmpty) ∨ ∃ kvs, H p = some (.dK kvs) ∧ k = !kvs.isEmpty
  | _ => False
theorem isEmpty_kv {κ : Type} {kvs : List (κ × V)} {vs : List (κ × Value)} (r : KV kvs vs) : (!vs.isEmpty) = !kvs.isEmpty := by
  cases r <;> rfl
theorem isEmpty_of {xs : List V} {its : List Value} (r : Vals xs its) : (!its.toArray.isEmpty) = !xs.isEmpty := by
  cases r <;> simp
theorem line63 : (sizeLine : Nat) < 2 ^ 63 := by rw [sizeLine_eq]; decide
theorem tru_ok : TruR X (fun x H Q => ∃ k, TruV X.K x H k ∧ Q k H) := by
  intro pins s σ H x v Q I rx h
  obtain ⟨k, e, q⟩ := h
  have hl := line63
  have hs : sizeLine = 16777216 := sizeLine_eq
  cases x with
  | non =>
    cases rx
    have e' : k = false := e
    subst e'
    exact truthy_none ⟨H, I, q⟩
  | bl b =>
    cases rx
    have e' : k = b := e
    subst e'
    exact wpAny_truthy_bool ⟨H, I, q⟩
  | int i =>
    obtain ⟨t, rfl⟩ := rx
    have e' : k = (i != 0) := e
    subst e'
    exact PySem.P.truthy_int ⟨H, I, q⟩
  | str y =>
    obtain ⟨t, rfl⟩ := rx
    obtain ⟨hy, e'⟩ : y.length ≤ sizeLine ∧ k = ((y.length : Int) != 0) := e
    subst e'
    exact PySem.P.truthy_str (by omega) ⟨H, I.tok _, q⟩
  | byt y =>
    obtain ⟨t, rfl⟩ := rx
    obtain ⟨hy, e'⟩ : y.size ≤ sizeLine ∧ k = ((y.size : Int) != 0) := e
    subst e'
    exact PySem.W.truthy_bytes (by omega) ⟨H, I.tok _, q⟩
  | ref p =>
    cases rx
    have e' : (∃ xs, SqL X.K H p xs ∧ k = !xs.isEmpty) ∨ (∃ xs, SqT X.K H p xs ∧ k = !xs.isEmpty) ∨ ∃ kvs, H p = some (.dK kvs) ∧ k = !kvs.isEmpty := e
    rcases e' with ⟨xs, hx, e'⟩ | ⟨xs, hx, e'⟩ | ⟨kvs, hx, e'⟩
    · subst e'
      obtain ⟨its, r, pl, hz⟩ := I.list hx
      have hlen := r.length
      exact wpAny_truthy_list pl.isList (by simp only [List.size_toArray]; omega) ⟨H, I.tok _, by rw [isEmpty_of r]; exact q⟩
    · subst e'
      obtain ⟨its, r, pl, hz⟩ := I.tuple hx
      have hlen := r.length
      exact truthy_tuple pl (by simp only [List.size_toArray]; omega) ⟨H, I.tok _, by rw [isEmpty_of r]; exact q⟩
    · subst e'
      obtain ⟨hz, hS, vs, r, m⟩ : kvs.length ≤ sizeLine ∧ (p == sysModules) = false ∧ ∃ vs, KV kvs vs ∧ s.heap.DictOf (mixKind X.prog X.w) p vs := I.hok p _ hx
      have hlen : kvs.length = vs.length := Paired.length r
      exact wpAny_truthy_dict hS m (by omega) ⟨H, I.tok _, by rw [isEmpty_kv r]; exact q⟩
  | _ => exact (show False from e).elim
theorem op_add_str : OpR X (binaryOp .Add) (fun x y H Q => ∃ i j, x = .str i ∧ y = .str j ∧ i.length + j.length ≤ sizeLine ∧ Q (.str (i ++ j)) H) := by
  intro pins s σ H x y v u Q I rx ry h
  obtain ⟨i, j, rfl, rfl, hz, q⟩ := h
  obtain ⟨t, rfl⟩ := rx
  obtain ⟨t', rfl⟩ := ry
  exact add_str (fun t' tk => ⟨.str (i ++ j), H, I.tok _, ⟨_, rfl⟩, q⟩) hz
theorem vals1 {x : V} {us : List Value} (r : Vals [x] us) : ∃ u, us = [u] ∧ RelV x u := by
  cases r with
  | cons r1 r2 => cases r2; exact ⟨_, rfl, r1⟩
theorem vals2 {x y : V} {us : List Value} (r : Vals [x, y] us) : ∃ u w', us = [u, w'] ∧ RelV x u ∧ RelV y w' := by
  cases r with
  | cons r1 r2 =>
    cases r2 with
    | cons r3 r4 => cases r4; exact ⟨_, _, rfl, r1, r3⟩
theorem call_abs : CallR X (.builtin "abs") (fun xs H Q => ∃ i, xs = [.int i] ∧ Q (.int (if i < 0 then -i else i)) H) := by
  intro pins s σ H xs us Q I r h
  obtain ⟨i, rfl, q⟩ := h
  obtain ⟨u, rfl, t, rfl⟩ := vals1 r
  exact call_abs_int fun u tk => ⟨.int (if i < 0 then -i else i), H, I.tok _, ⟨_, rfl⟩, q⟩
theorem call_str_int : CallR X (.type "str") (fun xs H Q => ∃ i, xs = [.int i] ∧ i.natAbs.log2 < 1920 ∧ Q (.str (toString i)) H) := by
  intro pins s σ H xs us Q I r h
  obtain ⟨i, rfl, hz, q⟩ := h
  obtain ⟨u, rfl, t, rfl⟩ := vals1 r
  exact PySem.P.str_of_int hz ⟨.str _, H, I.tok _, ⟨_, rfl⟩, q⟩
def LenV (K : PySem.W.Frag) (x : V) (H : Hp) (n : Nat) : Prop :=
  match x with
  | .str y => y.length ≤ sizeLine ∧ n = y.length
  | .byt y => y.size ≤ sizeLine ∧ n = y.size
  | .ref p => (∃ xs, SqL K H p xs ∧ n = xs.length) ∨ ∃ xs, SqT K H p xs ∧ n = xs.length
  | _ => False
theorem call_len : CallR X (.builtin "len") (fun xs H Q => ∃ x n, xs = [x] ∧ LenV X.K x H n ∧ Q (.int n) H) := by
  intro pins s σ H xs us Q I r h
  obtain ⟨x, n, rfl, e, q⟩ := h
  obtain ⟨u, rfl, rx⟩ := vals1 r
  have hl := line63
  have hs : sizeLine = 16777216 := sizeLine_eq
  cases x with
  | str y =>
    obtain ⟨t, rfl⟩ := rx
    obtain ⟨hy, e'⟩ : y.length ≤ sizeLine ∧ n = y.length := e
    subst e'
    exact len_str (by omega) ⟨.int _, H, I.tok _, ⟨_, rfl⟩, q⟩
  | byt y =>
    obtain ⟨t, rfl⟩ := rx
    obtain ⟨hy, e'⟩ : y.size ≤ sizeLine ∧ n = y.size := e
    subst e'
    exact PySem.W.len_bytes (by omega) ⟨.int _, H, I.tok _, ⟨_, rfl⟩, q⟩
  | ref p =>
    cases rx
    have e' : (∃ xs, SqL X.K H p xs ∧ n = xs.length) ∨ ∃ xs, SqT X.K H p xs ∧ n = xs.length := e
    rcases e' with ⟨xs, hx, e'⟩ | ⟨xs, hx, e'⟩
    · subst e'
      obtain ⟨its, r', pl, hz⟩ := I.list hx
      have hlen := r'.length
      exact Calls.call_len_list pl.isList (by simp only [List.size_toArray]; omega) ⟨.int xs.length, H, I.tok _, ⟨_, by simp only [List.size_toArray]; rw [hlen]⟩, q⟩
    · subst e'
      obtain ⟨its, r', pl, hz⟩ := I.tuple hx
      have hlen := r'.length
      exact len_tuple pl (by simp only [List.size_toArray]; omega) ⟨.int xs.length, H, I.tok _, ⟨_, by simp only [List.size_toArray]; rw [hlen]⟩, q⟩
  | _ => exact (show False from e).elim
end
end L2
namespace L2
open PySem PySem.Spec PyProof.Rows
structure ObjM (h : Heap) (x dx C : Addr) (mA : Str → Option Value) : Prop where
  obj : h.get? x = some (PySem.W.instObj C dx)
  ns : h.Ns1 dx mA
  ne : dx ≠ x
theorem lookIn_ns {h : Heap} {dx : Addr} {mA : Str → Option Value} (n : h.Ns1 dx mA) : ∃ od, h.get? dx = some od ∧ ∀ name, PySem.W.lookIn name od = some (mA name) := by
  obtain ⟨o, es, ep, ho, hd, hk, _, hm⟩ := n
  refine ⟨o, ho, fun name => ?_⟩
  have e := hm name
  unfold nsFind findBy at e
  rw [← Array.find?_toList] at e
  unfold PySem.W.lookIn
  rw [hd]
  dsimp only
  split
  · rename_i y q
    rw [q] at e
    exact congrArg some e
  · rename_i q
    rw [q] at e
    have a : es.toList.any (·.refKey) = false := by
      rw [List.any_eq_false]
      intro y hy
      obtain ⟨z, t, hkey⟩ := hk y (Array.mem_toList_iff.mp hy)
      simp [DictEntry.refKey, hkey]
    have a' : ¬ es.toList.any (·.refKey) = true := by rw [a]; exact Bool.false_ne_true
    rw [if_neg a']
    exact congrArg some e
theorem ObjM.look {h : Heap} {x dx C : Addr} {mA : Str → Option Value} (I : ObjM h x dx C mA) : ∃ od, PySem.W.InstAt h x (PySem.W.instObj C dx) C (some od) ∧ ∀ name, PySem.W.lookIn name od = some (mA name) :=
  let ⟨od, ho, hl⟩ := lookIn_ns I.ns
  ⟨od, ⟨I.obj, rfl, rfl, ho⟩, hl⟩
section
variable {prog : Program} {w : World} {A : Around} {E : Value → Shared → Prop} {s : Shared} {K : PySem.W.Frag} {x dx C f : Addr} {mA : Str → Option Value} {name : Str} {v : Value}
theorem get_map {expr : Bool} {Q : Value → Shared → Prop} (X : K.In s.heap) (I : ObjM s.heap x dx C mA) (hg : PySem.W.plainGet K C name = true) (hh : PySem.W.hasDictIn K C = true)
    (ha : PySem.W.findIn K (.ref C) name = some none) (hv : mA name = some v) (hv' : PySem.W.handedIn v = true) (h : Q v { s with toks := s.toks + 1 }) :
    wpAny (model prog w) A (getAttr (.ref x) name expr) Q E s := by
  obtain ⟨od, J, hl⟩ := I.look
  exact PySem.W.get_value X J (PySem.W.plainGet_of hg).1 (PySem.W.findObj_own hh ha rfl (by rw [hl, hv])) hv' h
theorem get_meth {pl : Sem Bool} {Q : Value × List Value → Shared → Prop} (X : K.In s.heap) (I : ObjM s.heap x dx C mA) (hg : PySem.W.plainGet K C name = true)
    (hf : PySem.W.findIn K (.ref C) name = some (some (.ref f))) (ht : PySem.W.isFn K (.ref f) = true) (hv : mA name = none) (h : Q (.ref f, [.ref x]) s) :
    wpAny (model prog w) A (getMethod (.ref x) name pl) Q E s := by
  obtain ⟨od, J, hl⟩ := I.look
  exact PySem.W.method_fn X J (PySem.W.plainGet_of hg).1 (PySem.W.plainGet_of hg).2 hf (beq_iff_eq.mp ht) (by show (PySem.W.lookIn name od).map (·.isSome) = some false; rw [hl, hv]; rfl) h
theorem set_map {ns : List Str} {Q : Unit → Shared → Prop} (X : K.In s.heap) (I : ObjM s.heap x dx C mA)
    (hs : PySem.W.findIn K (.ref C) "__setattr__" = some (some (.builtin "object.__setattr__"))) (hp : PySem.W.plainOver K C = true) (ht : PySem.W.takerIn K C name = some none) (hh : PySem.W.hasDictIn K C = true)
    (hw : PySem.Within mA ns) (hsz : ns.length ≤ sizeLine)
    (h : ∀ h', ObjM h' x dx C (fun y => if y = name then some v else mA y) → Heap.SameBut dx s.heap h' → Q () { s with heap := h', toks := s.toks + 2 }) :
    wpAny (model prog w) A (setAttr (.ref x) name v) Q E s := by
  obtain ⟨od, J, hl⟩ := I.look
  refine PySem.W.set_plain X J hs (PySem.W.osa_open (s := { s with toks := s.toks + 1 }) (r := none) X J hp ht fun b => ?_)
  obtain ⟨cd, hc, hd'⟩ := PySem.W.any_some hh
  have hx : s.heap.get? x = some ⟨.ref C, some dx, .plain, #[]⟩ := I.obj
  refine wpAny_bind (wpAny_pure (wpAny_bind (wpAny_bind (wpAny_loadPart hx (wpAny_bind (PySem.W.Looks.here (s := { s with toks := s.toks + 1 }) (PySem.W.looks_clsIn X hc) ?_))))))
  rw [hd']
  refine wpAny_pure (a := some dx) (wpAny_bind (wpAny_pure (wpAny_bind ?_)))
  refine wpAny_nsSet1 (s := { s with toks := s.toks + 1 }) I.ns fun h' hn2 hs2 => ?_
  obtain ⟨oD, esD, epD, hoD, hdD, hcD⟩ := hn2.count (PySem.Within.cons name v hw)
  refine wpAny_bind (wpAny_lookBehind hoD (by rw [hdD]; exact pastItsLine_dict (Nat.le_trans hcD (by rw [List.length_cons]; omega))) ?_)
  exact wpAny_pure (h _ ⟨(hs2.2 _ (Ne.symm I.ne)).trans I.obj, hn2, I.ne⟩ hs2)
theorem make_map {R : Result → Shared → Prop} {vs : List Value} {kw : List (Str × Value)} (X : K.In s.heap) (hm : PySem.W.makesIn K C = true)
    (hi : PySem.W.findIn K (.ref C) "__init__" = some (some (.ref f))) (hf : PySem.W.typeIn K (.ref f) = some (.type "function"))
    (h : codeAny (model prog w) (A.under (.builtin "type.__call__" ⟨.ref C :: vs, kw⟩)) (.call (.ref f) ⟨.ref (s.heap.objs.size + 1) :: vs, kw⟩) (PySem.W.InitBack (s.heap.objs.size + 1) R)
      { s with heap := (s.heap.push PySem.W.emptyDict).push (PySem.W.instObj C s.heap.objs.size) }) :
    codeAny (model prog w) A (.call (.ref C) ⟨vs, kw⟩) R s := by
  obtain ⟨hh, g, d, t, os⟩ := s
  exact PySem.W.make_core (PySem.W.makes_of X hm) (PySem.W.looks_findIn X hi) (fun self => PySem.W.bind_fn X self hf) (.inl rfl) h
end
def putF (f : Str) (v : V) : List (Str × V) → List (Str × V)
  | [] => [(f, v)]
  | (g, x) :: r => if g = f then (g, v) :: r else (g, x) :: putF f v r
theorem lookup_putF (f g : Str) (v : V) : ∀ fs : List (Str × V), (putF f v fs).lookup g = if g = f then some v else fs.lookup g
  | [] => by
    show List.lookup g [(f, v)] = _
    by_cases h : g = f
    · have hb : (g == f) = true := beq_iff_eq.mpr h
      simp only [List.lookup, hb, if_pos h]
    · have hb : (g == f) = false := beq_eq_false_iff_ne.mpr h
      simp only [List.lookup, hb, if_neg h]
  | (k, x) :: r => by
    have ih := lookup_putF f g v r
    rw [show putF f v ((k, x) :: r) = (if k = f then (k, v) :: r else (k, x) :: putF f v r) from rfl]
    by_cases hk : k = f
    · rw [if_pos hk]
      by_cases h : g = k
      · have hb : (g == k) = true := beq_iff_eq.mpr h
        simp only [List.lookup, hb, if_pos (h.trans hk)]
      · have hb : (g == k) = false := beq_eq_false_iff_ne.mpr h
        simp only [List.lookup, hb, if_neg (fun e : g = f => h (e.trans hk.symm))]
    · rw [if_neg hk]
      by_cases h : g = k
      · have hb : (g == k) = true := beq_iff_eq.mpr h
        simp only [List.lookup, hb, if_neg (fun e : g = f => hk (h.symm.trans e))]
      · have hb : (g == k) = false := beq_eq_false_iff_ne.mpr h
        simp only [List.lookup, hb]
        exact ih
theorem keys_putF (f : Str) (v : V) : ∀ fs : List (Str × V), f ∈ (putF f v fs).map (·.1) ∧ ∀ g, g ∈ fs.map (·.1) → g ∈ (putF f v fs).map (·.1)
  | [] => ⟨by simp [putF], fun g h => by simp at h⟩
  | (k, x) :: r => by
    obtain ⟨i1, i2⟩ := keys_putF f v r
    rw [show putF f v ((k, x) :: r) = (if k = f then (k, v) :: r else (k, x) :: putF f v r) from rfl]
    by_cases hk : k = f
    · rw [if_pos hk]
      subst hk
      exact ⟨by simp, fun g h => by simpa using h⟩
    · rw [if_neg hk]
      refine ⟨?_, fun g h => ?_⟩
      · rw [List.map_cons]
        exact List.mem_cons_of_mem _ i1
      · rw [List.map_cons] at h ⊢
        rcases List.mem_cons.mp h with e | e
        · exact List.mem_cons.mpr (.inl e)
        · exact List.mem_cons_of_mem _ (i2 g e)
theorem length_putF (f : Str) (v : V) : ∀ fs : List (Str × V), (putF f v fs).length ≤ fs.length + 1
  | [] => by simp [putF]
  | (k, x) :: r => by
    have ih := length_putF f v r
    rw [show putF f v ((k, x) :: r) = (if k = f then (k, v) :: r else (k, x) :: putF f v r) from rfl]
    by_cases hk : k = f
    · rw [if_pos hk, List.length_cons, List.length_cons]; omega
    · rw [if_neg hk, List.length_cons, List.length_cons]; omega
theorem RelO.some_of {v : V} {o : Option Value} (r : RelO (some v) o) : ∃ u, o = some u ∧ RelV v u := by
  cases o with
  | none => exact (show False from r).elim
  | some u => exact ⟨u, rfl, r⟩
theorem RelO.none_of {o : Option Value} (r : RelO none o) : o = none := by
  cases o with
  | none => rfl
  | some u => exact (show False from r).elim
theorem handed_of {v : V} {u : Value} (r : RelV v u) : PySem.W.handedIn u = true := by
  cases v with
  | non => cases (show u = Value.none from r); rfl
  | bl b => cases (show u = Value.bool b from r); rfl
  | int i => obtain ⟨t, e⟩ := (show ∃ t, u = Value.int i t from r); cases e; rfl
  | str x => obtain ⟨t, e⟩ := (show ∃ t, u = Value.str x t from r); cases e; rfl
  | byt b => obtain ⟨t, e⟩ := (show ∃ t, u = Value.bytes b t from r); cases e; rfl
  | flt b => obtain ⟨t, e⟩ := (show ∃ t, u = Value.float b t from r); cases e; rfl
  | ref a => cases (show u = Value.ref a from r); rfl
  | ty n => cases (show u = Value.type n from r); rfl
section
variable {P : Program} {w : World} {H H' : Hp} {h h' : Heap} {a C dx : Addr} {fs fs' : List (Str × V)}
theorem ins_get (hok : HOk P w H h) (e : H a = some (.ins C dx fs)) : ∃ mA, ObjM h a dx C mA ∧ (∀ f, RelO (fs.lookup f) (mA f)) ∧ PySem.Within mA (fs.map (·.1)) ∧ fs.length ≤ 1000 ∧ H dx = some (.own a) := by
  obtain ⟨d, z, ne, ob, mA, n, r, q⟩ := (show ObjOk P w H h a (.ins C dx fs) from hok a _ e)
  exact ⟨mA, ⟨ob, n, ne⟩, r, q, z, d⟩
end
structure Cls (K : PySem.W.Frag) (C : Addr) : Prop where
  pg : PySem.W.plainGet K C Str.empty = true
  hd : PySem.W.hasDictIn K C = true
  po : PySem.W.plainOver K C = true
  sa : PySem.W.findIn K (.ref C) "__setattr__" = some (some (.builtin "object.__setattr__"))
theorem Cls.get {K : PySem.W.Frag} {C : Addr} (c : Cls K C) (f : Str) : PySem.W.plainGet K C f = true := c.pg
def NoAttr (K : PySem.W.Frag) (C : Addr) (f : Str) : Prop := PySem.W.findIn K (.ref C) f = some none
theorem NoAttr.taker {K : PySem.W.Frag} {C : Addr} {f : Str} (n : NoAttr K C f) : PySem.W.takerIn K C f = some none := by
  unfold PySem.W.takerIn
  rw [show PySem.W.findIn K (.ref C) f = some none from n]
  rfl
structure Meth (K : PySem.W.Frag) (C : Addr) (m : Str) (f : Addr) : Prop where
  at_ : PySem.W.findIn K (.ref C) m = some (some (.ref f))
  fn : PySem.W.isFn K (.ref f) = true
  kp : PySem.W.keepIn K (.ref f) = true
section
variable {X : Cx} {pins : List (Addr × Obj)} {σ : St} {H : Hp} {s : Shared} {a C dx : Addr} {fs : List (Str × V)} {f : Str} {v : V} {A : Around} {E : Value → Shared → Prop}
theorem setattr_ok {y : V} {u : Value} {Q : Unit → Shared → Prop} (I : Inv X pins σ H s) (e : H a = some (.ins C dx fs)) (c : Cls X.K C) (n : NoAttr X.K C f) (hl : fs.length < 1000) (ry : RelV y u)
    (h : ∀ s', Inv X pins σ (upd H a (.ins C dx (putF f y fs))) s' → Q () s') : wpAny (model X.prog X.w) A (setAttr (.ref a) f u) Q E s := by
  obtain ⟨mA, O, r, wi, _, ho⟩ := ins_get I.hok e
  have hz : (fs.map (·.1)).length ≤ sizeLine := by rw [List.length_map, sizeLine_eq]; omega
  refine set_map I.kIn O c.sa c.po n.taker c.hd wi hz fun h' O' sb => h _ ?_
  have hd : ∃ o, h'.get? dx = some o := let ⟨o, _, _, e', _⟩ := O'.ns; ⟨o, e'⟩
  refine I.write (x := a) (e := dx) (by rw [e]; exact True.intro) (.inr ho) (fun b q hb z => (sb.2 b hb).trans z) hd ?_
  refine ⟨by rw [upd_ne O.ne]; exact ho, ?_, O.ne, O'.obj, _, O'.ns, fun g => ?_, fun g hg => ?_⟩
  · have := length_putF f y fs; omega
  · show RelO ((putF f y fs).lookup g) (if g = f then some u else mA g)
    rw [lookup_putF]
    by_cases q : g = f
    · rw [if_pos q, if_pos q]; exact ry
    · rw [if_neg q, if_neg q]; exact r g
  · by_cases q : g = f
    · rw [q]; exact (keys_putF f y fs).1
    · refine (keys_putF f y fs).2 g (wi g fun z => hg ?_)
      show (if g = f then some u else mA g) = none
      rw [if_neg q]; exact z
theorem Inv.made (I : Inv X pins σ H s) : Inv X pins σ (upd (upd H s.heap.objs.size (.own (s.heap.objs.size + 1))) (s.heap.objs.size + 1) (.ins C s.heap.objs.size []))
    { s with heap := (s.heap.push PySem.W.emptyDict).push (PySem.W.instObj C s.heap.objs.size) } := by
  have e1 : (s.heap.push PySem.W.emptyDict).get? s.heap.objs.size = some PySem.W.emptyDict := Heap.get?_push_size s.heap rfl
  have e2 : ((s.heap.push PySem.W.emptyDict).push (PySem.W.instObj C s.heap.objs.size)).get? (s.heap.objs.size + 1) = some (PySem.W.instObj C s.heap.objs.size) := by
    have := Heap.get?_push_size (s.heap.push PySem.W.emptyDict) (o := PySem.W.instObj C s.heap.objs.size) rfl
    rwa [Heap.size_push] at this
  have e3 : (s.heap.push PySem.W.emptyDict).Ns s.heap.objs.size (fun _ => none) := ⟨PySem.W.emptyDict, #[], _, e1, rfl, (fun e he => absurd he (by simp)), fun _ => rfl⟩
  have I1 := I.laid (a := s.heap.objs.size) (o := .own (s.heap.objs.size + 1)) (h' := s.heap.push PySem.W.emptyDict) (t' := s.toks) (fun b u q => Heap.get?_push_of_some _ q) (Nat.le_refl _) ⟨_, e1⟩
  refine I1.laid (a := s.heap.objs.size + 1) (o := .ins C s.heap.objs.size []) (t' := s.toks) (fun b u q => Heap.get?_push_of_some _ q) (Nat.le_of_eq (Heap.size_push _ _)) ?_
  have ne : s.heap.objs.size ≠ s.heap.objs.size + 1 := Nat.ne_of_lt (Nat.lt_succ_self _)
  refine ⟨by rw [upd_ne ne, upd_same], Nat.zero_le _, ne, e2, fun _ => none, (Heap.Ns1.of_empty e3).at fun o q => Heap.get?_push_of_some _ q, fun _ => True.intro, fun y hy => absurd rfl hy⟩
theorem attr_of {prog : Program} {w : World} {env : Env} {e : Expr} {f : Str} {pos : Pos} {s : Shared} {Q : Value → Shared → Prop} (hb : attributeBase e f env (eval e env) = eval e env)
    (h : wpAny (model prog w) A (eval e env) (fun o s₁ => wpAny (model prog w) A (getAttr o f true) Q E s₁) E s) : wpAny (model prog w) A (eval (.Attribute e f pos) env) Q E s :=
  Attribute_any_ h (by rw [arm_eval_Attribute, hb])
end
def sFld (K : PySem.W.Frag) (ta tv : TE) (f : Str) : TS := fun D σ H => tv σ H fun y H1 => ta σ H1 fun x H2 => ∃ a C dx fs, x = .ref a ∧ H2 a = some (.ins C dx fs) ∧ Cls K C ∧ NoAttr K C f ∧ fs.length < 1000 ∧
  D.nx σ (upd H2 a (.ins C dx (putF f y fs)))
section
variable {X : Cx} {o e value : Expr} {f : Str} {pos pos' tpos : Pos} {ta tv : TE}
theorem ps_fld (ha : PE X o ta) (hv : PE X value tv) (hs : swapsWith value (some (.Attribute o f pos')) pos.line X.env = pure false) : PS X (.Assign [.Attribute o f pos'] value pos) (sFld X.K ta tv f) := by
  intro pins s σ H D I h
  refine plainObj_wpAny_Assign_Attribute (thn (hv pins s σ H _ I h) fun u s1 ⟨y, H1, I1, ry, q⟩ => thn (ha pins s1 σ H1 _ I1 q) fun ov s2 ⟨x, H2, I2, rx, a, C, dx, fs, ex, ea, c, n, l, q2⟩ => ?_) hs
  subst ex
  obtain rfl : ov = Value.ref a := rx
  exact setattr_ok I2 ea c n l ry fun s3 I3 => ⟨σ, _, I3, q2⟩
end
section
variable {X : Cx} {pins : List (Addr × Obj)} {σ : St} {H : Hp} {s : Shared} {A : Around} {E : Value → Shared → Prop} {Q : Value → Shared → Prop} {c : Value} {b : Bool}
inductive TyOf (K : PySem.W.Frag) (H : Hp) : V → Value → Prop where
  | non : TyOf K H .non (.type "NoneType")
  | bl (x : Bool) : TyOf K H (.bl x) (.type "bool")
  | int (i : Int) : TyOf K H (.int i) (.type "int")
  | str (x : Str) : TyOf K H (.str x) (.type "str")
  | flt (x : UInt64) : TyOf K H (.flt x) (.type "float")
  | lst {a : Addr} {xs : List V} (e : H a = some (.lst xs)) : TyOf K H (.ref a) (.type "list")
  | frz {a : Addr} {o : Obj} {xs : List V} (e : H a = some (.frz o (.lst xs))) : TyOf K H (.ref a) (.type "list")
  | tup {a : Addr} {xs : List V} (e : H a = some (.tup xs)) : TyOf K H (.ref a) (.type "tuple")
  | dK {a : Addr} {kvs : List (Key × V)} (e : H a = some (.dK kvs)) : TyOf K H (.ref a) (.type "dict")
  | dT {a : Addr} {kvs : List (List Key × V)} (e : H a = some (.dT kvs)) : TyOf K H (.ref a) (.type "dict")
  | ins {a C dx : Addr} {fs : List (Str × V)} (e : H a = some (.ins C dx fs)) (cl : Cls K C) (ha : PySem.W.findIn K (.ref C) "__class__" = some (some (.builtin "object.__class__")))
      (hn : PySem.W.specialIn K (.builtin "object.__class__") "__get__" = some (some (.builtin "getset_descriptor.__get__"))) (htk : PySem.W.takesIn K (.builtin "object.__class__") = some true)
      (hm : PySem.W.mroIn K C (.type "object") = some true) : TyOf K H (.ref a) (.ref C)
theorem isinst_ok {x : V} {u t : Value} (I : Inv X pins σ H s) (rx : RelV x u) (ty : TyOf X.K H x t) (e : PySem.W.kitOne X.K t c = some b) (h : ∀ tk, Q (.bool b) { s with toks := tk }) :
    wpAny (model X.prog X.w) A (call (.builtin "isinstance") [u, c]) Q E s := by
  cases ty with
  | non => cases (show u = Value.none from rx); exact PySem.W.kia_one PySem.W.kitx_none I.kIn True.intro e (fun z => nomatch z) h
  | bl y => cases (show u = Value.bool y from rx); exact PySem.W.kia_one PySem.W.kitx_bool I.kIn True.intro e (fun z => nomatch z) h
  | int i => obtain ⟨t, q⟩ := (show ∃ t, u = Value.int i t from rx); cases q; exact PySem.W.kia_one PySem.W.kitx_int I.kIn True.intro e (fun z => nomatch z) h
  | str y => obtain ⟨t, q⟩ := (show ∃ t, u = Value.str y t from rx); cases q; exact PySem.W.kia_one PySem.W.kitx_str I.kIn True.intro e (fun z => nomatch z) h
  | flt y => obtain ⟨t, q⟩ := (show ∃ t, u = Value.float y t from rx); cases q; exact PySem.W.kia_one PySem.W.kitx_float I.kIn True.intro e (fun z => nomatch z) h
  | @lst a xs ea =>
    cases (show u = Value.ref a from rx)
    obtain ⟨_, _, n, _, h1⟩ := (show ObjOk X.prog X.w H s.heap a (.lst xs) from I.hok a _ ea)
    exact PySem.W.kia_one PySem.W.kitx_list I.kIn ⟨_, h1, rfl⟩ e (fun z => nomatch z) h
  | @frz a ob xs ea =>
    cases (show u = Value.ref a from rx)
    obtain ⟨_, _, _, n, _, h1⟩ := (show ObjOk X.prog X.w H s.heap a (.frz ob (.lst xs)) from I.hok a _ ea)
    exact PySem.W.kia_one PySem.W.kitx_list I.kIn ⟨_, h1, rfl⟩ e (fun z => nomatch z) h
  | @tup a xs ea =>
    cases (show u = Value.ref a from rx)
    obtain ⟨_, _, _, p⟩ := (show ObjOk X.prog X.w H s.heap a (.tup xs) from I.hok a _ ea)
    obtain ⟨o, h1, h2, _⟩ := p
    exact PySem.W.kia_one PySem.W.kitx_tuple I.kIn ⟨o, h1, h2⟩ e (fun z => nomatch z) h
  | @dK a kvs ea =>
    cases (show u = Value.ref a from rx)
    obtain ⟨_, _, vs, _, p⟩ := (show ObjOk X.prog X.w H s.heap a (.dK kvs) from I.hok a _ ea)
    obtain ⟨o, es, ep, h1, h2, _⟩ := p
    exact PySem.W.kia_one PySem.W.kitx_dict I.kIn ⟨o, h1, h2.1⟩ e (fun z => nomatch z) h
  | @dT a kvs ea =>
    cases (show u = Value.ref a from rx)
    obtain ⟨_, _, xs, _, o, es, ep, h1, h2, _⟩ := (show ObjOk X.prog X.w H s.heap a (.dT kvs) from I.hok a _ ea)
    exact PySem.W.kia_one PySem.W.kitx_dict I.kIn ⟨o, h1, h2.1⟩ e (fun z => nomatch z) h
  | @ins a C dx fs ea cl ha hn htk hm =>
    cases (show u = Value.ref a from rx)
    obtain ⟨mA, O, _⟩ := ins_get I.hok ea
    obtain ⟨od, J, _⟩ := O.look
    exact PySem.W.kia_one (PySem.W.kitx_own (cl.get _) cl.hd ha hn htk hm) I.kIn J e (fun z => nomatch z) h
end
end L2
namespace L2
open PySem PySem.Spec PyProof.Rows
structure Room (k : Nat) (A : Around) : Prop where
  hd : A.handled = none
  dp : A.depth + 3 * k + 5 < recursionLimit
  un : A.units + 16 * k + 200 < cLine
theorem Room.mono {j k : Nat} {A : Around} (r : Room k A) (h : j ≤ k) : Room j A := ⟨r.hd, by have := r.dp; omega, by have := r.un; omega⟩
theorem Room.deeper {k : Nat} {A : Around} (r : Room (k + 1) A) (env : Env) : Room k (A.deeper env) :=
  ⟨r.hd, by have := r.dp; show A.depth + 1 + 3 * k + 5 < _; omega, by have := r.un; show A.units + 3 + 16 * k + 200 < _; omega⟩
theorem make_depth {A : Around} {C : Addr} {us : List Value} {kw : List (Str × Value)} : (A.under (.builtin "type.__call__" ⟨.ref C :: us, kw⟩)).depth = A.depth + 1 := by
  first | rfl | simp [Around.under, Code.weight, Code.isCreation, Code.isGuard, Code.isCaller, Code.frames, Code.isFrame, guardIds]
theorem make_units {A : Around} {C : Addr} {us : List Value} {kw : List (Str × Value)} : (A.under (.builtin "type.__call__" ⟨.ref C :: us, kw⟩)).units = A.units + 1 := by
  first | rfl | simp [Around.under, Code.cUnits, Code.frames, Code.isFrame]
theorem Room.make {k : Nat} {A : Around} (r : Room (k + 1) A) (C : Addr) (us : List Value) (kw : List (Str × Value)) : Room k (A.under (.builtin "type.__call__" ⟨.ref C :: us, kw⟩)) :=
  ⟨r.hd, by have := r.dp; rw [make_depth]; omega, by have := r.un; rw [make_units]; omega⟩
theorem Room.depth {k : Nat} {A : Around} (r : Room k A) : A.depth < recursionLimit := by have := r.dp; omega
theorem Room.units {k : Nat} {A : Around} (r : Room k A) : A.units + 64 < cLine := by have := r.un; omega
def tNil : TA := fun _ H Q => Q [] H
def tCons (ta : TE) (tr : TA) : TA := fun σ H Q => ta σ H fun x H1 => tr σ H1 fun xs H2 => Q (x :: xs) H2
section
variable {X : Cx} {e : Expr} {es : List Expr} {te : TE} {t : TA} {pos : Pos}
theorem pa_nil : PA X [] tNil := fun _ _ _ _ H Q I h => Calls.spliced_nil ⟨[], H, I, .nil, h⟩
theorem pa_cons (ha : PE X e te) (hr : PA X es t) (hs : starEach (e :: es) X.env = (false, eval e X.env) :: starEach es X.env := by rfl) : PA X (e :: es) (tCons te t) := by
  intro pos pins s σ H Q I h
  rw [hs]
  show wpAny _ _ (spliced ((false, eval e X.env) :: backTo pos (starEach es X.env))) _ _ s
  refine Calls.spliced_cons (thn (ha pins s σ H _ I h) fun u s1 ⟨x, H1, I1, r1, q1⟩ => ?_)
  exact thn (hr pos pins s1 σ H1 _ I1 q1) fun us s2 ⟨xs, H2, I2, r2, q2⟩ => ⟨x :: xs, H2, I2, .cons r1 r2, q2⟩
def tTup (t : TA) : TE := fun σ H Q => t σ H fun xs H1 => xs.length ≤ sizeLine ∧ ∀ p, H1 p = none → Q (.ref p) (upd H1 p (.tup xs))
def tLst (t : TA) : TE := fun σ H Q => t σ H fun xs H1 => xs.length ≤ sizeLine ∧ ∀ p, H1 p = none → Q (.ref p) (upd H1 p (.lst xs))
theorem pe_tup {x1} (h : PA X es t) : PE X (.Tuple es x1 pos) (tTup t) := by
  intro pins s σ H Q I hq
  refine wpAny_Tuple_spliced (thn (h pos pins s σ H _ I hq) fun us s1 ⟨xs, H1, I1, r, z, q⟩ => ⟨by rw [← r.length]; exact z, ?_⟩)
  have hf : H1 s1.heap.objs.size = none := I1.hok.fresh (Nat.le_refl _)
  refine ⟨.ref s1.heap.objs.size, upd H1 s1.heap.objs.size (.tup xs), I1.laid (t' := s1.toks) (fun b u e => Heap.get?_push_of_some _ e) (Nat.le_refl _) ?_, rfl, q _ hf⟩
  exact ⟨z, us, r, ⟨_, Heap.get?_push_size _ rfl, rfl, _, rfl⟩⟩
theorem pe_lst (h : PA X es t) : PE X (.List es pos) (tLst t) := by
  intro pins s σ H Q I hq
  refine wpAny_List_spliced (thn (h pos pins s σ H _ I hq) fun us s1 ⟨xs, H1, I1, r, z, q⟩ => ⟨by rw [← r.length]; exact z, ?_⟩)
  have hf : H1 s1.heap.objs.size = none := I1.hok.fresh (Nat.le_refl _)
  refine ⟨.ref s1.heap.objs.size, upd H1 s1.heap.objs.size (.lst xs), I1.laid (t' := s1.toks) (fun b u e => Heap.get?_push_of_some _ e) (Nat.le_refl _) ?_, rfl, q _ hf⟩
  exact ⟨z, us, 0, r, Heap.get?_push_size _ rfl⟩
end
abbrev Sp := List V → Hp → VK → XK → Prop
abbrev CXT := List Env → Hp → Shared → XK → Value → Shared → Prop
structure Env0 (P : Program) (w : World) (K : PySem.W.Frag) (mg : Str → Option Value) (base : Heap) (A : Around) (outer : List Env) (s : Shared) (H : Hp) : Prop where
  frames : A.frames = some outer
  mod : Mod K mg base
  bs : ∀ b o, base.get? b = some o → s.heap.get? b = some o ∧ H b = none
  bsz : base.objs.size ≤ s.heap.objs.size
  funs : s.heap.FunFrames base outer
  frf : ∀ b ∈ frs outer, H b = none
  hok : HOk P w H s.heap
  bare : AllBare s.gens
def CE (outer : List Env) (P : Program) (w : World) (H : Hp) (s : Shared) (Q : VK) (u : Value) (s' : Shared) : Prop :=
  ∃ v H', s'.os = s.os ∧ AllBare s'.gens ∧ Un (frs outer) [] H H' s.heap s'.heap ∧ HOk P w H' s'.heap ∧ RelV v u ∧ Q v H'
def CR (CX : CXT) (outer : List Env) (P : Program) (w : World) (H : Hp) (s : Shared) (Q : VK) (E : XK) (r : Result) (s' : Shared) : Prop :=
  match r with
  | .ok (.ret u) => CE outer P w H s Q u s'
  | .ok _ => False
  | .error e => CX outer H s E e s'
structure FnOk (P : Program) (w : World) (K : PySem.W.Frag) (mg : Str → Option Value) (base : Heap) (CX : CXT) (k : Nat) (f : Addr) (fd : FuncData) (ps : List Str) (sp : Sp) : Prop where
  len : ∀ vs H Q E, sp vs H Q E → vs.length = ps.length
  run : ∀ (A : Around) (outer : List Env) (s : Shared) (H : Hp) (args : Args) (us : List Value) (vs : List V) (Q : VK) (E : XK), Room k A → Env0 P w K mg base A outer s H → BindsTo s fd args (ps.zip us) → Vals vs us → sp vs H Q E →
    codeAny (model P w) A (.call (.ref f) args) (CR CX outer P w H s Q E) s
theorem Env0.make {P : Program} {w : World} {K : PySem.W.Frag} {mg : Str → Option Value} {base : Heap} {A : Around} {outer : List Env} {s : Shared} {H : Hp} (e : Env0 P w K mg base A outer s H) (C : Addr) (us : List Value) (kw : List (Str × Value)) :
    Env0 P w K mg base (A.under (.builtin "type.__call__" ⟨.ref C :: us, kw⟩)) outer s H := ⟨by first | exact e.frames | (simpa [Around.under, Code.envs, Code.isFrame, pushEnvs] using e.frames), e.mod, e.bs, e.bsz, e.funs, e.frf, e.hok, e.bare⟩
section
variable {X : Cx} {pins : List (Addr × Obj)} {σ : St} {H : Hp} {s s' : Shared}
theorem Inv.env0 (I : Inv X pins σ H s) : Env0 X.prog X.w X.K X.mg X.base X.A X.stack s H :=
  ⟨I.ok.frames, I.ok.mod, I.bs, Nat.le_trans I.ok.bsz I.sz, I.stack, I.stkFree, I.hok, I.bare⟩
theorem Inv.after {Q : VK} {u : Value} (I : Inv X pins σ H s) (h : CE X.stack X.prog X.w H s Q u s') : EP X pins σ Q u s' := by
  obtain ⟨v, H', os, bare, un, hok, r, q⟩ := h
  obtain ⟨hh, g, d, t, os'⟩ := s'
  obtain rfl : os' = s.os := os
  exact ⟨v, H', I.call (h' := hh) (g' := g) (d' := d) (t' := t) (ch := []) un hok bare (fun b z => absurd z (by simp)), r, q⟩
end
def tCall (sp : Sp) (dvs : List V) (E : XK) (t : TA) : TE := fun σ H Q => t σ H fun vs H1 => sp (vs ++ dvs) H1 Q E
def tMake (C : Addr) (sp : Sp) (dvs : List V) (E : XK) (t : TA) : TE := fun σ H Q => t σ H fun vs H1 => ∀ x dx, H1 x = none → H1 dx = none → dx ≠ x →
  sp (.ref x :: (vs ++ dvs)) (upd (upd H1 dx (.own x)) x (.ins C dx [])) (fun v H2 => v = .non ∧ Q (.ref x) H2) E
def Binds (K : PySem.W.Frag) (fd : FuncData) (ps : List Str) (ds : List Value) : Prop :=
  ∀ (s : Shared) (us : List Value), K.In s.heap → (us ++ ds).length = ps.length → BindsTo s fd ⟨us, []⟩ (ps.zip (us ++ ds))
theorem Binds.all {K : PySem.W.Frag} {fd : FuncData} {ps : List Str} (h : ∀ us : List Value, us.length = ps.length → bindArgs fd ⟨us, []⟩ = pure (ps.zip us)) : Binds K fd ps [] := fun s us _ hl => by
  rw [List.append_nil] at hl ⊢
  exact .of_eq (h us hl)
def Passes (CX : CXT) (X : Cx) (E : XK) : Prop := ∀ (pins : List (Addr × Obj)) (σ : St) (H : Hp) (s : Shared) (e : Value) (s' : Shared), Inv X pins σ H s → CX X.stack H s E e s' → X.xe e s'
section
variable {X : Cx} {CX : CXT} {k : Nat} {f C : Addr} {fd : FuncData} {ps : List Str} {sp : Sp} {dvs : List V} {ds : List Value} {E : XK} {x m : Str} {p pos apos : Pos} {e o : Expr} {es : List Expr} {ta : TE} {t : TA}
theorem run_fn {pins : List (Addr × Obj)} {σ : St} {H : Hp} {s : Shared} {Q : VK} {us : List Value} {vs : List V} (F : FnOk X.prog X.w X.K X.mg X.base CX k f fd ps sp) (hr : Room k X.A) (hb : Binds X.K fd ps ds) (hd : Vals dvs ds) (hx : Passes CX X E)
    (I : Inv X pins σ H s) (r : Vals vs us) (h : sp (vs ++ dvs) H Q E) : wpAny (model X.prog X.w) X.A (call (.ref f) us) (EP X pins σ Q) X.xe s := by
  have r2 : Vals (vs ++ dvs) (us ++ ds) := r.append hd
  have hl : (us ++ ds).length = ps.length := by rw [← r2.length]; exact F.len _ _ _ _ h
  refine wpAny_call (codeAny_mono (F.run X.A X.stack s H ⟨us, []⟩ (us ++ ds) (vs ++ dvs) Q E hr I.env0 (hb s us I.kIn hl) r2 h) fun r s' hq => ?_)
  cases r with
  | error e => exact hx pins σ H s e s' I hq
  | ok fl =>
    cases fl with
    | ret u => exact I.after hq
    | next => exact False.elim hq
    | brk => exact False.elim hq
    | cont => exact False.elim hq
theorem pe_call (F : FnOk X.prog X.w X.K X.mg X.base CX k f fd ps sp) (hr : Room k X.A) (hg : Gl X x) (hm : X.mg x = some (.ref f)) (hk : PySem.W.keepIn X.K (.ref f) = true) (hb : Binds X.K fd ps ds) (hd : Vals dvs ds) (hx : Passes CX X E)
    (ha : PA X (e :: es) t) (hdb : (x == ("__debug__" : Str)) = false := by decide) (he : starEach (e :: es) X.env = (false, eval e X.env) :: starEach es X.env := by rfl) (hpl : (backTo pos (starEach es X.env)).any (·.1) = false := by rfl) :
    PE X (.Call (.Name x p) (e :: es) [] pos) (tCall sp dvs E t) := by
  intro pins s σ H Q I h
  refine wpAny_Call_Name_kw (ld_glob I hg hm ?_ hdb)
  refine PySem.W.callWith_K (h₀ := X.base) I.ok.mod.kin hk (thn (ha pos pins s σ H _ I h) fun us s1 ⟨vs, H1, I1, r, q⟩ => ⟨I1.kIn, ?_⟩) he hpl
  exact run_fn F hr hb hd hx I1 r q
structure Mk (K : PySem.W.Frag) (C f : Addr) : Prop where
  makes : PySem.W.makesIn K C = true
  init : PySem.W.findIn K (.ref C) "__init__" = some (some (.ref f))
  fn : PySem.W.isFn K (.ref f) = true
  kp : PySem.W.keepIn K (.ref C) = true
theorem run_make {pins : List (Addr × Obj)} {σ : St} {H : Hp} {s : Shared} {Q : VK} {us : List Value} {vs : List V} (M : Mk X.K C f) (F : FnOk X.prog X.w X.K X.mg X.base CX k f fd ps sp) (hr : Room (k + 1) X.A) (hb : Binds X.K fd ps ds) (hd : Vals dvs ds)
    (hx : Passes CX X E) (I : Inv X pins σ H s) (r : Vals vs us)
    (h : ∀ x dx, H x = none → H dx = none → dx ≠ x → sp (.ref x :: (vs ++ dvs)) (upd (upd H dx (.own x)) x (.ins C dx [])) (fun v H2 => v = .non ∧ Q (.ref x) H2) E) :
    wpAny (model X.prog X.w) X.A (call (.ref C) us) (EP X pins σ Q) X.xe s := by
  have hq := h (s.heap.objs.size + 1) s.heap.objs.size (I.hok.fresh (Nat.le_succ _)) (I.hok.fresh (Nat.le_refl _)) (Nat.ne_of_lt (Nat.lt_succ_self _))
  have I2 := Inv.made (C := C) I
  have r2 : Vals (V.ref (s.heap.objs.size + 1) :: (vs ++ dvs)) (Value.ref (s.heap.objs.size + 1) :: (us ++ ds)) := .cons rfl (r.append hd)
  have hl : (Value.ref (s.heap.objs.size + 1) :: us ++ ds).length = ps.length := by
    have e := r2.length
    rw [F.len _ _ _ _ hq] at e
    exact e.symm
  refine wpAny_call (make_map (f := f) I.kIn M.makes M.init (beq_iff_eq.mp M.fn) (codeAny_mono (F.run _ X.stack _ _ ⟨Value.ref (s.heap.objs.size + 1) :: us, []⟩ (Value.ref (s.heap.objs.size + 1) :: (us ++ ds)) _ _ E (hr.make C us [])
    (I2.env0.make C us []) (hb _ (Value.ref (s.heap.objs.size + 1) :: us) I2.kIn hl) r2 hq) fun r s' hq' => ?_))
  cases r with
  | error e => exact hx pins σ _ _ e s' I2 hq'
  | ok fl =>
    cases fl with
    | ret u =>
      obtain ⟨v, H', I3, rv, ev, q3⟩ := I2.after hq'
      subst ev
      exact ⟨rv, ⟨V.ref (s.heap.objs.size + 1), H', I3, rfl, q3⟩⟩
    | next => exact False.elim hq'
    | brk => exact False.elim hq'
    | cont => exact False.elim hq'
theorem pe_make (M : Mk X.K C f) (F : FnOk X.prog X.w X.K X.mg X.base CX k f fd ps sp) (hr : Room (k + 1) X.A) (hg : Gl X x) (hm : X.mg x = some (.ref C)) (hb : Binds X.K fd ps ds) (hd : Vals dvs ds) (hx : Passes CX X E)
    (ha : PA X (e :: es) t) (hdb : (x == ("__debug__" : Str)) = false := by decide) (he : starEach (e :: es) X.env = (false, eval e X.env) :: starEach es X.env := by rfl) (hpl : (backTo pos (starEach es X.env)).any (·.1) = false := by rfl) :
    PE X (.Call (.Name x p) (e :: es) [] pos) (tMake C sp dvs E t) := by
  intro pins s σ H Q I h
  refine wpAny_Call_Name_kw (ld_glob I hg hm ?_ hdb)
  refine PySem.W.callWith_K (h₀ := X.base) I.ok.mod.kin M.kp (thn (ha pos pins s σ H _ I h) fun us s1 ⟨vs, H1, I1, r, q⟩ => ⟨I1.kIn, ?_⟩) he hpl
  exact run_make M F hr hb hd hx I1 r q
end
section
variable {X : Cx} {CX : CXT} {k : Nat} {f C : Addr} {fd : FuncData} {ps ks : List Str} {sp : Sp} {E : XK} {x m : Str} {p pos apos kpos : Pos} {e o : Expr} {es : List Expr} {kws : List Keyword} {te ta : TE} {t tk : TA} {nm : Option Str}
variable {g : List Value → List Value → List Value} {gV : List V → List V → List V}
end
structure FnScope (N P : List Str) (sc : Scope) : Prop where
  kind : sc.kind = .function
  co : sc.isCoroutine = false
  gen : sc.isGenerator = false
  nd : N.Nodup
  pre : N.take P.length = P
  par : ∀ x ∈ P, sc.names.lookup x = some .local ∨ sc.names.lookup x = some .cell
  nofree : ∀ y ∈ sc.names, y.2 ≠ .free
theorem bindL_out {kindOf : Str → Option NameKind} {x : Str} : ∀ {binds : List (Str × Value)} {m : Str → Option Value}, (∀ v, (x, v) ∉ binds) → bindL kindOf binds m x = m x
  | [], _, _ => rfl
  | (n, v) :: r, m, h => by
    unfold bindL
    rw [bindL_out fun w hw => h w (List.mem_cons_of_mem _ hw)]
    split
    · have : x ≠ n := by rintro rfl; exact h v List.mem_cons_self
      simp [this]
    · rfl
theorem bindC_out {kindOf : Str → Option NameKind} {x : Str} : ∀ {binds : List (Str × Value)} {m : Str → Option Value}, (∀ v, (x, v) ∉ binds) → bindC kindOf binds m x = m x
  | [], _, _ => rfl
  | (n, v) :: r, m, h => by
    unfold bindC
    rw [bindC_out fun w hw => h w (List.mem_cons_of_mem _ hw)]
    split
    · rfl
    · have : x ≠ n := by rintro rfl; exact h v List.mem_cons_self
      simp [this]
theorem bindL_get {kindOf : Str → Option NameKind} {x : Str} {v : Value} : ∀ {P : List Str} {vs : List Value} {i : Nat} {m : Str → Option Value}, P.Nodup → P[i]? = some x → vs[i]? = some v → kindOf x = some .local →
    bindL kindOf (P.zip vs) m x = some v
  | [], _, _, _, _, h, _, _ => by simp at h
  | _ :: _, [], _, _, _, _, h, _ => by simp at h
  | p :: P, w :: vs, 0, m, nd, h1, h2, hk => by
    simp at h1 h2; subst h1; subst h2
    show bindL kindOf ((p, w) :: P.zip vs) m p = _
    unfold bindL
    rw [bindL_out fun v hv => (List.nodup_cons.mp nd).1 (List.of_mem_zip hv).1, if_pos hk]
    simp
  | p :: P, w :: vs, i + 1, m, nd, h1, h2, hk => by
    show bindL kindOf ((p, w) :: P.zip vs) m x = _
    unfold bindL
    exact bindL_get (i := i) (List.nodup_cons.mp nd).2 (by simpa using h1) (by simpa using h2) hk
theorem bindC_get {kindOf : Str → Option NameKind} {x : Str} {v : Value} : ∀ {P : List Str} {vs : List Value} {i : Nat} {m : Str → Option Value}, P.Nodup → P[i]? = some x → vs[i]? = some v → kindOf x ≠ some .local →
    bindC kindOf (P.zip vs) m x = some v
  | [], _, _, _, _, h, _, _ => by simp at h
  | _ :: _, [], _, _, _, _, h, _ => by simp at h
  | p :: P, w :: vs, 0, m, nd, h1, h2, hk => by
    simp at h1 h2; subst h1; subst h2
    show bindC kindOf ((p, w) :: P.zip vs) m p = _
    unfold bindC
    rw [bindC_out fun v hv => (List.nodup_cons.mp nd).1 (List.of_mem_zip hv).1, if_neg hk]
    simp
  | p :: P, w :: vs, i + 1, m, nd, h1, h2, hk => by
    show bindC kindOf ((p, w) :: P.zip vs) m x = _
    unfold bindC
    exact bindC_get (i := i) (List.nodup_cons.mp nd).2 (by simpa using h1) (by simpa using h2) hk
def start (N : List Str) (vs : List V) : St := vs.map some ++ List.replicate (N.length - vs.length) none
def cxOf (CX : CXT) (P : Program) (w : World) (K : PySem.W.Frag) (mg : Str → Option Value) (base : Heap) (N : List Str) (qual : Str) (scope : Scope) (f : Addr) (cd : Value) (A : Around) (outer : List Env) (s : Shared) (H : Hp) (E : XK) : Cx where
  prog := P
  w := w
  K := K
  mg := mg
  base := base
  A := A.deeper (envOfC qual scope s.heap.objs.size f cd)
  N := N
  s₀ := s
  H₀ := H
  env := envOfC qual scope s.heap.objs.size f cd
  outer := outer
  stack := envOfC qual scope s.heap.objs.size f cd :: outer
  ex := []
  calm := true
  fn := fun _ => true
  pn := []
  xe := fun e s' => wpAny (model P w) (A.deeper (envOfC qual scope s.heap.objs.size f cd)) (leaving (envOfC qual scope s.heap.objs.size f cd) e) (fun _ s'' => CX outer H s E e s'') (fun e' s'' => CX outer H s E e' s'') s'
theorem cell_has {sc : Scope} {n : Nat} {x : Str} (h : sc.names.lookup x = some .cell) : ∃ c, (cellsFrom n sc.names []).lookup x = some c := by
  have q := PySem.W.cellsFrom_some sc.names n [] (.inl h)
  exact Option.isSome_iff_exists.mp q
theorem inv_start {CX : CXT} {P : Program} {w : World} {K : PySem.W.Frag} {mg : Str → Option Value} {base : Heap} {N ps : List Str} {qual : Str} {scope : Scope} {f : Addr} {cd : Value} {A : Around} {outer : List Env} {s s1 : Shared} {H : Hp} {E : XK} {us : List Value} {vs : List V}
    (S : FnScope N ps scope) (hd : A.handled = none) (e0 : Env0 P w K mg base A outer s H) (hl : vs.length = ps.length) (r : Vals vs us)
    (x : InCallC s s.heap.objs.size (bindL (envOfC qual scope s.heap.objs.size f cd).kindOf (ps.zip us) fun _ => none) (cellsFrom (s.heap.objs.size + 1) scope.names []) (bindC (envOfC qual scope s.heap.objs.size f cd).kindOf (ps.zip us) fun _ => none) s1) :
    Inv (cxOf CX P w K mg base N qual scope f cd A outer s H E) [] (start N vs) H s1 := by
  have hpl : ps.length ≤ N.length := by have := congrArg List.length S.pre; rw [List.length_take] at this; omega
  obtain ⟨h1, tk, rfl, hk⟩ := x.done
  have noA : ∀ b : Addr, b ∉ (cxOf CX P w K mg base N qual scope f cd A outer s H E).ex := fun b z => absurd (show b ∈ ([] : List Addr) from z) (by simp)
  refine ⟨⟨e0.mod, S.kind, rfl, rfl, Nat.le_refl _, fun y z c h1 h2 => ?_, fun y hy => ?_, fun y c _ h => ?_, fun _ => hd, Around.frames_deeper e0.frames, .inr ⟨rfl, rfl⟩, fun b z => absurd z (noA b), e0.bs, e0.bsz, fun b _ _ => noA b, fun b z => absurd z (noA b), e0.funs, e0.frf⟩,
    rfl, e0.bare, Un.kept hk, ⟨_, x.toInCall.ns, fun i y v h1 h2 h3 => ?_⟩, fun y c h => ⟨_, x.cell y c h⟩, e0.hok.fresh (Nat.le_refl _), fun y c h => ?_, fun p hp => absurd (show p ∈ ([] : List (Addr × Obj)) from hp) (by simp), e0.hok.kept hk, ?_⟩
  · exact name_of_addr x.apart (PySem.mem_of_lookup h1) (PySem.mem_of_lookup h2)
  · have hy : scope.names.lookup y = some .cell ∨ scope.names.lookup y = some .free := hy
    rcases hy with hy | hy
    · exact cell_has hy
    · exact absurd rfl (S.nofree _ (PySem.mem_of_lookup hy))
  · exact Nat.le_of_lt (x.above y c (PySem.mem_of_lookup h))
  · have hi : i < vs.length := by
      unfold start at h2
      by_cases hi : i < vs.length
      · exact hi
      · rw [List.getElem?_append_right (by simpa using hi)] at h2
        rw [List.getElem?_replicate] at h2
        split at h2 <;> cases h2
    have ha : vs[i]? = some v := by
      unfold start at h2
      rw [List.getElem?_append_left (by simpa using hi), List.getElem?_map] at h2
      cases e : vs[i]? with
      | none => rw [e] at h2; cases h2
      | some a => rw [e] at h2; cases h2; rfl
    obtain ⟨u, hu, rv⟩ := r.get ha
    have hp : ps[i]? = some y := by
      rw [← S.pre, List.getElem?_take_of_lt (by omega)]; exact h1
    have ndP : ps.Nodup := by rw [← S.pre]; exact S.nd.sublist (List.take_sublist _ _)
    refine ⟨u, rv, ?_⟩
    rcases S.par y (List.mem_of_getElem? hp) with k | k
    · exact .inl ⟨k, bindL_get ndP hp hu k⟩
    · obtain ⟨c, e⟩ := cell_has (n := s.heap.objs.size + 1) k
      refine .inr ⟨.inl k, c, e, ?_⟩
      have q := x.cell y c e
      rw [bindC_get ndP hp hu (by show scope.names.lookup y ≠ _; rw [k]; decide)] at q
      exact q
  · exact e0.hok.fresh (Nat.le_of_lt (x.above y c (PySem.mem_of_lookup h)))
  · unfold start
    show _ = N.length
    rw [List.length_append, List.length_map, List.length_replicate]
    omega
theorem fn_of {CX : CXT} {P : Program} {w : World} {K : PySem.W.Frag} {mg : Str → Option Value} {base : Heap} {k : Nat} {f : Addr} {name qual : Str} {params : Arguments} {body : List Stmt} {scope : Scope} {dV kV doc pm cdv ct oc : Value} {an od : Option Addr}
    {osl : Array (Option Value)} {N ps : List Str} {sp : Sp} (lk : K.lookup f = some ⟨oc, od, .func (PySem.W.fnOf name qual params body scope dV kV doc pm an cdv ct), osl⟩) (hcd : PySem.W.codeIn K cdv qual = true) (S : FnScope N ps scope)
    (len : ∀ vs H Q E, sp vs H Q E → vs.length = ps.length)
    (hbody : ∀ (A : Around) (outer : List Env) (s : Shared) (H : Hp) (vs : List V) (Q : VK) (E : XK), Room k (A.deeper (envOfC qual scope s.heap.objs.size f cdv)) → sp vs H Q E →
      ∃ t, PSs (cxOf CX P w K mg base N qual scope f cdv A outer s H E) body t ∧ t { nx := fun _ H' => Q .non H', rt := Q } (start N vs) H) :
    FnOk P w K mg base CX (k + 1) f (PySem.W.fnOf name qual params body scope dV kV doc pm an cdv ct) ps sp := by
  refine ⟨len, fun A outer s H args us vs Q E hr e0 hb r hsp => ?_⟩
  have hl := len _ _ _ _ hsp
  have KX : K.In s.heap := e0.mod.kin.keeps fun b o e => (e0.bs b o e).1
  have lim : s.heap.NoLimit := e0.mod.nolimit.keeps fun b o e => (e0.bs b o e).1
  have hkind : ∀ y ∈ ps.zip us, scope.names.lookup y.1 = some .local ∨ (scope.names.lookup y.1 = some .cell ∧ ((cellsFrom (s.heap.objs.size + 1) scope.names []).lookup y.1).isSome = true) := fun ⟨n, v⟩ hy => by
    rcases S.par n (List.of_mem_zip hy).1 with q | q
    · exact .inl q
    · exact .inr ⟨q, PySem.W.cellsFrom_some _ _ _ (.inl q)⟩
  refine codeAny_call_function hr.depth (KX _ _ lk) rfl S.co S.gen rfl (PySem.W.codeRec_of KX hcd) (hb _ _ _ _ ?_)
  refine wpAny_newFunctionEnv_cells S.kind hkind fun env he s1 x => ?_
  subst he
  refine ⟨lim.keeps x.toInCall.keep, codeAny_func ?_⟩
  obtain ⟨t, ht, hq⟩ := hbody A outer s H vs Q E (hr.deeper _) hsp
  have I : Inv (cxOf CX P w K mg base N qual scope f cdv A outer s H E) [] (start N vs) H s1 := inv_start S hr.hd e0 hl r x
  refine wpAny_mono (ht [] s1 (start N vs) H _ I hq) (fun fl s' hs => ?_) fun e s' hs => hs
  have fin : ∀ {σ' : St} {H' : Hp} {v : V} {u : Value}, Inv (cxOf CX P w K mg base N qual scope f cdv A outer s H E) [] σ' H' s' → RelV v u → Q v H' → CE outer P w H s Q u s' :=
    fun {σ' H' v u} J rv q => ⟨v, H', J.os, J.bare, J.base, J.hok, rv, q⟩
  cases fl with
  | ret u =>
    obtain ⟨v, σ', H', J, rv, q⟩ := hs
    exact fin J rv q
  | next =>
    obtain ⟨σ', H', J, q⟩ := hs
    exact fin (v := V.non) (u := Value.none) J rfl q
  | brk =>
    obtain ⟨_, _, _, q⟩ := hs
    exact False.elim q
  | cont =>
    obtain ⟨_, _, _, q⟩ := hs
    exact False.elim q
end L2
namespace L2
open PySem PySem.Spec PyProof.Rows
section
variable {X : Cx} {x : Str} {p pos : Pos} {e : Expr} {es : List Expr} {t : TA} {id T : String} {r : List V → Hp → VK → Prop}
def tCB (r : List V → Hp → VK → Prop) (t : TA) : TE := fun σ H Q => t σ H fun vs H1 => r vs H1 Q
theorem pe_callB (hc : CallR X (.builtin id) r) (hg : Gl X x) (hm : X.mg x = none) (hv : bootBuiltins x = some (.builtin id)) (ha : PA X (e :: es) t) (hn : x ≠ "__name__" := by decide) (hdb : (x == ("__debug__" : Str)) = false := by decide)
    (he : starEach (e :: es) X.env = (false, eval e X.env) :: starEach es X.env := by rfl) (hpl : (backTo pos (starEach es X.env)).any (·.1) = false := by rfl) : PE X (.Call (.Name x p) (e :: es) [] pos) (tCB r t) := by
  intro pins s σ H Q I h
  refine wpAny_Call_Name_kw (ld_blt I hg hm hv ?_ hn hdb)
  exact PyProof.Rows.callWith_builtin1 (thn (ha pos pins s σ H _ I h) fun us s1 ⟨vs, H1, I1, r1, q1⟩ => hc pins s1 σ H1 vs us Q I1 r1 q1) he hpl
theorem pe_callTy (hc : CallR X (.type T) r) (hg : Gl X x) (hm : X.mg x = none) (hv : bootBuiltins x = some (.type T)) (ha : PA X (e :: es) t) (hn : x ≠ "__name__" := by decide) (hdb : (x == ("__debug__" : Str)) = false := by decide)
    (he : starEach (e :: es) X.env = (false, eval e X.env) :: starEach es X.env := by rfl) (hpl : (backTo pos (starEach es X.env)).any (·.1) = false := by rfl) : PE X (.Call (.Name x p) (e :: es) [] pos) (tCB r t) := by
  intro pins s σ H Q I h
  refine wpAny_Call_Name_kw (ld_blt I hg hm hv ?_ hn hdb)
  exact PyProof.Rows.callWith_type1 (thn (ha pos pins s σ H _ I h) fun us s1 ⟨vs, H1, I1, r1, q1⟩ => hc pins s1 σ H1 vs us Q I1 r1 q1) he hpl
end
end L2
namespace HT
open PySem PyProof.Rows
section
open PySem.SeqAt
open PySem.AutoSeq1 (wpAny_loadPart')
open PySem.MeetsSeq PySem.MeetsSeq2 PySem.MeetsSeq3
end
section
variable {prog : Program} {w : World} {A : Around} {E : Value → Shared → Prop} {s : Shared}
def sIx (n d : Nat) : Option Int → Nat
  | none => d
  | some v => if v < 0 then (v + (n : Int)).toNat else min v.toNat n
end
end HT
namespace L2
open PySem PySem.Spec PyProof.Rows
section
variable {X : Cx} {e : Expr} {te : TE} {lo hi : Option Expr} {tl th : TO} {pos p2 : Pos}
def SlR (X : Cx) (r : V → Option Int → Option Int → Hp → VK → Prop) : Prop :=
  ∀ (pins : List (Addr × Obj)) (s : Shared) (σ : St) (H : Hp) (x : V) (v vl vu : Value) (lo hi : Option Int) (sl : Addr) (Q : VK), Inv X pins σ H s → RelV x v → s.heap.IsSliceOf sl vl vu .none → IsPart vl lo → IsPart vu hi → r x lo hi H Q →
    ∃ T id, typeLookup (.type T) "__getitem__" = pure (some (.builtin id)) ∧ s.TypeIs v T ∧ wpAny (model X.prog X.w) X.A (getItem v (.ref sl)) (EP X pins σ Q) X.xe s
def cutV (xs : List V) (lo hi : Option Int) : List V := (xs.drop (HT.sIx xs.length 0 lo)).take (HT.sIx xs.length xs.length hi - HT.sIx xs.length 0 lo)
theorem cutV_length (xs : List V) (lo hi : Option Int) : (cutV xs lo hi).length ≤ xs.length := by
  unfold cutV
  rw [List.length_take, List.length_drop]
  omega
end
end L2
namespace L2
open PySem PySem.Spec PyProof.Rows
def ixN (n : Nat) (i : Int) : Option Nat := if 0 ≤ i then (if i < n then some i.toNat else none) else if -(n : Int) ≤ i then some (i + n).toNat else none
def atI {α : Type} (xs : List α) (i : Int) : Option α := (ixN xs.length i).bind fun j => xs[j]?
theorem ixN_seq {n : Nat} {i : Int} {j : Nat} (h : ixN n i = some j) : seqIndex? i n = some j ∧ j < n ∧ -(n : Int) ≤ i ∧ i < n := by
  unfold ixN at h
  by_cases h0 : 0 ≤ i
  · rw [if_pos h0] at h
    by_cases h1 : i < n
    · rw [if_pos h1] at h
      have e : i.toNat = j := Option.some.inj h
      exact ⟨by rw [seqIndex_of h0 h1, e], by omega, by omega, h1⟩
    · rw [if_neg h1] at h; cases h
  · rw [if_neg h0] at h
    by_cases h1 : -(n : Int) ≤ i
    · rw [if_pos h1] at h
      have e : (i + n).toNat = j := Option.some.inj h
      exact ⟨by rw [seqIndex_neg (by omega) h1, e], by omega, h1, by omega⟩
    · rw [if_neg h1] at h; cases h
theorem atI_get {α : Type} {xs : List α} {i : Int} {v : α} (h : atI xs i = some v) : ∃ j, seqIndex? i xs.length = some j ∧ xs[j]? = some v ∧ j < xs.length ∧ -(xs.length : Int) ≤ i ∧ i < xs.length := by
  unfold atI at h
  cases e : ixN xs.length i with
  | none => rw [e] at h; cases h
  | some j =>
    rw [e] at h
    obtain ⟨h1, h2, h3, h4⟩ := ixN_seq e
    exact ⟨j, h1, h, h2, h3, h4⟩
theorem atI_nat {α : Type} {xs : List α} {j : Nat} {v : α} (h : xs[j]? = some v) : atI xs (j : Int) = some v := by
  have hj : j < xs.length := (List.getElem?_eq_some_iff.mp h).1
  have e : ixN xs.length (j : Int) = some j := by
    unfold ixN
    rw [if_pos (by omega), if_pos (by omega)]; simp
  unfold atI; rw [e]; exact h
def PlainIx (b : Expr) : Prop := ∀ o i, subscripted b false o i = operate [o, i] (getItem o i)
def IxR (X : Cx) (r : R2) : Prop :=
  ∀ (value slice : Expr) (pins : List (Addr × Obj)) (s : Shared) (σ : St) (H : Hp) (x y : V) (v u : Value) (Q : VK), Inv X pins σ H s → RelV x v → RelV y u → r x y H Q →
    subscripted slice false v u = operate [v, u] (getItem v u) → wpAny (model X.prog X.w) X.A (subscriptTail value slice v u) (EP X pins σ Q) X.xe s
def MtR (X : Cx) (id : String) (r : V → List V → Hp → VK → Prop) : Prop :=
  ∀ (pins : List (Addr × Obj)) (s : Shared) (σ : St) (H : Hp) (x : V) (xs : List V) (v : Value) (us : List Value) (Q : VK), Inv X pins σ H s → RelV x v → Vals xs us → r x xs H Q →
    wpAny (model X.prog X.w) X.A (call (.builtin id) (v :: us)) (EP X pins σ Q) X.xe s
section
variable {X : Cx} {a b : Expr} {ta tb : TE} {pos : Pos}
theorem pe_ix {r : R2} (hr : IxR X r) (ha : PE X a ta) (hb : PE X b tb) (hs : PlainIx b) : PE X (.Subscript a b pos) (tOp r ta tb) := by
  intro pins s σ H Q I h
  exact Subscript_ (binT ha hb I h fun v u s2 x y H2 I2 rx ry q => hr a b pins s2 σ H2 x y v u Q I2 rx ry q (hs _ _))
def rIxL (K : PySem.W.Frag) : R2 := fun x y H Q => ∃ p xs i v, x = .ref p ∧ y = .int i ∧ SqL K H p xs ∧ atI xs i = some v ∧ Q v H
def rIxT (K : PySem.W.Frag) : R2 := fun x y H Q => ∃ p xs i v, x = .ref p ∧ y = .int i ∧ SqT K H p xs ∧ atI xs i = some v ∧ Q v H
theorem ix_list : IxR X (rIxL X.K) := by
  intro value slice pins s σ H x y v u Q I rx ry h hs
  obtain ⟨p, xs, i, z, rfl, rfl, hq, he, q⟩ := h
  cases rx
  obtain ⟨t, rfl⟩ := ry
  obtain ⟨its, r, pl, hz⟩ := I.list hq
  obtain ⟨j, h1, h2, h3, h4, h5⟩ := atI_get he
  obtain ⟨w, ew, rw'⟩ := r.get h2
  have hl := r.length
  have hn := line63
  have fin : EP X pins σ Q w s := ⟨z, H, I, rw', q⟩
  by_cases h0 : 0 ≤ i
  · have hj : i.toNat = j := by
      rw [seqIndex_of h0 h5] at h1
      exact Option.some.inj h1
    exact item_listR pl.isList h0 (by omega) (by rw [hj]; simpa using ew) fin hs
  · have hj : (i + (its.toArray.size : Int)).toNat = j := by
      rw [seqIndex_neg (by omega) h4] at h1
      rw [List.size_toArray, ← hl]
      exact Option.some.inj h1
    exact subscriptTail_builtinR (x := w) pl.isList.typeIs slot_list_getitem.lookup
      (wpAny_getItem_list_neg (Q := fun r s' => r = w ∧ EP X pins σ Q r s') pl.isList (by omega) (by rw [List.size_toArray] <;> omega) (by omega) (by rw [hj]; simpa using ew) ⟨rfl, fin⟩) hs
theorem ix_tup : IxR X (rIxT X.K) := by
  intro value slice pins s σ H x y v u Q I rx ry h hs
  obtain ⟨p, xs, i, z, rfl, rfl, hq, he, q⟩ := h
  cases rx
  obtain ⟨t, rfl⟩ := ry
  obtain ⟨its, r, pl, hz⟩ := I.tuple hq
  obtain ⟨j, h1, h2, h3, h4, h5⟩ := atI_get he
  obtain ⟨w, ew, rw'⟩ := r.get h2
  have hl := r.length
  have hn := line63
  have fin : EP X pins σ Q w s := ⟨z, H, I, rw', q⟩
  exact subscriptTail_builtinR (x := w) pl.typeIs slot_tuple_getitem.lookup
    (getItem_tuple (j := j) (Q := fun r s' => r = w ∧ EP X pins σ Q r s') pl (by omega) (by omega) (by rw [List.size_toArray, ← hl]; exact h1) (by simpa using ew) ⟨rfl, fin⟩) hs
theorem slice_bounds (lo hi : Option Int) (n : Nat) : (sliceBounds lo hi none n).1 = ((HT.sIx n 0 lo : Nat) : Int) ∧ (sliceBounds lo hi none n).2.1 = ((HT.sIx n n hi : Nat) : Int) ∧ (sliceBounds lo hi none n).2.2 = 1 := by
  refine ⟨?_, ?_, rfl⟩
  · cases lo with
    | none => simp [sliceBounds, HT.sIx]
    | some i =>
      simp only [sliceBounds, HT.sIx, Option.getD_none, show (1 : Int) > 0 by decide, if_true]
      by_cases h : i < 0
      · simp only [h, if_true] <;> omega
      · simp only [h, if_false] <;> omega
  · cases hi with
    | none => simp [sliceBounds, HT.sIx]
    | some i =>
      simp only [sliceBounds, HT.sIx, Option.getD_none, show (1 : Int) > 0 by decide, if_true]
      by_cases h : i < 0
      · simp only [h, if_true] <;> omega
      · simp only [h, if_false] <;> omega
theorem slicePick_cut (its : List Value) (lo hi : Option Int) : slicePick its.toArray lo hi none = ((its.drop (HT.sIx its.length 0 lo)).take (HT.sIx its.length its.length hi - HT.sIx its.length 0 lo)).toArray := by
  obtain ⟨h1, h2, h3⟩ := slice_bounds lo hi its.toArray.size
  unfold slicePick
  rw [h1, h2, h3]
  simp only [sliceRange_one, pick_run, List.size_toArray] <;> rfl
def rSlL (K : PySem.W.Frag) : V → Option Int → Option Int → Hp → VK → Prop := fun x lo hi H Q => ∃ a xs, x = .ref a ∧ SqL K H a xs ∧ ∀ p, H p = none → Q (.ref p) (upd H p (.lst (cutV xs lo hi)))
theorem sl_list : SlR X (rSlL X.K) := by
  intro pins s σ H x v vl vu lo hi sl Q I rx hs pl pu h
  obtain ⟨a, xs, rfl, hx, q⟩ := h
  cases rx
  obtain ⟨its, r, ht, hz⟩ := I.list hx
  have hlen := r.length
  refine ⟨"list", _, slot_list_getitem.lookup, ht.isList.typeIs, ?_⟩
  refine wpAny_getItem_list_slice ht.isList hs pl pu .none (by simp) ?_ (by rw [List.size_toArray] <;> omega)
  rw [slicePick_cut, ← hlen]
  refine ⟨.ref s.heap.objs.size, _, I.laid (t' := s.toks) (o := .lst (cutV xs lo hi)) (fun b ob q => Heap.get?_push_of_some _ q) (Nat.le_refl _) ?_, rfl, q _ (I.hok.fresh (Nat.le_refl _))⟩
  exact ⟨Nat.le_trans (cutV_length xs lo hi) hz, _, 0, (r.drop (HT.sIx xs.length 0 lo)).take (HT.sIx xs.length xs.length hi - HT.sIx xs.length 0 lo), Heap.get?_push_size _ rfl⟩
def flatV : V → Bool
  | .non => true
  | .bl _ => true
  | .int _ => true
  | .str _ => true
  | _ => false
def eqV : V → V → Bool
  | .non, .non => true
  | .bl a, .bl b => a == b
  | .bl a, .int b => (if a then 1 else 0) == b
  | .int a, .bl b => a == (if b then 1 else 0)
  | .int a, .int b => a == b
  | .str a, .str b => a == b
  | _, _ => false
theorem eqAt_V {A : Around} {s : Shared} {y x : V} {u v : Value} (ry : RelV y u) (rx : RelV x v) (fy : flatV y = true) (fx : flatV x = true) : SeqAt.EqAt A s u v (eqV y x) := by
  cases y with
  | non =>
    cases ry
    cases x with
    | non => cases rx; exact SeqAt.EqAt.same _
    | bl b => cases rx; exact SeqAt.EqAt.none_bool b
    | int b => obtain ⟨t, rfl⟩ := rx; exact SeqAt.EqAt.none_int b t
    | str b => obtain ⟨t, rfl⟩ := rx; exact SeqAt.EqAt.none_str b t
    | _ => exact absurd (show false = true from fx) Bool.false_ne_true
  | bl a =>
    cases ry
    cases x with
    | non => cases rx; exact SeqAt.EqAt.bool_none a
    | bl b => cases rx; exact SeqAt.EqAt.bool_bool a b
    | int b => obtain ⟨t, rfl⟩ := rx; exact SeqAt.EqAt.bool_int a b t
    | str b => obtain ⟨t, rfl⟩ := rx; exact SeqAt.EqAt.bool_str a b t
    | _ => exact absurd (show false = true from fx) Bool.false_ne_true
  | int a =>
    obtain ⟨t', rfl⟩ := ry
    cases x with
    | non => cases rx; exact SeqAt.EqAt.int_none a t'
    | bl b => cases rx; exact SeqAt.EqAt.int_bool a t' b
    | int b => obtain ⟨t, rfl⟩ := rx; exact SeqAt.EqAt.int_int a t' b t
    | str b => obtain ⟨t, rfl⟩ := rx; exact SeqAt.EqAt.int_str a t' b t
    | _ => exact absurd (show false = true from fx) Bool.false_ne_true
  | str a =>
    obtain ⟨t', rfl⟩ := ry
    cases x with
    | non => cases rx; exact SeqAt.EqAt.str_none a t'
    | bl b => cases rx; exact SeqAt.EqAt.str_bool a t' b
    | int b => obtain ⟨t, rfl⟩ := rx; exact SeqAt.EqAt.str_int a t' b t
    | str b => obtain ⟨t, rfl⟩ := rx; exact SeqAt.EqAt.str_str a t' b t
    | _ => exact absurd (show false = true from fx) Bool.false_ne_true
  | _ => exact absurd (show false = true from fy) Bool.false_ne_true
theorem call_list_of : CallR X (.type "list") (fun xs H Q => ∃ p ys, xs = [.ref p] ∧ (SqL X.K H p ys ∨ SqT X.K H p ys) ∧ ∀ l, H l = none → Q (.ref l) (upd H l (.lst ys))) := by
  intro pins s σ H xs us Q I r h
  obtain ⟨p, ys, rfl, hq, q⟩ := h
  obtain ⟨u, rfl, rx⟩ := vals1 r
  cases rx
  have fin : ∀ (its : List Value), Vals ys its → ys.length ≤ sizeLine → ∀ (h' : Heap) (c' : Nat), (∀ b o', s.heap.get? b = some o' → h'.get? b = some o') →
      h'.get? s.heap.objs.size = some { cls := .type "list", dict := none, data := .seq its.toArray c', slots := #[] } → EP X pins σ Q (.ref s.heap.objs.size) { s with heap := h' } := fun its r' hz h' c' kp e =>
    ⟨.ref s.heap.objs.size, _, I.laid (t' := s.toks) kp (Nat.le_refl _) (show ObjOk X.prog X.w _ h' _ (.lst ys) from ⟨hz, its, c', r', e⟩), rfl, q _ (I.hok.fresh (Nat.le_refl _))⟩
  rcases hq with hq | hq
  · obtain ⟨its, r', pl, hz⟩ := I.list hq
    have hlen := r'.length
    obtain ⟨o, ho, hc, n, hd⟩ := pl.isList
    exact call_list_seq p (.inl rfl) ho hc hd (fun h' c' kp e => fin its r' hz h' c' kp e) (by simp only [List.size_toArray] <;> omega)
  · obtain ⟨its, r', pl, hz⟩ := I.tuple hq
    have hlen := r'.length
    obtain ⟨o, ho, hc, n, hd⟩ := pl
    exact call_list_seq p (.inr rfl) ho hc hd (fun h' c' kp e => fin its r' hz h' c' kp e) (by simp only [List.size_toArray] <;> omega)
theorem call_tuple_of : CallR X (.type "tuple") (fun xs H Q => ∃ p ys, xs = [.ref p] ∧ ((SqL X.K H p ys ∧ ∀ l, H l = none → Q (.ref l) (upd H l (.tup ys))) ∨ (SqT X.K H p ys ∧ Q (.ref p) H))) := by
  intro pins s σ H xs us Q I r h
  obtain ⟨p, ys, rfl, h⟩ := h
  obtain ⟨u, rfl, rx⟩ := vals1 r
  cases rx
  rcases h with ⟨hq, q⟩ | ⟨hq, q⟩
  · obtain ⟨its, r', pl, hz⟩ := I.list hq
    have hlen := r'.length
    refine call_tuple_list pl.isList (fun h' kp => ?_) (by simp only [List.size_toArray] <;> omega)
    have I1 : Inv X pins σ H { s with heap := h' } := I.kept (t' := s.toks) kp
    have I2 : Inv X pins σ (upd H h'.objs.size (.tup ys)) { s with heap := h'.push { cls := .type "tuple", data := .seq its.toArray } } :=
      I1.laid (t' := s.toks) (fun b o e => Heap.get?_push_of_some _ e) (Nat.le_refl _) (show ObjOk X.prog X.w _ _ _ (.tup ys) from ⟨hz, its, r', IsTup.new _ _⟩)
    exact ⟨.ref h'.objs.size, _, I2, rfl, q _ (I1.hok.fresh (Nat.le_refl _))⟩
  · obtain ⟨its, r', pl, hz⟩ := I.tuple hq
    exact call_tuple_same pl ⟨.ref p, H, I, rfl, q⟩
def tyV (K : PySem.W.Frag) (T : String) (x : V) (H : Hp) : Prop := match x with
  | .str _ => T = "str"
  | .int _ => T = "int"
  | .ref p => (T = "list" ∧ ∃ xs, SqL K H p xs) ∨ (T = "tuple" ∧ ∃ o, K.lookup p = some o ∧ o.cls = .type "tuple" ∧ o.dict = none) ∨
      (T = "dict" ∧ ((∃ kvs, H p = some (.dK kvs)) ∨ ∃ kvs, H p = some (.dT kvs))) ∨ (T = "set" ∧ ∃ S n, H p = some (.set S n))
  | _ => False
theorem tyV_is {pins : List (Addr × Obj)} {σ : St} {H : Hp} {s : Shared} {T : String} {x : V} {v : Value} (I : Inv X pins σ H s) (r : RelV x v) (ty : tyV X.K T x H) :
    s.TypeIs v T ∧ ∀ a, v = .ref a → ∃ ob, s.heap.get? a = some ob ∧ ob.dict = none := by
  cases x with
  | str z =>
    obtain ⟨t, rfl⟩ := r
    cases (show T = "str" from ty)
    exact ⟨typeIs_str s z t, fun _ e => nomatch e⟩
  | int i =>
    obtain ⟨t, rfl⟩ := r
    cases (show T = "int" from ty)
    exact ⟨typeIs_int s i t, fun _ e => nomatch e⟩
  | ref p =>
    cases r
    rcases ty with ⟨rfl, xs, hq⟩ | ⟨rfl, o, hk, hc, hd⟩ | ⟨rfl, hk⟩ | ⟨rfl, S, n, hk⟩
    · obtain ⟨its, _, pl, _⟩ := I.list hq
      refine ⟨pl.isList.typeIs, fun a e => ?_⟩
      cases e
      obtain ⟨o, n, e, c, hd, _⟩ := pl
      exact ⟨o, e, hd⟩
    · refine ⟨⟨o, I.kIn p o hk, hc⟩, fun a e => ?_⟩
      cases e
      exact ⟨o, I.kIn _ o hk, hd⟩
    · have z : ∃ o, s.heap.get? p = some o ∧ o.ExactDict := by
        rcases hk with ⟨kvs, hk⟩ | ⟨kvs, hk⟩
        · obtain ⟨_, _, _, _, o, _, _, e, ex, _⟩ := I.hok p _ hk
          exact ⟨o, e, ex⟩
        · obtain ⟨_, _, _, _, o, _, _, e, ex, _⟩ := I.hok p _ hk
          exact ⟨o, e, ex⟩
      obtain ⟨o, e, ex⟩ := z
      refine ⟨⟨o, e, ex.1⟩, fun a e2 => ?_⟩
      cases e2
      exact ⟨o, e, ex.2.1⟩
    · obtain ⟨o, _, _, _, e, ex, _⟩ := I.hok p _ hk
      refine ⟨⟨o, e, ex.1⟩, fun a e2 => ?_⟩
      cases e2
      exact ⟨o, e, ex.2.1⟩
  | _ => exact False.elim ty
def tBM (K : PySem.W.Frag) (T : String) (r : V → List V → Hp → VK → Prop) (to : TE) (t : TA) : TE := fun σ H Q => to σ H fun x H1 => tyV K T x H1 ∧ t σ H1 fun xs H2 => r x xs H2 Q
variable {o e : Expr} {es : List Expr} {to : TE} {t : TA} {name : Str} {apos cpos : Pos} {T id : String} {r : V → List V → Hp → VK → Prop}
theorem pe_bm (pa : PlainAttrs T) (slot : Slot T name id) (hty : typeOf (.builtin id) = pure (.type "method_descriptor")) (hm : MtR X id r) (ho : PE X o to) (ha : PA X (e :: es) t)
    (hbase : attributeBase o name X.env (eval o X.env) = eval o X.env := by rfl)
    (hfew : ((backTo cpos (starEach (e :: es) X.env)).all (fun x => !x.1) && (backToKw cpos (keywordEach [] X.env)).all (fun x => x.1.isSome)
      && decide ((e :: es).length + ([] : List Keyword).length + (if ([] : List Keyword).isEmpty then 0 else 1) < 30)) = true := by rfl)
    (hline : (apos.endLine == cpos.line) = true := by rfl) (hs : starEach (e :: es) X.env = (false, eval e X.env) :: starEach es X.env := by rfl) (hplain : (backTo cpos (starEach es X.env)).any (·.1) = false := by rfl) :
    PE X (.Call (.Attribute o name apos) (e :: es) [] cpos) (tBM X.K T r to t) := by
  intro pins s σ H Q I h
  refine wpAny_Call_method_late hbase hfew hline rfl (thn (ho pins s σ H _ I h) fun v s1 ⟨x, H1, I1, r1, ty, q1⟩ => ?_)
  obtain ⟨h1, h2⟩ := tyV_is I1 r1 ty
  refine ⟨T, id, pa, slot, hty, h1, h2, ?_⟩
  have hA := ha cpos pins s1 σ H1 _ I1 q1
  rw [hs] at hA ⊢
  refine Calls.callWith_builtin (by show (false || (backTo cpos (starEach es X.env)).any (·.1)) = false; rw [hplain] <;> rfl) (Calls.evalArgs_plain ?_)
  exact thn hA fun us s2 ⟨vs, H2, I2, r2, q2⟩ => hm pins s2 σ H2 x vs v us Q I2 r1 r2 q2
/- xs.append(e), list.index on a module's tuple .. are MtR facts of 06m -/
end
end L2
namespace L2
open PySem PySem.Spec PyProof.Rows
def MtM (X : Cx) (id : String) (r : V → List V → Hp → VK → Prop) : Prop :=
  ∀ (pins : List (Addr × Obj)) (s : Shared) (σ : St) (H : Hp) (x : V) (xs : List V) (v : Value) (us : List Value) (Q : VK), Inv X pins σ H s → RelV x v → Vals xs us → r x xs H Q →
    wpAny (model X.prog X.w) X.A (call (.builtin id) (v :: us)) (EP X pins σ Q) X.xe s
theorem Vals.one : ∀ {x : V} {us : List Value}, Vals [x] us → ∃ u, us = [u] ∧ RelV x u
  | _, _, .cons r .nil => ⟨_, rfl, r⟩
section
variable {X : Cx} {pins : List (Addr × Obj)} {σ : St} {H : Hp} {s : Shared} {l b : Addr} {xs ys zs : List V}
theorem Inv.lset {its its' : List Value} {n : Nat} {f : Array Value → Array Value} {t' : Nat} (I : Inv X pins σ H s) (hH : H l = some (.lst xs))
    (e : s.heap.get? l = some { cls := .type "list", data := .seq its.toArray n }) (hf : f its.toArray = its'.toArray) (hv : Vals ys its') (hz : ys.length ≤ sizeLine) :
    Inv X pins σ (upd H l (.lst ys)) { s with heap := s.heap.update l (Obj.mapSeq f), toks := t' } := by
  have q := PySem.IsL.update e f
  rw [hf] at q
  refine I.write (x := l) (e := l) (by rw [hH]; exact trivial) (.inl rfl) (fun b' u hb hu => (Heap.get?_update_other s.heap (Obj.mapSeq f) (Ne.symm hb)).trans hu) ⟨_, q⟩ ?_
  exact ⟨hz, its', _, hv, q⟩
theorem Inv.lstM (I : Inv X pins σ H s) (hH : H l = some (.lst xs)) : xs.length ≤ sizeLine ∧ ∃ (its : List Value) (n : Nat), Vals xs its ∧ xs.length = its.length ∧ s.heap.get? l = some { cls := .type "list", data := .seq its.toArray n } := by
  obtain ⟨z, its, n, r, e⟩ := I.hok l _ hH
  exact ⟨z, its, n, r, r.length, e⟩
end
section
variable {X : Cx}
def rAppend : V → List V → Hp → VK → Prop := fun x vs H Q => ∃ l xs y, x = .ref l ∧ vs = [y] ∧ H l = some (.lst xs) ∧ xs.length < sizeLine ∧ Q .non (upd H l (.lst (xs ++ [y])))
theorem mt_append : MtM X "list.append" rAppend := by
  intro pins s σ H x vs v us Q I rx rv h
  obtain ⟨l, xs, y, rfl, rfl, hH, hz, q⟩ := h
  cases rx
  obtain ⟨u, rfl, ru⟩ := rv.one
  obtain ⟨z, its, n, r, hl, e⟩ := I.lstM hH
  refine call_meets F.slot_list_append ⟨_, e, rfl⟩ F.entry_list_append (F.args_list_append_2 _ _) (PySem.list_append l its.toArray n u (by rw [List.size_toArray]; omega)) ⟨e, ?_⟩
  refine ⟨.non, _, I.lset (its' := its ++ [u]) hH e (by simp) (r.append (.cons ru .nil)) ?_, rfl, q⟩
  rw [List.length_append, List.length_singleton]
  omega
end
section
variable {prog : Program} {w : World} {A : Around} {E : Value → Shared → Prop} {s : Shared}
end
section
variable {X : Cx}
end
end L2
namespace Att
open PySem PySem.W PySem.Calls PyProof.Rows
theorem ints_of_wellAll {P : Params} {h : Heap} : ∀ (ns : List Int) (vs : List Value), WellAll P h vs (ns.map WData.int) → IntsAre vs ns := by
  intro ns
  induction ns with
  | nil =>
    intro vs w
    rw [List.map_nil] at w
    cases w
    exact .nil
  | cons n ns ih =>
    intro vs w
    rw [List.map_cons] at w
    cases w with
    | cons a b =>
      cases a
      exact .cons _ _ (ih _ b)
theorem script_of {l : OpenLaw} {n : Nat} (hn : l.most = some n) {P : Params} {h : Heap} {args : List WData} {vals : List Value}
    (hpre : l.row.toRowW.claim.pre args = true) (hwl : WellAll P h vals args) :
    ∃ a vs ns, vals = [Value.ref a] ∧ args = [WData.list (ns.map WData.int)] ∧ h.get? a = some { cls := .type "list", data := .seq vs.toArray } ∧ IntsAre vs ns ∧ ns.length ≤ n := by
  have hsh : WShape.hasAll [] args [.list .int] = true := (pre_splitW hpre).1
  have hc : l.pre.holds [] { args := args } = true := (pre_splitW hpre).2
  obtain ⟨d, r, rfl, h1, h2⟩ := hasAllW_cons hsh
  obtain rfl := hasAllW_nil h2
  obtain ⟨xs, rfl, h3⟩ := hasW_list h1
  obtain ⟨ns, rfl⟩ := items_int h3
  have hlen : ns.length ≤ n := by
    unfold OpenLaw.pre at hc
    have h4 : (WTm.not (.lt (.lit (.int (n : Int))) (.len (.arg 0)))).holds [] { args := [.list (ns.map .int)] } = true := by
      have h4 := (holds_andW hc).1
      rw [hn] at h4
      exact h4
    have h5 := condW_of h4 (w_not (w_lt w_lit (w_len_list (w_arg rfl))))
    rw [List.length_map] at h5
    refine Nat.le_of_not_lt fun q => ?_
    have q' : (n : Int) < ((ns.length : Nat) : Int) := by omega
    first
      | (rw [decide_eq_true q'] at h5; exact absurd h5 (by decide))
      | (simp at h5; omega)
  cases hwl with
  | cons w1 w2 =>
    cases w2
    cases w1 with
    | list ho hall => exact ⟨_, _, ns, rfl, rfl, ho, ints_of_wellAll ns _ hall, hlen⟩
theorem post_true (l : OpenLaw) (args : List WData) : l.row.toRowW.claim.post args (.bool true) args = true :=
  postW_of (r := l.row.toRowW) (X := (true == true))
    (show WShape.has [] (.bool true) .bool = true by first | rfl | decide | simp [WShape.has, WShape.arms, WShape.armsAll])
    (show (WTm.eq .res (.lit (.bool true))).value [] { args := args, res := some (.bool true), after := args } = some (.bool (true == true)) from w_eq_bool (w_res rfl) w_lit) rfl
section
variable {prog : Program} {w : World} {A : Around} {E : Value → Shared → Prop} {s : Shared} {K : Frag}
end
end Att
namespace L2
open PySem PySem.Spec PyProof.Rows
theorem vals_ints : ∀ {vs : List Value} {ns : List Int}, IntsAre vs ns → Vals (ns.map V.int) vs
  | _, _, .nil => .nil
  | _, _, .cons n t h => .cons ⟨t, rfl⟩ (vals_ints h)
def Only (H : Hp) : Prop := ∀ b, H b = none ∨ ∃ o xs, H b = some (.frz o (.lst xs))
theorem law_call {P : Program} {w : World} {K : PySem.W.Frag} {mg mb : Str → Option Value} {CX : CXT} {k : Nat} {fa a : Addr} {fd : FuncData} {x : Str} {sp : Sp} {s₁ : Shared} {vs : List Value} {ns : List Int}
    (KX : K.In s₁.heap) (hns : s₁.heap.Ns mainGlobals mg) (hb : s₁.heap.Ns builtinsNs mb) (hbb : ∀ x : Str, x ≠ "__name__" → mb x = bootBuiltins x) (hlim : s₁.heap.NoLimit) (hg : s₁.gens = #[])
    (ha : s₁.heap.get? a = some { cls := .type "list", data := .seq vs.toArray }) (hi : IntsAre vs ns) (hl : ns.length ≤ sizeLine) (hr : Room k callerA)
    (F : ∀ base : Heap, K.In base → base.Ns mainGlobals mg → FnOk P w K mg base CX k fa fd [x] sp) (hbind : ∀ (s : Shared) (u : Value), BindsTo s fd ⟨[u], []⟩ [(x, u)])
    (hsp : ∀ H : Hp, Only H → SqL K H a (ns.map V.int) → sp [.ref a] H (fun v _ => v = .bl true) fun _ _ _ => False)
    (hCX : ∀ H e s', CX [] H s₁ (fun _ _ _ => False) e s' → False) :
    codeAny (model P w) callerA (.call (.ref fa) ⟨[.ref a], []⟩) (fun r s' => r = .ok (.ret (.bool true)) ∧ OldK s₁.heap s'.heap ∧ s'.os = s₁.os ∧ AllBare s'.gens) s₁ := by
  have rv := vals_ints hi
  have lenV := hi.length
  -- from an abstract heap in which nothing but the script may be tracked
  have core : ∀ H : Hp, Only H → SqL K H a (ns.map V.int) → HOk P w H s₁.heap → (∀ b, H b ≠ none → b = a) → (H a ≠ none → K.lookup a = none) →
      codeAny (model P w) callerA (.call (.ref fa) ⟨[.ref a], []⟩) (fun r s' => r = .ok (.ret (.bool true)) ∧ OldK s₁.heap s'.heap ∧ s'.os = s₁.os ∧ AllBare s'.gens) s₁ := by
    intro H hO hS hok hA hK
    have base_of : ∀ {b : Addr} {o : Obj}, s₁.heap.get? b = some o → H b = none → (hidT s₁.heap H).get? b = some o := fun e n => hidT_get e n
    have noA : ∀ {b : Addr} {o : Obj} {es : Array DictEntry} {ep : Nat}, s₁.heap.get? b = some o → o.data = .dict es ep → H b = none := fun {b o es ep} e d => by
      cases q : H b with
      | none => rfl
      | some u =>
        have e' : b = a := hA b (by rw [q]; simp)
        subst e'
        rw [ha] at e; cases e
        have d' : Data.seq vs.toArray _ = Data.dict es ep := d
        cases d'
    have nsK : ∀ {b : Addr} {m : Str → Option Value}, s₁.heap.Ns b m → (hidT s₁.heap H).Ns b m := fun {b m} ⟨o, es, ep, e, d, r⟩ => ⟨o, es, ep, base_of e (noA e d), d, r⟩
    have hKb : K.In (hidT s₁.heap H) := fun b o e => base_of (KX b o e) (by
      cases q : H b with
      | none => rfl
      | some u =>
        have e' : b = a := hA b (by rw [q]; simp)
        subst e'
        rw [hK (by rw [q]; simp)] at e; cases e)
    have hM : Mod K mg (hidT s₁.heap H) := ⟨hKb, nsK hns, ⟨mb, nsK hb, hbb⟩, let ⟨mc, h1, h2⟩ := hlim; ⟨mc, nsK h1, h2⟩⟩
    have e0 : Env0 P w K mg (hidT s₁.heap H) callerA [] s₁ H := ⟨rfl, hM, fun b o e => of_hidT e, Nat.le_of_eq (hidT_size _ _), trivial, fun b hb => absurd (show b ∈ ([] : List Addr) from hb) (by simp), hok, .of_eq hg⟩
    refine codeAny_mono ((F _ hKb (nsK hns)).run callerA [] s₁ H ⟨[.ref a], []⟩ [.ref a] [.ref a] _ _ hr e0 (hbind s₁ (.ref a)) (.cons rfl .nil) (hsp H hO hS)) fun r s' h => ?_
    cases r with
    | error e => exact (hCX H e s' h).elim
    | ok fl =>
      cases fl with
      | next => exact False.elim h
      | brk => exact False.elim h
      | cont => exact False.elim h
      | ret u =>
        obtain ⟨v, H', os, bare, un, hok', r', q⟩ := h
        have q' : v = .bl true := q
        subst q'
        obtain rfl : u = Value.bool true := r'
        refine ⟨rfl, OldK.of_keep fun b o e => ?_, os, bare⟩
        cases q : H b with
        | none => exact un.keep b o e q (by intro z; exact absurd (show b ∈ ([] : List Addr) from z) (by simp)) (by simp)
        | some u =>
          rcases hO b with z | ⟨ob, xs, z⟩
          · rw [q] at z; cases z
          · have z2 := un.frzs b ob _ z
            obtain ⟨e1, _⟩ := hok b _ z
            obtain ⟨e2, _⟩ := hok' b _ z2
            rw [e] at e1; cases e1
            exact e2
  cases hk : K.lookup a with
  | some o =>
    -- the script is one of the module's own objects
    have e := KX a o hk
    rw [ha] at e
    cases e
    refine core (fun _ => none) (fun _ => .inl rfl) (.inr ⟨_, vs.toArray, _, hk, rfl, rfl, rfl, by rw [List.size_toArray, lenV]; exact hl, by simpa using rv⟩) (fun b u z => by have z' : (none : Option HO) = some u := z; cases z') (fun b z => absurd rfl z) fun z => absurd rfl z
  | none =>
    refine core (fun b => if b = a then some (.frz { cls := .type "list", data := .seq vs.toArray } (.lst (ns.map V.int))) else none) (fun b => ?_) (.inl (.inr ⟨{ cls := .type "list", data := .seq vs.toArray }, if_pos rfl⟩)) (fun b u z => ?_) (fun b z => ?_) fun _ => hk
    · by_cases hb : b = a
      · exact .inr ⟨_, _, if_pos hb⟩
      · exact .inl (if_neg hb)
    · by_cases hb : b = a
      · have z' := (if_pos hb).symm.trans z
        cases z'
        subst hb
        exact ⟨ha, by rw [List.length_map]; exact hl, vs, _, rv, ha⟩
      · have z' := (if_neg hb).symm.trans z
        cases z'
    · by_cases hb : b = a
      · exact hb
      · exact absurd (if_neg hb) z
end L2
namespace L2
open PySem PySem.Spec PyProof.Rows
end L2
/- THE LAST THEOREM (shape; LID, My.* are yours):
   My.Adr: a structure of the addresses that your layer names (classes, functions); My.Txt K t: a structure (Prop) of the equations over K;
   My.txt_mk : {K} {implicit addresses ..} (e1 : nsIn K mainGlobals "law" = some (some (.ref f))) (e2 : K.lookup f = some ⟨oc, od, .func (fnOf "law" "law" params body scope dV kV doc pm an cdv ct), sl⟩) (e3 : codeIn K cdv "law" = true) .. : ∃ t, My.Txt K t
(the tactic k_is has no namespace: write k_is) -/
namespace L2
open PySem PySem.Spec PyProof.Rows
def defArgs (s : Stmt) : Arguments := match s with
  | .FunctionDef _ a _ _ _ _ _ _ _ _ => a
  | _ => { posonlyargs := [], args := [], vararg := none, kwonlyargs := [], kw_defaults := [], kwarg := none, defaults := [] }
def defBody (s : Stmt) : List Stmt := match s with
  | .FunctionDef _ _ b _ _ _ _ _ _ _ => b
  | _ => []
def defScope (s : Stmt) : Scope := match s with
  | .FunctionDef _ _ _ _ _ _ sc _ _ _ => sc
  | _ => { kind := .function, names := [], isGenerator := false, isCoroutine := false }
abbrev CX0 : CXT := fun _ _ _ _ _ _ => False
abbrev E0 : XK := fun _ _ _ => False
theorem pass0 {X : Cx} : Passes CX0 X E0 := fun _ _ _ _ _ _ _ h => h.elim
structure Fun (K : PySem.W.Frag) (x qual : Str) (st : Stmt) (f : Addr) (fd : FuncData) : Prop where
  ex : ∃ (oc : Value) (od : Option Addr) (kV doc pm : Value) (an : Option Addr) (cdv ct : Value) (osl : Array (Option Value)),
    fd = PySem.W.fnOf x qual (defArgs st) (defBody st) (defScope st) .none kV doc pm an cdv ct ∧ K.lookup f = some ⟨oc, od, .func fd, osl⟩ ∧ PySem.W.codeIn K cdv qual = true
  kp : PySem.W.keepIn K (.ref f) = true
section
variable {P : Program} {w : World} {K : PySem.W.Frag} {mg : Str → Option Value} {base : Heap}
theorem Fun.ok {x qual : Str} {st : Stmt} {f : Addr} {fd : FuncData} {N ps : List Str} {k : Nat} {sp : Sp} (F : Fun K x qual st f fd) (S : FnScope N ps (defScope st)) (len : ∀ vs H Q E, sp vs H Q E → vs.length = ps.length)
    (hbody : ∀ (cdv : Value) (A : Around) (outer : List Env) (s : Shared) (H : Hp) (vs : List V) (Q : VK) (E : XK), Room k (A.deeper (envOfC qual (defScope st) s.heap.objs.size f cdv)) → sp vs H Q E →
      ∃ t, PSs (cxOf CX0 P w K mg base N qual (defScope st) f cdv A outer s H E).nox (defBody st) t ∧ t { nx := fun _ H' => Q .non H', rt := Q } (start N vs) H) : FnOk P w K mg base CX0 (k + 1) f fd ps sp := by
  obtain ⟨oc, od, kV, doc, pm, an, cdv, ct, osl, rfl, lk, hcd⟩ := F.ex
  refine fn_of lk hcd S len fun A outer s H vs Q E hr hsp => ?_
  obtain ⟨t, h, q⟩ := hbody cdv A outer s H vs Q E hr hsp
  exact ⟨t, h.nox, q⟩
theorem Fun.binds {x qual : Str} {st : Stmt} {f : Addr} {fd : FuncData} {ps : List Str} (F : Fun K x qual st f fd)
    (h : ∀ (kV doc pm : Value) (an : Option Addr) (cdv ct : Value) (us : List Value), us.length = ps.length → bindArgs (PySem.W.fnOf x qual (defArgs st) (defBody st) (defScope st) .none kV doc pm an cdv ct) ⟨us, []⟩ = pure (ps.zip us)) : Binds K fd ps [] := by
  obtain ⟨oc, od, kV, doc, pm, an, cdv, ct, osl, rfl, lk, hcd⟩ := F.ex
  exact .all (h kV doc pm an cdv ct)
theorem fun_mk {x qual : Str} {st : Stmt} {f : Addr} {oc : Value} {od an : Option Addr} {osl : Array (Option Value)} {kV doc pm cdv ct : Value} (l : K.lookup f = some ⟨oc, od, .func (PySem.W.fnOf x qual (defArgs st) (defBody st) (defScope st) .none kV doc pm an cdv ct), osl⟩)
    (c : PySem.W.codeIn K cdv qual = true) (k : PySem.W.keepIn K (.ref f) = true) : Fun K x qual st f (PySem.W.fnOf x qual (defArgs st) (defBody st) (defScope st) .none kV doc pm an cdv ct) := ⟨⟨oc, od, kV, doc, pm, an, cdv, ct, osl, rfl, l, c⟩, k⟩
end
theorem small1000 {n : Nat} (h : n ≤ 1000) : n < sizeLine := Nat.lt_of_le_of_lt h (by decide)
section
variable {X : Cx}
end
theorem iteF {A B : Prop} (h : B) : if false = true then A else B := by
  rw [if_neg Bool.false_ne_true]
  exact h
theorem iteT {A B : Prop} (h : A) : if true = true then A else B := by
  rw [if_pos rfl]
  exact h
def Same (H H' : Hp) : Prop := ∀ b o, H b = some o → H' b = some o
theorem Same.refl (H : Hp) : Same H H := fun _ _ h => h
theorem Same.trans {H H1 H2 : Hp} (a : Same H H1) (b : Same H1 H2) : Same H H2 := fun c o h => b c o (a c o h)
theorem Same.free {H H' : Hp} (e : Same H H') {l : Addr} (h : H' l = Option.none) : H l = Option.none := by
  cases q : H l with
  | none => rfl
  | some o =>
    rw [e l o q] at h
    cases h
theorem Same.seq {K : PySem.W.Frag} {H H' : Hp} {a : Addr} {xs : List V} (e : Same H H') (h : SqL K H a xs) : SqL K H' a xs := by
  rcases h with (h | ⟨o, h⟩) | h
  · exact .inl (.inl (e _ _ h))
  · exact .inl (.inr ⟨o, e _ _ h⟩)
  · exact .inr h
end L2
set_option maxHeartbeats 400000
namespace FL
open PySem PySem.Spec PyProof.Rows L2
inductive D where
  | non | bl (b : Bool) | int (i : Int) | str (x : Str) | ty (n : String)
  | tup (ds : List D)
  /-- a list that is read -/
  | ls (ds : List D)
  /-- a list of this def's own making, at a -/
  | lst (a : Addr) (ds : List D)
  /-- an object of which only its place is told -/
  | ob (a : Addr)
  /-- a tuple that the text's names hold -/
  | kt (ds : List D)
  /-- a list that nothing changes any more -/
  | fl (ds : List D)
  /-- a dict that nothing changes any more: are its keys tuples, its keys, its values -/
  | fd (t : Bool) (ks vs : List D)
  /-- a dict of this def's own making, at a -/
  | dc (a : Addr) (t : Bool) (ks vs : List D)
  /-- an instance of the class at C that nothing changes any more, with its list of forms -/
  | qi (C : Addr) (ds : List D)
def keyD : Key → D
  | .inl i => .int i
  | .inr x => .str x
def dOf : HO → Option (Bool × List D × List V)
  | .dK kvs => if (kvs.map (·.1)).Nodup then some (false, kvs.map (fun p => keyD p.1), kvs.map (·.2)) else none
  | .dT kvs => if (kvs.map (·.1)).Nodup then some (true, kvs.map (fun p => .tup (p.1.map keyD)), kvs.map (·.2)) else none
  | _ => none
mutual
inductive Is (K : PySem.W.Frag) (H : Hp) : V → D → Prop
  | non : Is K H .non .non
  | bl (b : Bool) : Is K H (.bl b) (.bl b)
  | int (i : Int) : Is K H (.int i) (.int i)
  | str (x : Str) : Is K H (.str x) (.str x)
  | ty (n : String) : Is K H (.ty n) (.ty n)
  | tup {a : Addr} {xs : List V} {ds : List D} (h : H a = some (.tup xs)) (r : IsAll K H xs ds) : Is K H (.ref a) (.tup ds)
  | ls {a : Addr} {xs : List V} {ds : List D} (h : SqL K H a xs) (r : IsAll K H xs ds) : Is K H (.ref a) (.ls ds)
  | lst {a : Addr} {xs : List V} {ds : List D} (h : H a = some (.lst xs)) (r : IsAll K H xs ds) : Is K H (.ref a) (.lst a ds)
  | ob (a : Addr) : Is K H (.ref a) (.ob a)
  | kt {a : Addr} {xs : List V} {ds : List D} (h : SqT K H a xs) (r : IsAll K H xs ds) : Is K H (.ref a) (.kt ds)
  | fl {a : Addr} {o : Obj} {xs : List V} {ds : List D} (h : H a = some (.frz o (.lst xs))) (r : IsAll K H xs ds) : Is K H (.ref a) (.fl ds)
  | fd {a : Addr} {o : Obj} {u : HO} {us : List V} {t : Bool} {ks vs : List D} (h : H a = some (.frz o u)) (e : dOf u = some (t, ks, us)) (r : IsAll K H us vs) : Is K H (.ref a) (.fd t ks vs)
  | dc {a : Addr} {u : HO} {us : List V} {t : Bool} {ks vs : List D} (h : H a = some u) (e : dOf u = some (t, ks, us)) (r : IsAll K H us vs) : Is K H (.ref a) (.dc a t ks vs)
  | qi {a l C dx : Addr} {o o' : Obj} {xs : List V} {ds : List D} (h : H a = some (.frz o (.ins C dx [("forms", .ref l)]))) (e : H l = some (.frz o' (.lst xs))) (r : IsAll K H xs ds) : Is K H (.ref a) (.qi C ds)
inductive IsAll (K : PySem.W.Frag) (H : Hp) : List V → List D → Prop
  | nil : IsAll K H [] []
  | cons {v : V} {vs : List V} {d : D} {ds : List D} (h : Is K H v d) (r : IsAll K H vs ds) : IsAll K H (v :: vs) (d :: ds)
end
theorem sameT {K : PySem.W.Frag} {H H' : Hp} {a : Addr} {xs : List V} (e : Same H H') (h : SqT K H a xs) : SqT K H' a xs := by
  rcases h with (h | ⟨o, h⟩) | h
  · exact .inl (.inl (e _ _ h))
  · exact .inl (.inr ⟨o, e _ _ h⟩)
  · exact .inr h
mutual
theorem Is.mono {K : PySem.W.Frag} {H H' : Hp} (e : Same H H') : ∀ {v : V} {d : D}, Is K H v d → Is K H' v d
  | _, _, .non => .non
  | _, _, .bl b => .bl b
  | _, _, .int i => .int i
  | _, _, .str x => .str x
  | _, _, .ty n => .ty n
  | _, _, .tup h r => .tup (e _ _ h) (IsAll.mono e r)
  | _, _, .ls h r => .ls (e.seq h) (IsAll.mono e r)
  | _, _, .lst h r => .lst (e _ _ h) (IsAll.mono e r)
  | _, _, .ob a => .ob a
  | _, _, .kt h r => .kt (sameT e h) (IsAll.mono e r)
  | _, _, .fl h r => .fl (e _ _ h) (IsAll.mono e r)
  | _, _, .fd h z r => .fd (e _ _ h) z (IsAll.mono e r)
  | _, _, .dc h z r => .dc (e _ _ h) z (IsAll.mono e r)
  | _, _, .qi h z r => .qi (e _ _ h) (e _ _ z) (IsAll.mono e r)
theorem IsAll.mono {K : PySem.W.Frag} {H H' : Hp} (e : Same H H') : ∀ {vs : List V} {ds : List D}, IsAll K H vs ds → IsAll K H' vs ds
  | _, _, .nil => .nil
  | _, _, .cons h r => .cons (Is.mono e h) (IsAll.mono e r)
end
theorem IsAll.length {K : PySem.W.Frag} {H : Hp} : ∀ {vs : List V} {ds : List D}, IsAll K H vs ds → vs.length = ds.length
  | _, _, .nil => rfl
  | _, _, .cons _ r => by simp [IsAll.length r]
theorem IsAll.get {K : PySem.W.Frag} {H : Hp} : ∀ {vs : List V} {ds : List D}, IsAll K H vs ds → ∀ {i : Nat} {d : D}, ds[i]? = some d → ∃ v, vs[i]? = some v ∧ Is K H v d
  | _, _, .nil, i, d, e => by simp at e
  | _, _, .cons h r, 0, d, e => by simp at e; subst e; exact ⟨_, rfl, h⟩
  | _, _, .cons h r, i + 1, d, e => by
    obtain ⟨v, e1, h1⟩ := IsAll.get r (i := i) (d := d) (by simpa using e)
    exact ⟨v, by simpa using e1, h1⟩
theorem IsAll.append {K : PySem.W.Frag} {H : Hp} : ∀ {vs us : List V} {ds es : List D}, IsAll K H vs ds → IsAll K H us es → IsAll K H (vs ++ us) (ds ++ es)
  | _, _, _, _, .nil, s => s
  | _, _, _, _, .cons h r, s => .cons h (IsAll.append r s)
theorem IsAll.ints {K : PySem.W.Frag} {H : Hp} : ∀ (ns : List Int), IsAll K H (ns.map V.int) (ns.map D.int)
  | [] => .nil
  | n :: ns => .cons (.int n) (IsAll.ints ns)
theorem Is.int_inv {K : PySem.W.Frag} {H : Hp} {v : V} {i : Int} (h : Is K H v (.int i)) : v = .int i := by cases h; rfl
theorem Is.bl_inv {K : PySem.W.Frag} {H : Hp} {v : V} {b : Bool} (h : Is K H v (.bl b)) : v = .bl b := by cases h; rfl
theorem Is.str_inv {K : PySem.W.Frag} {H : Hp} {v : V} {x : Str} (h : Is K H v (.str x)) : v = .str x := by cases h; rfl
theorem Is.ty_inv {K : PySem.W.Frag} {H : Hp} {v : V} {x : String} (h : Is K H v (.ty x)) : v = .ty x := by cases h; rfl
theorem Is.non_inv {K : PySem.W.Frag} {H : Hp} {v : V} (h : Is K H v .non) : v = .non := by cases h; rfl
theorem Is.ob_inv {K : PySem.W.Frag} {H : Hp} {v : V} {a : Addr} (h : Is K H v (.ob a)) : v = .ref a := by cases h; rfl
theorem Is.tup_inv {K : PySem.W.Frag} {H : Hp} {v : V} {ds : List D} (h : Is K H v (.tup ds)) : ∃ a xs, v = .ref a ∧ SqT K H a xs ∧ IsAll K H xs ds := by
  cases h with
  | tup h r => exact ⟨_, _, rfl, .of h, r⟩
theorem Is.kt_inv {K : PySem.W.Frag} {H : Hp} {v : V} {ds : List D} (h : Is K H v (.kt ds)) : ∃ a xs, v = .ref a ∧ SqT K H a xs ∧ IsAll K H xs ds := by
  cases h with
  | kt h r => exact ⟨_, _, rfl, h, r⟩
theorem Is.fl_inv {K : PySem.W.Frag} {H : Hp} {v : V} {ds : List D} (h : Is K H v (.fl ds)) : ∃ a o xs, v = .ref a ∧ H a = some (.frz o (.lst xs)) ∧ IsAll K H xs ds := by
  cases h with
  | fl h r => exact ⟨_, _, _, rfl, h, r⟩
theorem Is.qi_inv {K : PySem.W.Frag} {H : Hp} {v : V} {C : Addr} {ds : List D} (h : Is K H v (.qi C ds)) : ∃ a l dx o o' xs, v = .ref a ∧ H a = some (.frz o (.ins C dx [("forms", .ref l)])) ∧ H l = some (.frz o' (.lst xs)) ∧ IsAll K H xs ds := by
  cases h with
  | qi h e r => exact ⟨_, _, _, _, _, _, rfl, h, e, r⟩
theorem Is.dc_inv {K : PySem.W.Frag} {H : Hp} {v : V} {t : Bool} {ks vs : List D} {a : Addr} (h : Is K H v (.dc a t ks vs)) : v = .ref a ∧ ∃ u us, H a = some u ∧ dOf u = some (t, ks, us) ∧ IsAll K H us vs := by
  cases h with
  | dc h e r => exact ⟨rfl, _, _, h, e, r⟩
theorem Is.lst_inv {K : PySem.W.Frag} {H : Hp} {v : V} {ds : List D} {a : Addr} (h : Is K H v (.lst a ds)) : v = .ref a ∧ ∃ xs, H a = some (.lst xs) ∧ IsAll K H xs ds := by
  cases h with
  | lst h r => exact ⟨rfl, _, h, r⟩
theorem Is.ls_inv {K : PySem.W.Frag} {H : Hp} {v : V} {ds : List D} (h : Is K H v (.ls ds)) : ∃ a xs, v = .ref a ∧ SqL K H a xs ∧ IsAll K H xs ds := by
  cases h with
  | ls h r => exact ⟨_, _, rfl, h, r⟩
def lsD : D → Option (List D)
  | .ls ds => some ds
  | .lst _ ds => some ds
  | .fl ds => some ds
  | _ => none
theorem Is.lsD_inv {K : PySem.W.Frag} {H : Hp} {v : V} {d : D} {ds : List D} (h : Is K H v d) (e : lsD d = some ds) : ∃ a xs, v = .ref a ∧ SqL K H a xs ∧ IsAll K H xs ds := by
  cases d with
  | ls es => cases e; exact h.ls_inv
  | lst a es => cases e; obtain ⟨h1, xs, h2, h3⟩ := h.lst_inv; exact ⟨a, xs, h1, .of h2, h3⟩
  | fl es => cases e; obtain ⟨a, o, xs, h1, h2, h3⟩ := h.fl_inv; exact ⟨a, xs, h1, .inl (.inr ⟨o, h2⟩), h3⟩
  | _ => cases e
inductive Fz : D → Prop
  | non : Fz .non
  | bl (b : Bool) : Fz (.bl b)
  | int (i : Int) : Fz (.int i)
  | str (x : Str) : Fz (.str x)
  | ty (n : String) : Fz (.ty n)
  | ob (a : Addr) : Fz (.ob a)
  | tup {ds : List D} (h : ∀ d ∈ ds, Fz d) : Fz (.tup ds)
  | kt {ds : List D} (h : ∀ d ∈ ds, Fz d) : Fz (.kt ds)
  | fl {ds : List D} (h : ∀ d ∈ ds, Fz d) : Fz (.fl ds)
  | fd {t : Bool} {ks vs : List D} (h : ∀ d ∈ vs, Fz d) : Fz (.fd t ks vs)
  | qi {C : Addr} {ds : List D} (h : ∀ d ∈ ds, Fz d) : Fz (.qi C ds)
theorem Fz.qi_inv {C : Addr} {ds : List D} (h : Fz (.qi C ds)) : ∀ d ∈ ds, Fz d := by cases h with | qi h => exact h
theorem Fz.tup_inv {ds : List D} (h : Fz (.tup ds)) : ∀ d ∈ ds, Fz d := by cases h with | tup h => exact h
theorem Fz.kt_inv {ds : List D} (h : Fz (.kt ds)) : ∀ d ∈ ds, Fz d := by cases h with | kt h => exact h
theorem Fz.fl_inv {ds : List D} (h : Fz (.fl ds)) : ∀ d ∈ ds, Fz d := by cases h with | fl h => exact h
theorem Fz.fd_inv {t : Bool} {ks vs : List D} (h : Fz (.fd t ks vs)) : ∀ d ∈ vs, Fz d := by cases h with | fd h => exact h
theorem Fz.no_dc {a : Addr} {t : Bool} {ks vs : List D} (h : Fz (.dc a t ks vs)) : False := by cases h
theorem Fz.no_ls {ds : List D} (h : Fz (.ls ds)) : False := by cases h
theorem Fz.no_lst {a : Addr} {ds : List D} (h : Fz (.lst a ds)) : False := by cases h
def KT (H H' : Hp) : Prop := (∀ b xs, H b = some (.tup xs) → H' b = some (.tup xs)) ∧ ∀ b o u, H b = some (.frz o u) → H' b = some (.frz o u)
theorem KT.trans {H H1 H2 : Hp} (a : KT H H1) (b : KT H1 H2) : KT H H2 := ⟨fun c xs h => b.1 c xs (a.1 c xs h), fun c o u h => b.2 c o u (a.2 c o u h)⟩
theorem KT.seqT {K : PySem.W.Frag} {H H' : Hp} {a : Addr} {xs : List V} (e : KT H H') (h : SqT K H a xs) : SqT K H' a xs := by
  rcases h with (h | ⟨o, h⟩) | h
  · exact .inl (.inl (e.1 _ _ h))
  · exact .inl (.inr ⟨o, e.2 _ _ _ h⟩)
  · exact .inr h
mutual
theorem Is.keep {K : PySem.W.Frag} {H H' : Hp} (e : KT H H') : ∀ {v : V} {d : D}, Is K H v d → Fz d → Is K H' v d
  | _, _, .non, _ => .non
  | _, _, .bl b, _ => .bl b
  | _, _, .int i, _ => .int i
  | _, _, .str x, _ => .str x
  | _, _, .ty n, _ => .ty n
  | _, _, .tup h r, f => .tup (e.1 _ _ h) (IsAll.keep e r f.tup_inv)
  | _, _, .ls _ _, f => f.no_ls.elim
  | _, _, .lst _ _, f => f.no_lst.elim
  | _, _, .ob a, _ => .ob a
  | _, _, .kt h r, f => .kt (e.seqT h) (IsAll.keep e r f.kt_inv)
  | _, _, .fl h r, f => .fl (e.2 _ _ _ h) (IsAll.keep e r f.fl_inv)
  | _, _, .fd h z r, f => .fd (e.2 _ _ _ h) z (IsAll.keep e r f.fd_inv)
  | _, _, .dc _ _ _, f => f.no_dc.elim
  | _, _, .qi h z r, f => .qi (e.2 _ _ _ h) (e.2 _ _ _ z) (IsAll.keep e r f.qi_inv)
theorem IsAll.keep {K : PySem.W.Frag} {H H' : Hp} (e : KT H H') : ∀ {vs : List V} {ds : List D}, IsAll K H vs ds → (∀ d ∈ ds, Fz d) → IsAll K H' vs ds
  | _, _, .nil, _ => .nil
  | _, _, .cons h r, f => .cons (Is.keep e h (f _ List.mem_cons_self)) (IsAll.keep e r fun d hd => f d (List.mem_cons_of_mem _ hd))
end
abbrev Ro := List (Option D)
def ownA : D → Option Addr
  | .lst a _ => some a
  | .dc a _ _ _ => some a
  | _ => none
def Mu (ρ : Ro) (a : Addr) : Prop := ∃ (i : Nat) (d : D), ρ[i]? = some (some d) ∧ ownA d = some a
@[simp] theorem ownA_non : ownA .non = none := rfl
@[simp] theorem ownA_bl (b : Bool) : ownA (.bl b) = none := rfl
@[simp] theorem ownA_int (i : Int) : ownA (.int i) = none := rfl
@[simp] theorem ownA_str (x : Str) : ownA (.str x) = none := rfl
@[simp] theorem ownA_tup (ds : List D) : ownA (.tup ds) = none := rfl
@[simp] theorem ownA_ls (ds : List D) : ownA (.ls ds) = none := rfl
@[simp] theorem ownA_ob (a : Addr) : ownA (.ob a) = none := rfl
@[simp] theorem ownA_kt (ds : List D) : ownA (.kt ds) = none := rfl
@[simp] theorem ownA_fl (ds : List D) : ownA (.fl ds) = none := rfl
@[simp] theorem ownA_fd (t : Bool) (ks vs : List D) : ownA (.fd t ks vs) = none := rfl
@[simp] theorem ownA_qi (C : Addr) (ds : List D) : ownA (.qi C ds) = none := rfl
theorem Fz.own {d : D} (h : Fz d) : ownA d = none := by cases h <;> rfl
theorem Fz.no_own {d : D} {a : Addr} (h : Fz d) (z : ownA d = some a) : False := by rw [h.own] at z; cases z
inductive Mine : D → Prop
  | lst {a : Addr} {ds : List D} (h : ∀ e ∈ ds, Fz e) : Mine (.lst a ds)
  | dc {a : Addr} {t : Bool} {ks vs : List D} (h : ∀ e ∈ vs, Fz e) : Mine (.dc a t ks vs)
structure RelS (X : Cx) (Hb H : Hp) (σ : L2.St) (ρ : Ro) : Prop where
  same : Same Hb H
  len : σ.length = ρ.length
  val : ∀ (i : Nat) (d : D), ρ[i]? = some (some d) → ∃ v, σ[i]? = some (some v) ∧ Is X.K H v d ∧ (Fz d ∨ Is X.K Hb v d ∨ Mine d)
  own : ∀ a, Mu ρ a → Hb a = none
theorem Mine.keep {K : PySem.W.Frag} {H H' : Hp} {v : V} {d : D} (m : Mine d) (h : Is K H v d) (kt : KT H H') (hk : ∀ a, ownA d = some a → H' a = H a) : Is K H' v d := by
  cases m with
  | lst f =>
    obtain ⟨rfl, ys, g1, g2⟩ := h.lst_inv
    exact .lst (by rw [hk _ rfl]; exact g1) (g2.keep kt f)
  | dc f =>
    obtain ⟨rfl, u, us, g1, g2, g3⟩ := h.dc_inv
    exact .dc (by rw [hk _ rfl]; exact g1) g2 (g3.keep kt f)
theorem ne_list {K : PySem.W.Frag} {H : Hp} {v : V} {d : D} {a l : Addr} {xs : List V} (h : Is K H v d) (z : ownA d = some a) (hl : H l = some (.lst xs)) (hn : ∀ es, d ≠ .lst l es) : a ≠ l := fun e => by
  subst e
  cases d with
  | lst b es => cases z; exact hn es rfl
  | dc b t ks vs =>
    cases z
    obtain ⟨_, u, us, g1, g2, _⟩ := h.dc_inv
    rw [hl] at g1
    cases g1
    cases g2
  | _ => cases z
theorem RelS.mono {X : Cx} {Hb H H' : Hp} {σ : L2.St} {ρ : Ro} (r : RelS X Hb H σ ρ) (e : Same H H') : RelS X Hb H' σ ρ :=
  ⟨r.same.trans e, r.len, fun i d h => let ⟨v, a, b, c⟩ := r.val i d h; ⟨v, a, b.mono e, c⟩, r.own⟩
theorem RelS.mu {X : Cx} {Hb H : Hp} {σ : L2.St} {ρ : Ro} (r : RelS X Hb H σ ρ) {a : Addr} (h : Mu ρ a) : ∃ u, H a = some u ∧ Mut (some u) := by
  obtain ⟨i, d, e, z⟩ := h
  obtain ⟨v, _, h, _⟩ := r.val i _ e
  cases d with
  | lst b ds =>
    cases z
    obtain ⟨_, xs, h, _⟩ := h.lst_inv
    exact ⟨_, h, trivial⟩
  | dc b t ks vs =>
    cases z
    obtain ⟨_, u, us, h, e, _⟩ := h.dc_inv
    refine ⟨u, h, ?_⟩
    cases u with
    | dK _ => exact trivial
    | dT _ => exact trivial
    | _ => cases e
  | _ => cases z
theorem set_get {ρ : Ro} {n j : Nat} {d e : D} (h : (ρ.set n (some d))[j]? = some (some e)) : (j = n ∧ e = d ∧ n < ρ.length) ∨ (j ≠ n ∧ ρ[j]? = some (some e)) := by
  by_cases hji : n = j
  · subst hji
    rw [List.getElem?_set, if_pos rfl] at h
    by_cases hl : n < ρ.length
    · rw [if_pos hl] at h
      cases h
      exact .inl ⟨rfl, rfl, hl⟩
    · rw [if_neg hl] at h; cases h
  · rw [List.getElem?_set_ne hji] at h
    exact .inr ⟨fun z => hji z.symm, h⟩
theorem RelS.set {X : Cx} {Hb H : Hp} {σ : L2.St} {ρ : Ro} (r : RelS X Hb H σ ρ) {v : V} {d : D} (h : Is X.K H v d) (n : Nat) (hf : Fz d ∨ Is X.K Hb v d ∨ Mine d) (ho : ∀ a, ownA d = some a → Hb a = none) :
    RelS X Hb H (σ.set n (some v)) (ρ.set n (some d)) := by
  refine ⟨r.same, by simp [r.len], fun j e hj => ?_, fun a ⟨j, ds, hj, hz⟩ => ?_⟩
  · rcases set_get hj with ⟨rfl, rfl, hl⟩ | ⟨hne, hj⟩
    · refine ⟨v, ?_, h, hf⟩
      rw [List.getElem?_set, if_pos rfl, if_pos (by rw [r.len]; exact hl)]
    · obtain ⟨u, h1, h2⟩ := r.val j e hj
      exact ⟨u, by rw [List.getElem?_set_ne (fun z => hne z.symm)]; exact h1, h2⟩
  · rcases set_get hj with ⟨rfl, rfl, hl⟩ | ⟨hne, hj⟩
    · exact ho a hz
    · exact r.own a ⟨j, ds, hj, hz⟩
structure Go (ρ : Ro) (H : Hp) (ρ' : Ro) (H' : Hp) : Prop where
  kept : ∀ b o, H b = some o → ¬ Mu ρ b → H' b = some o
  mu : ∀ a, Mu ρ' a → Mu ρ a ∨ H a = none
theorem Go.refl (ρ : Ro) (H : Hp) : Go ρ H ρ H := ⟨fun _ _ h _ => h, fun _ h => .inl h⟩
theorem Go.trans {ρ ρ1 ρ2 : Ro} {H H1 H2 : Hp} (a : Go ρ H ρ1 H1) (b : Go ρ1 H1 ρ2 H2) : Go ρ H ρ2 H2 where
  kept := fun c o h n => b.kept c o (a.kept c o h n) fun m => by
    rcases a.mu c m with z | z
    · exact n z
    · rw [h] at z; cases z
  mu := fun c m => by
    rcases b.mu c m with z | z
    · exact a.mu c z
    · by_cases hc : Mu ρ c
      · exact .inl hc
      · refine .inr ?_
        cases q : H c with
        | none => rfl
        | some o => rw [a.kept c o q hc] at z; cases z
theorem Go.same {ρ : Ro} {H H' : Hp} (e : Same H H') : Go ρ H ρ H' := ⟨fun b o h _ => e b o h, fun _ h => .inl h⟩
theorem Go.kt {X : Cx} {ρ ρ' : Ro} {Hb H H' : Hp} {σ : L2.St} (g : Go ρ H ρ' H') (r : RelS X Hb H σ ρ) : KT H H' :=
  ⟨fun b _ h => g.kept b _ h (fun m => by obtain ⟨ys, e, z⟩ := r.mu m; rw [h] at e; cases e; exact z), fun b _ _ h => g.kept b _ h (fun m => by obtain ⟨ys, e, z⟩ := r.mu m; rw [h] at e; cases e; exact z)⟩
theorem Go.set {ρ : Ro} {H H' : Hp} (e : Same H H') {d : D} {n : Nat} (hd : ∀ a, ownA d = some a → Mu ρ a ∨ H a = none) : Go ρ H (ρ.set n (some d)) H' :=
  ⟨fun b o h _ => e b o h, fun a ⟨j, ds, hj, hz⟩ => by
    rcases set_get hj with ⟨rfl, rfl, _⟩ | ⟨_, hj⟩
    · exact hd a hz
    · exact .inl ⟨j, ds, hj, hz⟩⟩
structure RelE (X : Cx) (H : Hp) (σ : L2.St) (ρ : Ro) : Prop where
  len : σ.length = ρ.length
  val : ∀ (i : Nat) (d : D), ρ[i]? = some (some d) → ∃ v, σ[i]? = some (some v) ∧ Is X.K H v d
theorem RelE.mono {X : Cx} {H H' : Hp} {σ : L2.St} {ρ : Ro} (r : RelE X H σ ρ) (e : Same H H') : RelE X H' σ ρ := ⟨r.len, fun i d h => let ⟨v, a, b⟩ := r.val i d h; ⟨v, a, b.mono e⟩⟩
theorem RelS.e {X : Cx} {Hb H : Hp} {σ : L2.St} {ρ : Ro} (r : RelS X Hb H σ ρ) : RelE X H σ ρ := ⟨r.len, fun i d h => let ⟨v, a, b, _⟩ := r.val i d h; ⟨v, a, b⟩⟩
def intAt (ρ : Ro) (i : Nat) : Int := match ρ[i]? with
  | some (some (D.int l)) => l
  | _ => 0
def tD (X : Cx) (ρ : Ro) (d : D) : TE := fun σ H Q => RelE X H σ ρ ∧ ∀ v H', Same H H' → Is X.K H' v d → Q v H'
def tB (X : Cx) (ρ : Ro) (b : Bool) : TT := fun σ H Q => RelE X H σ ρ ∧ ∀ H', Same H H' → Q b H'
def tDs (X : Cx) (ρ : Ro) (ds : List D) : TA := fun σ H Q => RelE X H σ ρ ∧ ∀ vs H', Same H H' → IsAll X.K H' vs ds → Q vs H'
def Ev (X : Cx) (e : Expr) (ρ : Ro) (d : D) : Prop := PE X e (tD X ρ d)
def Et (X : Cx) (e : Expr) (ρ : Ro) (b : Bool) : Prop := PT X e (tB X ρ b)
def Ew (X : Cx) (e : Expr) (ρ : Ro) (b : Bool) : Prop := PW X e (tB X ρ b)
def EvA (X : Cx) (es : List Expr) (ρ : Ro) (ds : List D) : Prop := PA X es (tDs X ρ ds)
section
variable {X : Cx} {e a b c : Expr} {es : List Expr} {ρ : Ro} {d : D} {ds : List D} {pos : Pos} {i j : Int} {k k' : Bool}
theorem Ev.tt {p : Prop} [Decidable p] (h : Ev X e ρ (.bl (decide p))) (hp : p) : Ev X e ρ (.bl true) := by rw [decide_eq_true hp] at h; exact h
theorem Et.tt {p : Prop} [Decidable p] (h : Et X e ρ (decide p)) (hp : p) : Et X e ρ true := by rw [decide_eq_true hp] at h; exact h
theorem Et.ff' {p : Prop} [Decidable p] (h : Et X e ρ (decide p)) (hp : ¬ p) : Et X e ρ false := by rw [decide_eq_false hp] at h; exact h
theorem Et.ff {p : Prop} [Decidable p] (h : Et X e ρ (!decide p)) (hp : p) : Et X e ρ false := by rw [decide_eq_true hp] at h; exact h
theorem PE.imp {t t' : TE} (h : PE X e t) (f : ∀ σ H Q, t' σ H Q → t σ H Q) : PE X e t' := fun pins s σ H Q I q => h pins s σ H Q I (f σ H Q q)
theorem PT.imp {t t' : TT} (h : PT X e t) (f : ∀ σ H Q, t' σ H Q → t σ H Q) : PT X e t' := fun pins s σ H Q I q => h pins s σ H Q I (f σ H Q q)
theorem PW.imp {t t' : TT} (h : PW X e t) (f : ∀ σ H Q, t' σ H Q → t σ H Q) : PW X e t' := fun whole pins s σ H Q I q => h whole pins s σ H Q I (f σ H Q q)
theorem PA.imp {t t' : TA} (h : PA X es t) (f : ∀ σ H Q, t' σ H Q → t σ H Q) : PA X es t' := fun pos pins s σ H Q I q => h pos pins s σ H Q I (f σ H Q q)
theorem PS.imp {st : Stmt} {t t' : TS} (h : PS X st t) (f : ∀ D σ H, t' D σ H → t D σ H) : PS X st t' := fun pins s σ H D I q => h pins s σ H D I (f D σ H q)
theorem PSs.imp {st : List Stmt} {t t' : TS} (h : PSs X st t) (f : ∀ D σ H, t' D σ H → t D σ H) : PSs X st t' := fun pins s σ H D I q => h pins s σ H D I (f D σ H q)
theorem ev_v (n : Nat) {x : Str} (hρ : ρ[n]? = some (some d) := by rfl) (hN : X.N[n]? = some x := by rfl) (hv : Vis X.env.scope x := by first | exact Or.inl rfl | exact Or.inr (Or.inl rfl) | exact Or.inr (Or.inr rfl))
    (hd : (x == ("__debug__" : Str)) = false := by decide) (hcd : (x == ("__classdict__" : Str)) = false := by decide) : Ev X (.Name x pos) ρ d :=
  PE.imp (pe_var hN hv hd hcd) fun σ H Q ⟨r, q⟩ => let ⟨v, h1, h2⟩ := r.val n d hρ; ⟨v, h1, q v H (Same.refl H) h2⟩
theorem ev_int {z : Int} {m} : Ev X (.Constant (.int z) m pos) ρ (.int z) := PE.imp pe_int fun _ H _ ⟨_, q⟩ => q _ H (Same.refl H) (.int z)
theorem ev_str {z : Str} {m} : Ev X (.Constant (.str z) m pos) ρ (.str z) := PE.imp pe_str fun _ H _ ⟨_, q⟩ => q _ H (Same.refl H) (.str z)
theorem ev_ty {x : Str} {n : String} (hm : X.mg x = none) (hv : bootBuiltins x = some (.type n)) (hg : Gl X x := by rfl) (hn : x ≠ "__name__" := by decide) (hd : (x == ("__debug__" : Str)) = false := by decide) : Ev X (.Name x pos) ρ (.ty n) :=
  PE.imp (pe_bltn hg hm hv (v := .ty n) rfl hn hd) fun _ H _ ⟨_, q⟩ => q _ H (Same.refl H) (.ty n)
theorem ev_op {op : Operator} {r : R2} {d1 d2 : D} (ho : OpR X (binaryOp op) r) (ha : Ev X a ρ d1) (hb : Ev X b ρ d2)
    (hr : ∀ v1 v2 H Q, Is X.K H v1 d1 → Is X.K H v2 d2 → (∀ v H', Same H H' → Is X.K H' v d → Q v H') → r v1 v2 H Q) : Ev X (.BinOp a op b pos) ρ d :=
  PE.imp (pe_op ho ha hb) fun σ H Q ⟨r, q⟩ => ⟨r, fun v1 H1 s1 h1 => ⟨r.mono s1, fun v2 H2 s2 h2 => hr v1 v2 H2 Q (h1.mono s2) h2 fun v H' s3 h3 => q v H' (s1.trans (s2.trans s3)) h3⟩⟩
theorem ev_cmp {op : CmpOp} {r : R2} {d1 d2 : D} (ho : OpR X (compareOp op) r) (ha : Ev X a ρ d1) (hb : Ev X b ρ d2) (hm : behindInMarks op b = false)
    (hr : ∀ v1 v2 H Q, Is X.K H v1 d1 → Is X.K H v2 d2 → (∀ v H', Same H H' → Is X.K H' v d → Q v H') → r v1 v2 H Q) : Ev X (.Compare a [op] [b] pos) ρ d :=
  PE.imp (pe_cmpR ho ha hb hm) fun σ H Q ⟨r, q⟩ => ⟨r, fun v1 H1 s1 h1 => ⟨r.mono s1, fun v2 H2 s2 h2 => hr v1 v2 H2 Q (h1.mono s2) h2 fun v H' s3 h3 => q v H' (s1.trans (s2.trans s3)) h3⟩⟩
theorem et_cmp {op : CmpOp} {r : R2} {d1 d2 : D} (ho : OpR X (compareOp op) r) (ha : Ev X a ρ d1) (hb : Ev X b ρ d2) (hm : behindInMarks op b = false)
    (hr : ∀ v1 v2 H Q, Is X.K H v1 d1 → Is X.K H v2 d2 → (∀ v H', Same H H' → Is X.K H' v (.bl k) → Q v H') → r v1 v2 H Q) : Et X (.Compare a [op] [b] pos) ρ k :=
  PT.imp (pt_cmpR ho ha hb hm) fun σ H Q ⟨r, q⟩ => ⟨r, fun v1 H1 s1 h1 => ⟨r.mono s1, fun v2 H2 s2 h2 => hr v1 v2 H2 _ (h1.mono s2) h2 fun v H' s3 h3 => ⟨k, h3.bl_inv, q H' (s1.trans (s2.trans s3))⟩⟩⟩
theorem rI_of {C : Int → Int → Prop} {g : Int → Int → V} (hC : C i j) (hg : ∀ H, Is X.K H (g i j) d) :
    ∀ v1 v2 H Q, Is X.K H v1 (.int i) → Is X.K H v2 (.int j) → (∀ v H', Same H H' → Is X.K H' v d → Q v H') → rI C g v1 v2 H Q :=
  fun _ _ H _ h1 h2 q => ⟨i, j, h1.int_inv, h2.int_inv, hC, q _ H (Same.refl H) (hg H)⟩
theorem rI0_of {g : Int → Int → V} (hg : ∀ H, Is X.K H (g i j) d) :
    ∀ v1 v2 H Q, Is X.K H v1 (.int i) → Is X.K H v2 (.int j) → (∀ v H', Same H H' → Is X.K H' v d → Q v H') → rI0 g v1 v2 H Q :=
  fun _ _ H _ h1 h2 q => ⟨i, j, h1.int_inv, h2.int_inv, q _ H (Same.refl H) (hg H)⟩
theorem ev_add (ha : Ev X a ρ (.int i)) (hb : Ev X b ρ (.int j)) : Ev X (.BinOp a .Add b pos) ρ (.int (i + j)) := ev_op op_add ha hb (rI0_of fun _ => .int _)
theorem ev_sub (ha : Ev X a ρ (.int i)) (hb : Ev X b ρ (.int j)) : Ev X (.BinOp a .Sub b pos) ρ (.int (i - j)) := ev_op op_sub ha hb (rI0_of fun _ => .int _)
theorem op_mulB : OpR X (binaryOp .Mult) (rI IntMulOk fun i j => .int (i * j)) := opI fun _ _ _ _ _ _ _ hc q => mul_int q hc
class Bd (i : Int) (m : outParam Nat) : Prop where
  lt : Builtin.Int.intBits i ≤ m
theorem mulOk {i j : Int} {m n : Nat} (hi : Bd i m) (hj : Bd j n) (h : m + n ≤ 134217728) : IntMulOk i j := IntMulOk.of_le hi.lt hj.lt h
theorem ev_mul {m n : Nat} (ha : Ev X a ρ (.int i)) (hb : Ev X b ρ (.int j)) (hi : Bd i m) (hj : Bd j n) (h : m + n ≤ 134217728 := by decide) : Ev X (.BinOp a .Mult b pos) ρ (.int (i * j)) :=
  ev_op op_mulB ha hb (rI_of (mulOk hi hj h) fun _ => .int _)
theorem ev_mod (ha : Ev X a ρ (.int i)) (hb : Ev X b ρ (.int j)) (h : 0 < j) : Ev X (.BinOp a .Mod b pos) ρ (.int (i % j)) := ev_op op_mod ha hb (rI_of h fun _ => .int _)
theorem ev_modN (ha : Ev X a ρ (.int i)) (hb : Ev X b ρ (.int j)) (h : j ≠ 0) : Ev X (.BinOp a .Mod b pos) ρ (.int (i.fmod j)) := ev_op op_modN ha hb (rI_of h fun _ => .int _)
def CDivB (_ j : Int) : Prop := 0 < j ∧ Builtin.Int.intBits j ≤ 9000
theorem op_fdivB : OpR X (binaryOp .FloorDiv) (rI CDivB fun i j => .int (i / j)) := opI fun i j _ _ _ _ _ hc q => by
  have h1 : (0 : Int) < j := hc.1
  refine floordiv_int (by omega) (by rw [Int.fdiv_eq_ediv_of_nonneg i (by omega)]; exact q) (.inl (PyProof.noPylong_of_log2 ?_))
  have h2 := intBits_le_iff.mp hc.2
  exact (Nat.log2_lt (by omega)).mpr h2
theorem ev_div {m : Nat} (ha : Ev X a ρ (.int i)) (hb : Ev X b ρ (.int j)) (h : 0 < j) (hj : Bd j m) (hm : m ≤ 9000 := by decide) : Ev X (.BinOp a .FloorDiv b pos) ρ (.int (i / j)) :=
  ev_op op_fdivB ha hb (rI_of ⟨h, Nat.le_trans hj.lt hm⟩ fun _ => .int _)
def CPowB (i j : Int) : Prop := 0 ≤ j ∧ (Builtin.Int.intBits i : Int) * j ≤ 2 ^ 27
theorem op_powB : OpR X (binaryOp .Pow) (rI CPowB fun i j => .int (i ^ j.toNat)) := opI fun _ _ _ _ _ _ _ hc q => pow_int hc.1 hc.2 q
theorem ev_pow {m n : Nat} (ha : Ev X a ρ (.int i)) (hb : Ev X b ρ (.int ((n : Nat) : Int))) (hi : Bd i m) (h : m * n ≤ 134217728 := by decide) : Ev X (.BinOp a .Pow b pos) ρ (.int (i ^ n)) := by
  refine ev_op op_powB ha hb (rI_of ⟨Int.natCast_nonneg n, ?_⟩ fun _ => .int _)
  have h1 : Builtin.Int.intBits i * n ≤ m * n := Nat.mul_le_mul_right n hi.lt
  have h2 : (Builtin.Int.intBits i * n : Nat) ≤ 134217728 := Nat.le_trans h1 h
  have h3 : ((Builtin.Int.intBits i * n : Nat) : Int) ≤ 134217728 := by omega
  rw [Int.natCast_mul] at h3
  exact h3
theorem ev_neg (ha : Ev X a ρ (.int i)) : Ev X (.UnaryOp .USub a pos) ρ (.int (-i)) :=
  PE.imp (pe_un un_neg ha) fun σ H Q ⟨r, q⟩ => ⟨r, fun v1 H1 s1 h1 => ⟨i, h1.int_inv, q _ H1 s1 (.int _)⟩⟩
theorem ev_lt (ha : Ev X a ρ (.int i)) (hb : Ev X b ρ (.int j)) : Ev X (.Compare a [.Lt] [b] pos) ρ (.bl (decide (i < j))) := ev_cmp op_lt ha hb (nomark _) (rI0_of fun _ => .bl _)
theorem ev_gt (ha : Ev X a ρ (.int i)) (hb : Ev X b ρ (.int j)) : Ev X (.Compare a [.Gt] [b] pos) ρ (.bl (decide (j < i))) := ev_cmp op_gt ha hb (nomark _) (rI0_of fun _ => .bl _)
theorem et_lt (ha : Ev X a ρ (.int i)) (hb : Ev X b ρ (.int j)) : Et X (.Compare a [.Lt] [b] pos) ρ (decide (i < j)) := et_cmp op_lt ha hb (nomark _) (rI0_of fun _ => .bl _)
theorem et_gt (ha : Ev X a ρ (.int i)) (hb : Ev X b ρ (.int j)) : Et X (.Compare a [.Gt] [b] pos) ρ (decide (j < i)) := et_cmp op_gt ha hb (nomark _) (rI0_of fun _ => .bl _)
theorem et_ge (ha : Ev X a ρ (.int i)) (hb : Ev X b ρ (.int j)) : Et X (.Compare a [.GtE] [b] pos) ρ (decide (j ≤ i)) := et_cmp op_ge ha hb (nomark _) (rI0_of fun _ => .bl _)
theorem dec_V {i j : Int} : decide (V.int i = V.int j) = decide (i = j) := by
  by_cases h : i = j
  · subst h; simp
  · rw [decide_eq_false h, decide_eq_false (fun z => h (V.int.inj z))]
theorem rEq_of : ∀ v1 v2 H Q, Is X.K H v1 (.int i) → Is X.K H v2 (.int j) → (∀ v H', Same H H' → Is X.K H' v (.bl (decide (i = j))) → Q v H') → rEq v1 v2 H Q := fun v1 v2 H Q h1 h2 q => by
  cases h1.int_inv; cases h2.int_inv
  exact ⟨rfl, by rw [dec_V]; exact q _ H (Same.refl H) (.bl _)⟩
theorem rNe_of : ∀ v1 v2 H Q, Is X.K H v1 (.int i) → Is X.K H v2 (.int j) → (∀ v H', Same H H' → Is X.K H' v (.bl (!decide (i = j))) → Q v H') → rNe v1 v2 H Q := fun v1 v2 H Q h1 h2 q => by
  cases h1.int_inv; cases h2.int_inv
  exact ⟨rfl, by rw [dec_V]; exact q _ H (Same.refl H) (.bl _)⟩
theorem ev_eq (ha : Ev X a ρ (.int i)) (hb : Ev X b ρ (.int j)) : Ev X (.Compare a [.Eq] [b] pos) ρ (.bl (decide (i = j))) := ev_cmp op_eq ha hb (nomark _) rEq_of
theorem et_eq (ha : Ev X a ρ (.int i)) (hb : Ev X b ρ (.int j)) : Et X (.Compare a [.Eq] [b] pos) ρ (decide (i = j)) := et_cmp op_eq ha hb (nomark _) rEq_of
theorem et_ne (ha : Ev X a ρ (.int i)) (hb : Ev X b ρ (.int j)) : Et X (.Compare a [.NotEq] [b] pos) ρ (!decide (i = j)) := et_cmp op_ne ha hb (nomark _) rNe_of
theorem et_val (h : Ev X e ρ (.bl k)) (he : ∀ whole, isTrue e X.env whole = (do let v ← whole; standAt e.pos; holding [v] (truthy v)) := by intro _; rfl) : Et X e ρ k :=
  PT.imp (pt_val h he) fun σ H Q ⟨r, q⟩ => ⟨r, fun v H' s h => ⟨k, h.bl_inv, q H' s⟩⟩
theorem et_not (h : Et X a ρ k) : Et X (.UnaryOp .Not a pos) ρ (!k) := PT.imp (pt_not h) fun σ H Q ⟨r, q⟩ => ⟨r, fun H' s => q H' s⟩
theorem et_notT (h : Et X a ρ true) : Et X (.UnaryOp .Not a pos) ρ false := et_not h
theorem ew_and1 (h : Et X a ρ k) : Ew X (.BoolOp .And [a] pos) ρ k := PW.imp (pw_and1 h) fun _ _ _ q => q
theorem ew_or1 (h : Et X a ρ k) : Ew X (.BoolOp .Or [a] pos) ρ k := PW.imp (pw_or1 h) fun _ _ _ q => q
theorem ew_andF {rest : List Expr} (h : Et X a ρ false) : Ew X (.BoolOp .And (a :: b :: rest) pos) ρ false :=
  PW.imp (pw_and (tB' := fun _ _ _ => False) h (fun _ _ _ _ _ _ _ z => z.elim)) fun σ H Q ⟨r, q⟩ => ⟨r, fun H' s => iteF (q H' s)⟩
theorem ew_andT {rest : List Expr} (h : Et X a ρ true) (h2 : Ew X (.BoolOp .And (b :: rest) pos) ρ k) : Ew X (.BoolOp .And (a :: b :: rest) pos) ρ k :=
  PW.imp (pw_and h h2) fun σ H Q ⟨r, q⟩ => ⟨r, fun H' s => iteT ⟨r.mono s, fun H'' s' => q H'' (s.trans s')⟩⟩
theorem ew_and {rest : List Expr} (h : Et X a ρ k) (h2 : k = true → Ew X (.BoolOp .And (b :: rest) pos) ρ k') : Ew X (.BoolOp .And (a :: b :: rest) pos) ρ (k && k') := by
  cases k with
  | false => exact ew_andF h
  | true => exact ew_andT h (h2 rfl)
theorem ew_orT {rest : List Expr} (h : Et X a ρ true) : Ew X (.BoolOp .Or (a :: b :: rest) pos) ρ true :=
  PW.imp (pw_or (tB' := fun _ _ _ => False) h (fun _ _ _ _ _ _ _ z => z.elim)) fun σ H Q ⟨r, q⟩ => ⟨r, fun H' s => iteT (q H' s)⟩
theorem ew_orF {rest : List Expr} (h : Et X a ρ false) (h2 : Ew X (.BoolOp .Or (b :: rest) pos) ρ k) : Ew X (.BoolOp .Or (a :: b :: rest) pos) ρ k :=
  PW.imp (pw_or h h2) fun σ H Q ⟨r, q⟩ => ⟨r, fun H' s => iteF ⟨r.mono s, fun H'' s' => q H'' (s.trans s')⟩⟩
theorem ew_or {rest : List Expr} (h : Et X a ρ k) (h2 : k = false → Ew X (.BoolOp .Or (b :: rest) pos) ρ k') : Ew X (.BoolOp .Or (a :: b :: rest) pos) ρ (k || k') := by
  cases k with
  | true => exact ew_orT h
  | false => exact ew_orF h (h2 rfl)
theorem Et.to (h : Et X e ρ k) (z : k = k') : Et X e ρ k' := z ▸ h
theorem Ev.to {d' : D} (h : Ev X e ρ d) (z : d = d') : Ev X e ρ d' := z ▸ h
theorem et_w (h : Ew X e ρ k) : Et X e ρ k := PW.pt h
theorem ev_one {op} (h : Ev X a ρ d) : Ev X (.BoolOp op [a] pos) ρ d := pe_one h
theorem ev_andT {rest : List Expr} (h : Ev X a ρ (.bl true)) (h2 : Ev X (.BoolOp .And (b :: rest) pos) ρ d) : Ev X (.BoolOp .And (a :: b :: rest) pos) ρ d :=
  PE.imp (pe_and h h2) fun σ H Q ⟨r, q⟩ => ⟨r, fun v H' s h => ⟨true, h.bl_inv, iteT ⟨r.mono s, fun v' H'' s' h' => q v' H'' (s.trans s') h'⟩⟩⟩
theorem ev_not (h : Ev X a ρ (.bl k)) : Ev X (.UnaryOp .Not a pos) ρ (.bl (!k)) :=
  PE.imp (pe_not h) fun σ H Q ⟨r, q⟩ => ⟨r, fun v H' s h => ⟨k, h.bl_inv, q _ H' s (.bl _)⟩⟩
theorem ev_notF (h : Ev X a ρ (.bl false)) : Ev X (.UnaryOp .Not a pos) ρ (.bl true) := ev_not h
theorem ev_ifT (hc : Et X c ρ true) (ha : Ev X a ρ d) : Ev X (.IfExp c a b pos) ρ d :=
  PE.imp (pe_ifExp (tb := fun _ _ _ => False) hc ha (fun _ _ _ _ _ _ z => z.elim)) fun σ H Q ⟨r, q⟩ => ⟨r, fun H' s => iteT ⟨r.mono s, fun v H'' s' h => q v H'' (s.trans s') h⟩⟩
theorem ev_ifF (hc : Et X c ρ false) (hb : Ev X b ρ d) : Ev X (.IfExp c a b pos) ρ d :=
  PE.imp (pe_ifExp (ta := fun _ _ _ => False) hc (fun _ _ _ _ _ _ z => z.elim) hb) fun σ H Q ⟨r, q⟩ => ⟨r, fun H' s => iteF ⟨r.mono s, fun v H'' s' h => q v H'' (s.trans s') h⟩⟩
theorem ea_nil : EvA X [] ρ [] := PA.imp pa_nil fun _ H _ ⟨_, q⟩ => q [] H (Same.refl H) .nil
theorem ea_cons (ha : Ev X e ρ d) (hr : EvA X es ρ ds) (hs : starEach (e :: es) X.env = (false, eval e X.env) :: starEach es X.env := by rfl) : EvA X (e :: es) ρ (d :: ds) :=
  PA.imp (pa_cons ha hr hs) fun σ H Q ⟨r, q⟩ => ⟨r, fun v H1 s1 h1 => ⟨r.mono s1, fun vs H2 s2 h2 => q _ H2 (s1.trans s2) (.cons (h1.mono s2) h2)⟩⟩
theorem same_new {H : Hp} {p : Addr} {o : HO} (h : H p = none) : Same H (upd H p o) := fun b u e => by
  rw [upd_ne (ne_of_none e h)]; exact e
theorem ev_tup {m} (h : EvA X es ρ ds) (hl : ds.length ≤ 1000 := by exact Nat.le_of_ble_eq_true rfl) : Ev X (.Tuple es m pos) ρ (.tup ds) :=
  PE.imp (pe_tup h) fun σ H Q ⟨r, q⟩ => ⟨r, fun vs H1 s1 h1 => ⟨by rw [h1.length]; exact Nat.le_of_lt (small1000 hl), fun p hp => q _ _ (s1.trans (same_new hp)) (.tup upd_same (h1.mono (same_new hp)))⟩⟩
theorem atI_map {K : PySem.W.Frag} {H : Hp} {vs : List V} {ds : List D} (h : IsAll K H vs ds) {d : D} (e : atI ds i = some d) : ∃ v, atI vs i = some v ∧ Is K H v d := by
  unfold atI at e ⊢
  rw [h.length]
  cases q : ixN ds.length i with
  | none => rw [q] at e; cases e
  | some n =>
    rw [q] at e
    exact h.get (i := n) e
theorem ev_ix (ha : Ev X a ρ (.tup ds)) (hb : Ev X b ρ (.int i)) (hi : atI ds i = some d) (hs : PlainIx b := by exact fun _ _ => rfl) : Ev X (.Subscript a b pos) ρ d :=
  PE.imp (pe_ix ix_tup ha hb hs) fun σ H Q ⟨r, q⟩ => ⟨r, fun v1 H1 s1 h1 => ⟨r.mono s1, fun v2 H2 s2 h2 => by
    obtain ⟨p, xs, rfl, h3, h4⟩ := (h1.mono s2).tup_inv
    obtain ⟨v, e, h5⟩ := atI_map h4 hi
    exact ⟨p, xs, i, v, rfl, h2.int_inv, h3, e, q v H2 (s1.trans s2) h5⟩⟩⟩
theorem ev_ixl {d' : D} (ha : Ev X a ρ d') (hl : lsD d' = some ds) (hb : Ev X b ρ (.int i)) (hi : atI ds i = some d) (hs : PlainIx b := by exact fun _ _ => rfl) : Ev X (.Subscript a b pos) ρ d :=
  PE.imp (pe_ix ix_list ha hb hs) fun σ H Q ⟨r, q⟩ => ⟨r, fun v1 H1 s1 h1 => ⟨r.mono s1, fun v2 H2 s2 h2 => by
    obtain ⟨l, xs, rfl, h3, h4⟩ := (h1.mono s2).lsD_inv hl
    obtain ⟨v, e, h5⟩ := atI_map h4 hi
    exact ⟨l, xs, i, v, rfl, h2.int_inv, h3, e, q v H2 (s1.trans s2) h5⟩⟩⟩
theorem ev_callB {x : Str} {id : String} {r : List V → Hp → VK → Prop} (hc : CallR X (.builtin id) r) (hm : X.mg x = none) (hv : bootBuiltins x = some (.builtin id)) (ha : EvA X (e :: es) ρ ds)
    (hr : ∀ vs H Q, IsAll X.K H vs ds → (∀ v H', Same H H' → Is X.K H' v d → Q v H') → r vs H Q)
    (hg : Gl X x := by rfl) (hn : x ≠ "__name__" := by decide) (hdb : (x == ("__debug__" : Str)) = false := by decide)
    (he : starEach (e :: es) X.env = (false, eval e X.env) :: starEach es X.env := by rfl) (hpl : (backTo pos (starEach es X.env)).any (·.1) = false := by rfl) {p : Pos} : Ev X (.Call (.Name x p) (e :: es) [] pos) ρ d :=
  PE.imp (pe_callB hc hg hm hv ha hn hdb he hpl) fun σ H Q ⟨r, q⟩ => ⟨r, fun vs H1 s1 h1 => hr vs H1 Q h1 fun v H' s' h => q v H' (s1.trans s') h⟩
theorem one_inv {K : PySem.W.Frag} {H : Hp} {vs : List V} {d : D} (h : IsAll K H vs [d]) : ∃ v, vs = [v] ∧ Is K H v d := by
  cases h with
  | cons h r => cases r; exact ⟨_, rfl, h⟩
theorem two_inv {K : PySem.W.Frag} {H : Hp} {vs : List V} {d d' : D} (h : IsAll K H vs [d, d']) : ∃ v v', vs = [v, v'] ∧ Is K H v d ∧ Is K H v' d' := by
  cases h with
  | cons h r =>
    obtain ⟨v', rfl, h'⟩ := one_inv r
    exact ⟨_, _, rfl, h, h'⟩
theorem ev_abs {p : Pos} (hm : X.mg "abs" = none) (ha : Ev X a ρ (.int i)) (hg : Gl X "abs" := by rfl) (he : starEach [a] X.env = [(false, eval a X.env)] := by rfl) : Ev X (.Call (.Name "abs" p) [a] [] pos) ρ (.int (i.natAbs : Int)) :=
  ev_callB call_abs hm (by decide +kernel) (ea_cons ha ea_nil he) (fun vs H Q h0 q => by
    obtain ⟨v, rfl, h⟩ := one_inv h0
    cases h.int_inv
    refine ⟨i, rfl, ?_⟩
    have e : (if i < 0 then -i else i) = (i.natAbs : Int) := by split <;> omega
    rw [e]
    exact q _ H (Same.refl H) (.int _)) hg (by decide) (by decide) he rfl
def lenD : D → Option Nat
  | .tup ds => some ds.length
  | .ls ds => some ds.length
  | .lst _ ds => some ds.length
  | .kt ds => some ds.length
  | .fl ds => some ds.length
  | .str x => if x.length ≤ 16777216 then some x.length else none
  | _ => none
theorem ev_len {p : Pos} {n : Nat} (hm : X.mg "len" = none) (ha : Ev X a ρ d) (hl : lenD d = some n) (hg : Gl X "len" := by rfl) (he : starEach [a] X.env = [(false, eval a X.env)] := by rfl) : Ev X (.Call (.Name "len" p) [a] [] pos) ρ (.int (n : Int)) :=
  ev_callB call_len hm (by decide +kernel) (ea_cons ha ea_nil he) (fun vs H Q h0 q => by
    obtain ⟨v, rfl, h⟩ := one_inv h0
    refine ⟨v, n, rfl, ?_, q _ H (Same.refl H) (.int _)⟩
    cases d with
    | tup ds =>
      obtain ⟨a, xs, rfl, h1, h2⟩ := h.tup_inv
      cases hl
      exact .inr ⟨xs, h1, h2.length.symm⟩
    | ls ds =>
      obtain ⟨a, xs, rfl, h1, h2⟩ := h.ls_inv
      cases hl
      exact .inl ⟨xs, h1, h2.length.symm⟩
    | lst a ds =>
      obtain ⟨rfl, xs, h1, h2⟩ := h.lst_inv
      cases hl
      exact .inl ⟨xs, .of h1, h2.length.symm⟩
    | kt ds =>
      obtain ⟨a, xs, rfl, h1, h2⟩ := h.kt_inv
      cases hl
      exact .inr ⟨xs, h1, h2.length.symm⟩
    | fl ds =>
      obtain ⟨a, o, xs, rfl, h1, h2⟩ := h.fl_inv
      cases hl
      exact .inl ⟨xs, .inl (.inr ⟨o, h1⟩), h2.length.symm⟩
    | str x =>
      cases h.str_inv
      have hl' : (if x.length ≤ 16777216 then some x.length else none) = some n := hl
      by_cases hx : x.length ≤ 16777216
      · rw [if_pos hx] at hl'
        cases hl'
        exact ⟨by rw [sizeLine_eq]; exact hx, rfl⟩
      · rw [if_neg hx] at hl'
        cases hl'
    | _ => cases hl) hg (by decide) (by decide) he rfl
end
def tyD : D → Option String
  | .non => some "NoneType"
  | .bl _ => some "bool"
  | .int _ => some "int"
  | .str _ => some "str"
  | .tup _ => some "tuple"
  | .ls _ => some "list"
  | .lst _ _ => some "list"
  | .ty _ => none
  | .ob _ => none
  | .kt _ => some "tuple"
  | .fl _ => some "list"
  | .fd _ _ _ => none
  | .dc _ _ _ _ => none
  | .qi _ _ => none
theorem call_isi {X : Cx} {d : D} {T U : String} {k : Bool} (ht : tyD d = some T) (hk : PySem.W.kitOne X.K (.type T) (.type U) = some k) :
    CallR X (.builtin "isinstance") (fun vs H Q => ∃ v, vs = [v, .ty U] ∧ Is X.K H v d ∧ Q (.bl k) H) := by
  intro pins s σ H xs us Q I r h
  obtain ⟨v, rfl, h, q⟩ := h
  obtain ⟨u, w', rfl, rx, ry⟩ := vals2 r
  cases ry
  have fin : ∀ tk, EP X pins σ Q (.bool k) { s with toks := tk } := fun tk => ⟨.bl k, H, I.tok tk, rfl, q⟩
  cases d with
  | non => cases h.non_inv; cases ht; exact isinst_ok I rx .non hk fin
  | bl b => cases h.bl_inv; cases ht; exact isinst_ok I rx (.bl b) hk fin
  | int i => cases h.int_inv; cases ht; exact isinst_ok I rx (.int i) hk fin
  | str x => cases h.str_inv; cases ht; exact isinst_ok I rx (.str x) hk fin
  | tup ds =>
    obtain ⟨a, xs, rfl, h1, _⟩ := h.tup_inv
    cases ht
    cases rx
    obtain ⟨its, _, ⟨o, e1, e2, _⟩, _⟩ := I.tuple h1
    exact PySem.W.kia_one PySem.W.kitx_tuple I.kIn ⟨o, e1, e2⟩ hk (fun z => nomatch z) fin
  | ls ds =>
    obtain ⟨a, xs, rfl, h1, _⟩ := h.ls_inv
    cases ht
    cases rx
    obtain ⟨its, _, p, _⟩ := I.list h1
    obtain ⟨o, e1, e2, _⟩ := p.isList
    exact PySem.W.kia_one PySem.W.kitx_list I.kIn ⟨o, e1, e2⟩ hk (fun z => nomatch z) fin
  | lst a ds =>
    obtain ⟨rfl, xs, h1, _⟩ := h.lst_inv
    cases ht
    cases rx
    obtain ⟨its, _, p, _⟩ := I.list (.of h1)
    obtain ⟨o, e1, e2, _⟩ := p.isList
    exact PySem.W.kia_one PySem.W.kitx_list I.kIn ⟨o, e1, e2⟩ hk (fun z => nomatch z) fin
  | kt ds =>
    obtain ⟨a, xs, rfl, h1, _⟩ := h.kt_inv
    cases ht
    cases rx
    obtain ⟨its, _, ⟨o, e1, e2, _⟩, _⟩ := I.tuple h1
    exact PySem.W.kia_one PySem.W.kitx_tuple I.kIn ⟨o, e1, e2⟩ hk (fun z => nomatch z) fin
  | fl ds =>
    obtain ⟨a, ob, xs, rfl, h1, _⟩ := h.fl_inv
    cases ht
    cases rx
    obtain ⟨its, _, p, _⟩ := I.list (.inl (.inr ⟨ob, h1⟩))
    obtain ⟨o, e1, e2, _⟩ := p.isList
    exact PySem.W.kia_one PySem.W.kitx_list I.kIn ⟨o, e1, e2⟩ hk (fun z => nomatch z) fin
  | qi C ds => cases ht
  | ty n => cases ht
  | ob a => cases ht
  | fd t ks vs => cases ht
  | dc a t ks vs => cases ht
section
variable {X : Cx} {e a b c : Expr} {es : List Expr} {ρ : Ro} {d : D} {ds : List D} {pos : Pos} {i j : Int} {k k' : Bool}
theorem ev_isi {x : Str} {U T : String} {p p2 : Pos} (hm : X.mg "isinstance" = none) (ha : Ev X a ρ d) (hmT : X.mg x = none) (hv : bootBuiltins x = some (.type U)) (ht : tyD d = some T) (hk : PySem.W.kitOne X.K (.type T) (.type U) = some k)
    (hg : Gl X "isinstance" := by rfl) (hgT : Gl X x := by rfl) (hn : x ≠ "__name__" := by decide) (hd : (x == ("__debug__" : Str)) = false := by decide)
    (he : starEach [a, .Name x p2] X.env = [(false, eval a X.env), (false, eval (.Name x p2) X.env)] := by rfl) (hb : (backTo pos (starEach [.Name x p2] X.env)).any (·.1) = false := by rfl) :
    Ev X (.Call (.Name "isinstance" p) [a, .Name x p2] [] pos) ρ (.bl k) :=
  ev_callB (call_isi ht hk) hm (by decide +kernel) (ea_cons ha (ea_cons (ev_ty hmT hv hgT hn hd) ea_nil) he) (fun vs H Q h q => by
    obtain ⟨v, v', rfl, h1, h2⟩ := two_inv h
    cases h2.ty_inv
    exact ⟨v, rfl, h1, q _ H (Same.refl H) (.bl k)⟩) hg (by decide) (by decide) he hb
end
end FL
namespace FL
open PySem PySem.Spec PyProof.Rows L2
structure Po where
  nx : Ro → Prop
  rt : D → Prop
  bk : Ro → Prop := fun _ => False
  ct : Ro → Prop := fun _ => False
def tPo (X : Cx) (ρ : Ro) (P : Po) : TS := fun D σ H => RelS X X.H₀ H σ ρ ∧ (∀ σ' H' ρ', Go ρ H ρ' H' → RelS X X.H₀ H' σ' ρ' → P.nx ρ' → D.nx σ' H') ∧ (∀ v H' d, Same X.H₀ H' → Is X.K H' v d → (∀ a, ownA d = some a → X.H₀ a = none) → P.rt d → D.rt v H') ∧
  (∀ σ' H' ρ', Go ρ H ρ' H' → RelS X X.H₀ H' σ' ρ' → P.bk ρ' → D.bk σ' H') ∧ (∀ σ' H' ρ', Go ρ H ρ' H' → RelS X X.H₀ H' σ' ρ' → P.ct ρ' → D.ct σ' H')
def Do (X : Cx) (sts : List Stmt) (ρ : Ro) (P : Po) : Prop := PSs X sts (tPo X ρ P)
section
variable {X : Cx} {e a b c : Expr} {es : List Expr} {ρ : Ro} {d : D} {ds : List D} {pos : Pos} {i j : Int} {k k' : Bool} {rest A B : List Stmt} {P : Po} {st : Stmt}
theorem do_nil (h : P.nx ρ) : Do X [] ρ P := PSs.imp pss_nil fun D σ H ⟨r, q, _⟩ => q σ H ρ (Go.refl ρ H) r h
theorem Do.mono {Q : Po} (h : Do X A ρ P) (h1 : ∀ ρ, P.nx ρ → Q.nx ρ) (h2 : ∀ d, P.rt d → Q.rt d) (h3 : ∀ ρ, P.bk ρ → Q.bk ρ) (h4 : ∀ ρ, P.ct ρ → Q.ct ρ) : Do X A ρ Q :=
  PSs.imp h fun D σ H ⟨r, q1, q2, q3, q4⟩ => ⟨r, fun σ' H' ρ' g r' p => q1 σ' H' ρ' g r' (h1 _ p), fun v H' d s i o p => q2 v H' d s i o (h2 _ p), fun σ' H' ρ' g r' p => q3 σ' H' ρ' g r' (h3 _ p), fun σ' H' ρ' g r' p => q4 σ' H' ρ' g r' (h4 _ p)⟩
theorem do_seq {M : Ro → Prop} (h1 : PS X st (tPo X ρ { P with nx := M })) (h2 : ∀ ρ', M ρ' → Do X rest ρ' P) : Do X (st :: rest) ρ P := by
  refine PSs.imp (pss_cons (u := fun D σ H => ∃ ρ', M ρ' ∧ tPo X ρ' P D σ H) h1 (fun pins s σ H D I ⟨ρ', m, q⟩ => h2 ρ' m pins s σ H D I q)) ?_
  rintro D σ H ⟨r, q1, q2, q3, q4⟩
  exact ⟨r, fun σ' H' ρ' g r' m => ⟨ρ', m, r', fun σ2 H2 ρ2 g2 => q1 σ2 H2 ρ2 (g.trans g2), q2, fun σ2 H2 ρ2 g2 => q3 σ2 H2 ρ2 (g.trans g2), fun σ2 H2 ρ2 g2 => q4 σ2 H2 ρ2 (g.trans g2)⟩, q2, q3, q4⟩
theorem do_ret (he : Ev X e ρ d) (h : P.rt d) (hn : ∀ a, ownA d = some a → Mu ρ a := by intro _ z; cases z) : Do X (.Return (some e) pos :: rest) ρ P := by
  refine PSs.imp (pss_cons (u := tNever) (ps_ret he) pss_never) ?_
  rintro D σ H ⟨r, q1, q2, q3, q4⟩
  exact ⟨r.e, fun v H' s h' => q2 v H' d (r.same.trans s) h' (fun a z => r.own a (hn a z)) h⟩
theorem do_set (n : Nat) {x : Str} {pos' : Pos} (he : Ev X e ρ d) (hz : Fz d) (h : Do X rest (ρ.set n (some d)) P) (hN : X.N.Nodup) (hi : X.N[n]? = some x := by rfl) (hx : Loc X.env.scope x := by first | exact Or.inl rfl | exact Or.inr rfl)
    (hs : swapsWith e (some (.Name x pos')) pos.line X.env = pure false := by rfl) (hf : X.fn x = true ∨ X.env.scope.names.lookup x = some .local := by first | exact .inl rfl | exact .inr rfl) : Do X (.Assign [.Name x pos'] e pos :: rest) ρ P := by
  refine do_seq (M := fun ρ' => ρ' = ρ.set n (some d)) (PS.imp (ps_set hN hi hx he hs hf) ?_) (fun _ z => z ▸ h)
  rintro D σ H ⟨r, q1, q2, q3, q4⟩
  exact ⟨r.e, fun v H' s h' => q1 _ H' _ (Go.set s fun a z => (hz.no_own z).elim) ((r.mono s).set h' n (.inl hz) fun a z => (hz.no_own z).elim) rfl⟩
theorem do_expr (he : Ev X e ρ d) (h : Do X rest ρ P) (hs : swapsWith e none pos.line X.env = pure false := by rfl) : Do X (.Expr e pos :: rest) ρ P := by
  refine do_seq (M := fun ρ' => ρ' = ρ) (PS.imp (ps_expr he hs) ?_) (fun _ z => z ▸ h)
  rintro D σ H ⟨r, q1, q2, q3, q4⟩
  exact ⟨r.e, fun v H' s h' => q1 _ H' _ (Go.same s) (r.mono s) rfl⟩
theorem do_if (M : Ro → Prop) (hc : Et X c ρ k) (hA : k = true → Do X A ρ { P with nx := M }) (hB : k = false → Do X B ρ { P with nx := M }) (h : ∀ ρ', M ρ' → Do X rest ρ' P) : Do X (.If c A B pos :: rest) ρ P := by
  refine do_seq (M := M) (PS.imp (ps_if hc (t := fun D σ H => k = true ∧ tPo X ρ { P with nx := M } D σ H) (u := fun D σ H => k = false ∧ tPo X ρ { P with nx := M } D σ H)
    (fun pins s σ H D I ⟨z, q⟩ => hA z pins s σ H D I q) (fun pins s σ H D I ⟨z, q⟩ => hB z pins s σ H D I q)) ?_) h
  rintro D σ H ⟨r, q1, q2, q3, q4⟩
  refine ⟨r.e, fun H' s => ?_⟩
  have q : tPo X ρ { P with nx := M } D σ H' := ⟨r.mono s, fun σ2 H2 ρ2 g2 => q1 σ2 H2 ρ2 ((Go.same s).trans g2), q2, fun σ2 H2 ρ2 g2 => q3 σ2 H2 ρ2 ((Go.same s).trans g2), fun σ2 H2 ρ2 g2 => q4 σ2 H2 ρ2 ((Go.same s).trans g2)⟩
  cases k with
  | true => exact iteT ⟨rfl, q⟩
  | false => exact iteF ⟨rfl, q⟩
theorem do_ifF (hc : Et X c ρ false) (h : Do X rest ρ P) : Do X (.If c A [] pos :: rest) ρ P :=
  do_if (fun ρ' => ρ' = ρ) hc (fun z => by cases z) (fun _ => do_nil rfl) (fun _ z => z ▸ h)
theorem do_ifR (hc : Et X c ρ k) (hA : k = true → Do X A ρ { P with nx := fun _ => False }) (h : k = false → Do X rest ρ P) : Do X (.If c A [] pos :: rest) ρ P :=
  do_if (fun ρ' => ρ' = ρ ∧ k = false) hc (fun z => (hA z).mono (fun _ f => f.elim) (fun _ p => p) (fun _ p => p) (fun _ p => p)) (fun z => do_nil ⟨rfl, z⟩) (fun _ z => z.1 ▸ h z.2)
theorem do_while (Iv M : Ro → Prop) (μ : Ro → Nat) (hp : PassesOwn (model X.prog X.w) X.A X.env X.xe) (h0 : Iv ρ)
    (hs : ∀ ρ, Iv ρ → ∃ k, Et X c ρ k ∧ (k = true → Do X A ρ { nx := fun ρ' => Iv ρ' ∧ μ ρ' < μ ρ, rt := P.rt, bk := M, ct := fun ρ' => Iv ρ' ∧ μ ρ' < μ ρ }) ∧ (k = false → M ρ))
    (h : ∀ ρ', M ρ' → Do X rest ρ' P) : Do X (.While c A [] pos :: rest) ρ P := by
  refine do_seq (M := M) ?_ h
  have hc : PT X c (fun σ H Q => ∃ ρ k, Et X c ρ k ∧ tB X ρ k σ H Q) := fun pins s σ H Q I ⟨ρ, k, e, q⟩ => e pins s σ H Q I q
  have hb : PSs X A (fun D σ H => ∃ ρ, Do X A ρ { nx := fun ρ' => Iv ρ' ∧ μ ρ' < μ ρ, rt := P.rt, bk := M, ct := fun ρ' => Iv ρ' ∧ μ ρ' < μ ρ } ∧ tPo X ρ { nx := fun ρ' => Iv ρ' ∧ μ ρ' < μ ρ, rt := P.rt, bk := M, ct := fun ρ' => Iv ρ' ∧ μ ρ' < μ ρ } D σ H) :=
    fun pins s σ H D I ⟨ρ, e, q⟩ => e pins s σ H D I q
  refine PS.imp (ps_while hp hc hb) ?_
  rintro D σ H ⟨r, q1, q2, q3, q4⟩
  refine ⟨fun m σ' H' => ∃ ρ', m = μ ρ' ∧ Iv ρ' ∧ RelS X X.H₀ H' σ' ρ' ∧ Go ρ H ρ' H', ⟨_, ρ, rfl, h0, r, Go.refl ρ H⟩, ?_⟩
  rintro m σ1 H1 ⟨ρ1, rfl, iv, r1, g1⟩
  obtain ⟨k, et, ht, hf⟩ := hs ρ1 iv
  refine ⟨ρ1, k, et, r1.e, fun H2 s => ?_⟩
  have g2 : Go ρ H ρ1 H2 := g1.trans (Go.same s)
  cases k with
  | true =>
    refine iteT ⟨fun σ' H' => ∃ ρ', Iv ρ' ∧ μ ρ' < μ ρ1 ∧ RelS X X.H₀ H' σ' ρ' ∧ Go ρ H ρ' H', fun σ' H' ⟨ρ', a, b, c, g⟩ => ⟨_, b, ρ', rfl, a, c, g⟩, ρ1, ht rfl, r1.mono s, ?_, q2, ?_, ?_⟩
    · exact fun σ' H' ρ' g r' ⟨a, b⟩ => ⟨ρ', a, b, r', g2.trans g⟩
    · exact fun σ' H' ρ' g r' m => q1 σ' H' ρ' (g2.trans g) r' m
    · exact fun σ' H' ρ' g r' ⟨a, b⟩ => ⟨ρ', a, b, r', g2.trans g⟩
  | false => exact iteF (q1 σ1 H2 ρ1 g2 (r1.mono s) (hf rfl))
end
def SpD (K : PySem.W.Frag) (Pf : List D → D → Prop) : Sp := fun vs H Q _ => ∃ ds d, IsAll K H vs ds ∧ Pf ds d ∧ ∀ v H', Same H H' → Is K H' v d → Q v H'
def Fn (P : Program) (w : World) (K : PySem.W.Frag) (mg : Str → Option Value) (base : Heap) (k : Nat) (x : Str) (Pf : List D → D → Prop) : Prop :=
  ∃ f fd ps, FnOk P w K mg base CX0 k f fd ps (SpD K Pf) ∧ mg x = some (.ref f) ∧ PySem.W.keepIn K (.ref f) = true ∧ Binds K fd ps []
section
variable {X : Cx} {e a b c : Expr} {es : List Expr} {ρ : Ro} {d : D} {ds : List D} {pos : Pos}
theorem ev_call {k : Nat} {x : Str} {Pf : List D → D → Prop} {p : Pos} (C : Fn X.prog X.w X.K X.mg X.base k x Pf) (hr : Room k X.A) (ha : EvA X (e :: es) ρ ds) (hp : Pf ds d) (hg : Gl X x := by rfl) (hdb : (x == ("__debug__" : Str)) = false := by decide)
    (he : starEach (e :: es) X.env = (false, eval e X.env) :: starEach es X.env := by rfl) (hpl : (backTo pos (starEach es X.env)).any (·.1) = false := by rfl) : Ev X (.Call (.Name x p) (e :: es) [] pos) ρ d := by
  obtain ⟨f, fd, ps, F, hm, hk, hb⟩ := C
  refine PE.imp (pe_call F hr hg hm hk hb .nil pass0 ha hdb he hpl) ?_
  rintro σ H Q ⟨r, q⟩
  refine ⟨r, fun vs H1 s1 h1 => ⟨ds, d, ?_, hp, fun v H' s' h' => q v H' (s1.trans s') h'⟩⟩
  rw [List.append_nil]
  exact h1
end
section
variable {P : Program} {w : World} {K : PySem.W.Frag} {mg : Str → Option Value} {base : Heap}
theorem relS_start {X : Cx} {N : List Str} {vs : List V} {ds : List D} (h : IsAll X.K X.H₀ vs ds) (nl : ∀ d ∈ ds, ownA d = none) : RelS X X.H₀ X.H₀ (L2.start N vs) (ds.map some ++ List.replicate (N.length - ds.length) none) := by
  refine ⟨Same.refl _, ?_, fun i d e => ?_, fun a ⟨i, es, e, hz⟩ => ?_⟩
  · unfold L2.start
    simp [h.length]
  · have hi : ds[i]? = some d := by
      by_cases hl : i < ds.length
      · rw [List.getElem?_append_left (by simpa using hl), List.getElem?_map] at e
        cases q : ds[i]? with
        | none => rw [q] at e; cases e
        | some z => rw [q] at e; cases e; rfl
      · rw [List.getElem?_append_right (by simpa using hl), List.getElem?_replicate] at e
        split at e <;> cases e
    obtain ⟨v, e1, h1⟩ := h.get hi
    refine ⟨v, ?_, h1, .inr (.inl h1)⟩
    unfold L2.start
    have hl : i < vs.length := (List.getElem?_eq_some_iff.mp e1).1
    rw [List.getElem?_append_left (by simpa using hl), List.getElem?_map, e1]
    rfl
  · exfalso
    by_cases hl : i < ds.length
    · rw [List.getElem?_append_left (by simpa using hl), List.getElem?_map] at e
      cases q : ds[i]? with
      | none => rw [q] at e; cases e
      | some z => rw [q] at e; cases e; rw [nl _ (List.mem_of_getElem? q)] at hz; cases hz
    · rw [List.getElem?_append_right (by simpa using hl), List.getElem?_replicate] at e
      split at e <;> cases e
abbrev cxD (P : Program) (w : World) (K : PySem.W.Frag) (mg : Str → Option Value) (base : Heap) (N : List Str) (qual : Str) (st : Stmt) (f : Addr) (cdv : Value) (A : Around) (outer : List Env) (s : Shared) (H : Hp) (E : XK) : Cx :=
  (cxOf CX0 P w K mg base N qual (defScope st) f cdv A outer s H E).nox
abbrev ini (N : List Str) (ds : List D) : Ro := ds.map some ++ List.replicate (N.length - ds.length) none
theorem fn_ok {x qual : Str} {st : Stmt} {f : Addr} {fd : FuncData} {N ps : List Str} {k : Nat} {Pf : List D → D → Prop} (F : Fun K x qual st f fd) (S : FnScope N ps (defScope st))
    (hl : ∀ ds d, Pf ds d → ds.length = ps.length ∧ ∀ d ∈ ds, ownA d = none)
    (hbody : ∀ (cdv : Value) (A : Around) (outer : List Env) (s : Shared) (H : Hp) (E : XK), Room k (A.deeper (envOfC qual (defScope st) s.heap.objs.size f cdv)) → ∀ ds d, Pf ds d →
      Do (cxD P w K mg base N qual st f cdv A outer s H E) (defBody st) (ini N ds) { nx := fun _ => d = .non, rt := fun d' => d' = d }) : FnOk P w K mg base CX0 (k + 1) f fd ps (SpD K Pf) := by
  refine F.ok S (fun vs H Q E h => ?_) (fun cdv A outer s H vs Q E hr h => ?_)
  · obtain ⟨ds, d, h1, h2, _⟩ := h
    rw [h1.length]
    exact (hl ds d h2).1
  · obtain ⟨ds, d, h1, h2, q⟩ := h
    refine ⟨_, hbody cdv A outer s H E hr ds d h2, ?_⟩
    refine ⟨relS_start (X := cxD P w K mg base N qual st f cdv A outer s H E) h1 (hl ds d h2).2, fun σ' H' ρ' _ r' z => ?_, fun v H' d' sm hv _ z => ?_, fun _ _ _ _ _ z => z.elim, fun _ _ _ _ _ z => z.elim⟩
    · have z' : d = .non := z
      subst z'
      exact q _ H' r'.same .non
    · have z' : d' = d := z
      subst z'
      exact q v H' sm hv
theorem fn_mk {x qual : Str} {st : Stmt} {f : Addr} {fd : FuncData} {N ps : List Str} {k : Nat} {Pf : List D → D → Prop} (F : Fun K x qual st f fd) (S : FnScope N ps (defScope st)) (hm : mg x = some (.ref f)) (hb : Binds K fd ps [])
    (hl : ∀ ds d, Pf ds d → ds.length = ps.length ∧ ∀ d ∈ ds, ownA d = none)
    (hbody : ∀ (cdv : Value) (A : Around) (outer : List Env) (s : Shared) (H : Hp) (E : XK), Room k (A.deeper (envOfC qual (defScope st) s.heap.objs.size f cdv)) → ∀ ds d, Pf ds d →
      Do (cxD P w K mg base N qual st f cdv A outer s H E) (defBody st) (ini N ds) { nx := fun _ => d = .non, rt := fun d' => d' = d }) : Fn P w K mg base (k + 1) x Pf :=
  ⟨f, fd, ps, fn_ok F S hl hbody, hm, F.kp, hb⟩
end
end FL
namespace FL
open PySem PySem.Spec PyProof.Rows L2
def blk (X : Cx) (scope : Scope) (cl : List (Str × Addr)) (N : List Str) (C : Addr) (s₀ : Shared) (H₀ : Hp) (fp : List Addr) : Cx :=
  { X with N := N, s₀ := s₀, H₀ := H₀, env := compEnvC scope cl C X.env, outer := X.stack, ex := fp, fn := fun _ => false, pn := [], xe := fun _ _ => False }
section
variable {prog : Program} {w : World} {A : Around} {R : Result → Shared → Prop} {s : Shared}
theorem compLoop_any {elt target iter : Expr} {ifs : List Expr} {scope : Scope} {pos : Pos} {it acc : Value} {env : Env} (I : Nat → Shared → Prop)
    (turn : ∀ n s, I n s → wpAny (model prog w) A (pyNext it) (fun r s₁ => match r with
      | none => R (.ok .next) s₁
      | some v => wpAny (model prog w) A (letOwnedTupleGo target it v) (fun _ s₁' => wpAny (model prog w) A (assign target env v) (fun _ s₂ =>
          wpAny (model prog w) A (forIn ifs true fun c r => if r = true then do let ok ← isTrue c env (eval c env); pure (ForInStep.yield ok) else pure (ForInStep.yield r)) (fun ok s₃ =>
            if ok = true then wpAny (model prog w) A (eval elt env) (fun x s₄ =>
              wpAny (model prog w) A (call (.builtin "list.append") [acc, x]) (fun _ s₅ => ∃ m, m < n ∧ I m s₅) (fun _ _ => False) s₄) (fun _ _ => False) s₃
            else ∃ m, m < n ∧ I m s₃) (fun _ _ => False) s₂) (fun _ _ => False) s₁') (fun _ _ => False) s₁) (fun _ _ => False) s)
    (n : Nat) (h : I n s) : codeAny (model prog w) A (.compLoop (.ListComp elt [⟨target, iter, ifs, 0⟩] scope pos) 0 it acc env) R s := by
  refine codeAny_loop rfl I (fun n s hI => ?_) n h
  show wpAny _ A ((compTurn (.ListComp elt [⟨target, iter, ifs, 0⟩] scope pos) 0 it acc env).onRaise (fun x => do noteFrame x env; theTreesLotGoes x)) _ _ s
  refine wpAny_noted ?_
  rw [compTurn_list]
  refine wpAny_bind (wpAny_standAt (wpAny_bind (wpAny_mono (turn n s hI) (fun r s₁ h₁ => ?_) fun _ _ h' => h'.elim)))
  cases r with
  | none => exact wpAny_pure h₁
  | some v =>
    refine wpAny_bind (wpAny_mono h₁ (fun _ s₁' h₁' => ?_) fun _ _ h' => h'.elim)
    refine wpAny_bind (wpAny_mono h₁' (fun _ s₂ h₂ => wpAny_bind (wpAny_mono h₂ (fun ok s₃ h₃ => ?_) fun _ _ h' => h'.elim)) fun _ _ h' => h'.elim)
    cases ok with
    | false => exact wpAny_pure ⟨rfl, h₃⟩
    | true =>
      exact wpAny_bind (wpAny_bind (wpAny_mono h₃ (fun x s₄ h₄ => wpAny_bind (wpAny_mono h₄ (fun _ s₅ h₅ => wpAny_pure (wpAny_pure ⟨rfl, h₅⟩)) fun _ _ h' => h'.elim)) fun _ _ h' => h'.elim))
end
def PTs (X : Cx) (ifs : List Expr) (t : TT) : Prop :=
  ∀ (pins : List (Addr × Obj)) (s : Shared) (σ : L2.St) (H : Hp) (Q : Bool → Hp → Prop), Inv X pins σ H s → t σ H Q →
    wpAny (model X.prog X.w) X.A (forIn ifs true fun c r => if r = true then do let ok ← isTrue c X.env (eval c X.env); pure (ForInStep.yield ok) else pure (ForInStep.yield r)) (TP X pins σ Q) X.xe s
theorem pts_nil {X : Cx} : PTs X [] (fun _ H Q => Q true H) := fun _ _ _ H _ I h => wpAny_tests_nil ⟨H, I, h⟩
def frees (js : List Nat) (σ : L2.St) : L2.St := js.map fun j => (σ[j]?).join
def tComp (X : Cx) (js : List Nat) (wi : TI) (tt : Cx → TT) (te : Cx → TE) : TE := fun σ H Q => wi σ H fun J H2 => ∀ D, H2 D = none → ∀ Y : Cx, Y.H₀ = upd H2 D (.lst []) → Y.K = X.K →
  ∃ W : Nat → Nat → List V → Hp → Prop, (∃ m, W 0 m [] (upd H2 D (.lst []))) ∧ ∀ i m ys H3, H3 D = some (.lst ys) → W i m ys H3 →
    (J.stop i H3 ∧ Q (.ref D) H3) ∨ (J.go i H3 ∧ ∀ x H4, J.yld i H3 x H4 → tt Y (some x :: frees js σ) H4 fun ok H5 =>
      if ok = true then te Y (some x :: frees js σ) H5 fun y H6 => ∃ zs, H6 D = some (.lst zs) ∧ zs.length < sizeLine ∧ ∃ m', m' < m ∧ W (i + 1) m' (zs ++ [y]) (upd H6 D (.lst (zs ++ [y])))
      else ∃ zs m', H5 D = some (.lst zs) ∧ m' < m ∧ W (i + 1) m' zs H5)
theorem pe_comp {X : Cx} {elt iter : Expr} {x : Str} {px : Pos} {ifs : List Expr} {scope : Scope} {cl : List (Str × Addr)} {pos : Pos} {ys : List Str} {js : List Nat} {wi : TI} {tt : Cx → TT} {te : Cx → TE}
    (hc : X.calm = true) (hi : PI X (.Name x px) iter wi)
    (ht : ∀ C s₀ H₀ fp, PTs (blk X scope cl (x :: ys) C s₀ H₀ fp) ifs (tt (blk X scope cl (x :: ys) C s₀ H₀ fp)))
    (he : ∀ C s₀ H₀ fp, PE (blk X scope cl (x :: ys) C s₀ H₀ fp) elt (te (blk X scope cl (x :: ys) C s₀ H₀ fp)))
    (hclos : closureFor scope X.env = pure cl) (hcell : ∀ y ∈ scope.names, y.2 ≠ .cell) (hkind : scope.kind = .function)
    (hnames : ∀ y ∈ scope.names, y.2 = .local → scope.names.lookup y.1 = some .local) (hx : scope.names.lookup x = some .local) (hnd : (x :: ys).Nodup)
    (hcl : ∀ y c, cl.lookup y = some c → X.env.cells.lookup y = some c)
    (hhas : ∀ y, (relabel scope X.env).names.lookup y = some .cell ∨ (relabel scope X.env).names.lookup y = some .free → ∃ c, cl.lookup y = some c)
    (hjs : js.length = ys.length) (hjy : ∀ (i j : Nat) (y : Str), js[i]? = some j → ys[i]? = some y → X.N[j]? = some y ∧ Vis X.env.scope y ∧ (X.env.kindOf y = some .cell ∨ X.env.kindOf y = some .free) ∧ ((relabel scope X.env).names.lookup y = some .cell ∨ (relabel scope X.env).names.lookup y = some .free))
    (hs : ∀ x, foldedSetIterable iter X.env x = pure x := by intro _; rfl) :
    PE X (.ListComp elt [⟨.Name x px, iter, ifs, 0⟩] scope pos) (tComp X js wi tt te) := by
  intro pins s σ H Q I h
  rw [eval_ListComp]
  refine wpAny_comprehension_free (use := none) rfl hs hclos hkind hnames (thn (hi pins s σ H _ I h) fun v s1 h1 => thn h1 fun itv s2 h2 => ?_)
  obtain ⟨it, fp, tn, J, H2, e, I2, T, st2, f2, h2⟩ := h2
  subst e
  refine wpAny_newObj_type (wpAny_newFunctionEnv hcell (by intro y hy; simp at hy) (fun h₁ hns₁ hsb₁ => ?_) hkind)
  dsimp only at hns₁ hsb₁ ⊢
  -- the list
  have hD : H2 s2.heap.objs.size = none := I2.hok.fresh (Nat.le_refl _)
  generalize eD : s2.heap.objs.size = D at hD hns₁ hsb₁ ⊢
  generalize eH : s2.heap.push { cls := .type "list", dict := none, data := .seq ([] : List Value).toArray } = P3 at hns₁ hsb₁ ⊢
  have k23 : ∀ b o, s2.heap.get? b = some o → P3.get? b = some o := fun b o q => by rw [← eH]; exact Heap.get?_push_of_some _ q
  have hDo : P3.get? D = some { cls := .type "list", dict := none, data := .seq ([] : List Value).toArray } := by rw [← eH, ← eD]; exact Heap.get?_push_size _ rfl
  have I3 : Inv X pins σ (upd H2 D (.lst [])) { s2 with heap := P3, toks := s2.toks } := I2.laid (t' := s2.toks) k23 (Nat.le_of_eq eD) ⟨Nat.zero_le _, [], 0, .nil, hDo⟩
  have hCs : P3.objs.size = D + 1 := by rw [← eH, Heap.size_push, eD]
  generalize eC : P3.objs.size = C at hns₁ hsb₁ hCs ⊢
  have k34 : ∀ b o, P3.get? b = some o → h₁.get? b = some o := fun b o q => hsb₁.extBut b o (by rw [← eC]; exact Nat.ne_of_lt (Heap.lt_size q)) (Heap.get?_push_of_some _ q)
  have fpD : ∀ b ∈ fp, b < D := fun b hb => by
    obtain ⟨o, q, _⟩ := T.obj 0 _ st2 b hb
    rw [← eD]
    exact Heap.lt_size q
  have hC0 : upd H2 D (.lst []) C = none := I3.hok.fresh (by show P3.objs.size ≤ C; rw [eC]; exact Nat.le_refl _)
  -- the block's context
  have okY : (blk X scope cl (x :: ys) C { s2 with heap := P3, toks := s2.toks } (upd H2 D (.lst [])) fp).Ok := by
    refine ⟨I3.ok.mod, hkind, I3.ok.glob, I3.ok.blt, by show P3.objs.size ≤ C; rw [eC]; exact Nat.le_refl _, fun y z c h1 h2 => I3.ok.inj y z c (hcl y c h1) (hcl z c h2), fun y hy => hhas y hy, fun y c hf _ => (by cases hf),
      I3.ok.hd, I3.ok.frames, .inl rfl, fun b hb => ⟨(by show b ≠ C; rw [hCs]; exact Nat.ne_of_lt (Nat.lt_succ_of_lt (fpD b hb))), fun y c hy => (f2 b hb).2.2.2.2.1 y c (hcl y c hy)⟩, fun b o q => ?_, ?_, fun b o q hb => ?_, fun b hb z => ?_, I3.stack, I3.stkFree⟩
    · exact I3.bs b o q
    · exact Nat.le_trans I3.ok.bsz I3.sz
    · rcases (f2 b hb).2.2.2.1 with z | z
      · exact I3.ok.noex b o q z
      · exact absurd (Nat.lt_of_lt_of_le (Heap.lt_size (I3.ok.bs b o q).1) z) (Nat.lt_irrefl _)
    · rcases List.mem_cons.mp (I3.stkSub b z) with z | z
      · exact (f2 b hb).2.1 z
      · exact (f2 b hb).2.2.1 z
  generalize eY : blk X scope cl (x :: ys) C { s2 with heap := P3, toks := s2.toks } (upd H2 D (.lst [])) fp = Y at okY
  have IY : Inv Y [] (none :: frees js σ) (upd H2 D (.lst [])) { s2 with heap := h₁, toks := s2.toks + ([] : List (Str × Value)).length } := by
    subst eY
    refine ⟨okY, I3.os.trans I3.os.symm |>.trans rfl, I3.bare, Un.kept k34, ⟨_, hns₁, fun i y v h1 h2 h3 => ?_⟩, fun y c hy => ?_, hC0, fun y c hy => I3.freeC y c (hcl y c hy), fun p hp => absurd (show p ∈ ([] : List (Addr × Obj)) from hp) (by simp), I3.hok.kept k34, ?_⟩
    · cases i with
      | zero => cases h2
      | succ i =>
        have h1' : ys[i]? = some y := h1
        have h2' : (frees js σ)[i]? = some (some v) := h2
        unfold frees at h2'
        rw [List.getElem?_map] at h2'
        cases q : js[i]? with
        | none => rw [q] at h2'; cases h2'
        | some j =>
          rw [q] at h2'
          have h4 : (σ[j]?).join = some v := Option.some.inj h2'
          have h5 : σ[j]? = some (some v) := by
            cases z : σ[j]? with
            | none => rw [z] at h4; cases h4
            | some o => rw [z] at h4; have h4' : o = some v := h4; rw [h4']
          obtain ⟨n1, n2, n3, n4⟩ := hjy i j y q h1'
          obtain ⟨m, _, hl⟩ := I3.loc
          obtain ⟨u, ru, lk⟩ := hl j y v n1 h5 n2
          refine ⟨u, ru, .inr ⟨n4, ?_⟩⟩
          obtain ⟨c, hc'⟩ := hhas y n4
          rcases lk with ⟨z, _⟩ | ⟨_, c', e1, e2⟩
          · rcases n3 with n3 | n3 <;> (rw [n3] at z; cases z)
          · have : c' = c := Option.some.inj (e1.symm.trans (hcl y c hc'))
            subst this
            obtain ⟨o, ho, hod⟩ := e2
            exact ⟨c', hc', o, k34 _ _ ho, hod⟩
    · obtain ⟨v, o, ho, hod⟩ := I3.cell y c (hcl y c hy)
      exact ⟨v, o, k34 _ _ ho, hod⟩
    · show (frees js σ).length + 1 = (x :: ys).length
      unfold frees
      simp [hjs]
  have eYA : Y.A = X.A := by rw [← eY]; rfl
  have eYp : Y.prog = X.prog := by rw [← eY]; rfl
  have eYw : Y.w = X.w := by rw [← eY]; rfl
  have eYK : Y.K = X.K := by rw [← eY]; rfl
  have eYe : Y.env = compEnvC scope cl C X.env := by rw [← eY]; rfl
  have eYH : Y.H₀ = upd H2 D (.lst []) := by rw [← eY]; rfl
  have eYc : Y.calm = true := by rw [← eY]; exact hc
  have eYx : Y.xe = fun _ _ => False := by rw [← eY]; rfl
  have eYex : Y.ex = fp := by rw [← eY]; rfl
  have eYfs : Y.fs = frs X.stack := by rw [← eY]; rfl
  have eYs : Y.s₀ = { s2 with heap := P3, toks := s2.toks } := by rw [← eY]; rfl
  have eYl : Y.env.locals = C := by rw [eYe]; rfl
  have ht' : PTs Y ifs (tt Y) := by rw [← eY]; exact ht C _ _ fp
  have he' : PE Y elt (te Y) := by rw [← eY]; exact he C _ _ fp
  have hg' : PG Y (.Name x px) (gName 0) := by
    rw [← eY]
    exact pg_name hnd rfl (.inl (lookup_relabel_local hx)) (.inr (lookup_relabel_local hx))
  have T' : Turn Y.prog Y.w Y.K (.Name x px) J fp it tn := by rw [eYp, eYw, eYK]; exact T
  obtain ⟨W, ⟨m0, w0⟩, turn⟩ := h2 D hD Y eYH eYK
  have stat : ∀ {H' : Hp}, (∀ b ∈ fp, H' b = none) → ∀ b ∈ fp, FpOk Y [] H' b := fun {H'} hn b hb => by
    obtain ⟨_, g1, g2, g3, g4, g5⟩ := f2 b hb
    refine ⟨hn b hb, (by rw [eYl, hCs]; exact Nat.ne_of_lt (Nat.lt_succ_of_lt (fpD b hb))), fun z => ?_, .inl (by rw [eYex]; exact hb), fun y c hy => ?_, fun p hp => ?_⟩
    · rw [eYfs] at z
      rcases List.mem_cons.mp (I3.stkSub b z) with z | z
      · exact g1 z
      · exact g2 z
    · rw [eYe] at hy
      exact g4 y c (hcl y c hy)
    · have e0 : Y.pn = [] := by rw [← eY]; rfl
      rw [e0] at hp
      exact absurd (show p ∈ ([] : List (Addr × Obj)) from hp) (by simp)
  -- the loop
  have loop : ∀ s₃ : Shared, s₃ = { s2 with heap := h₁, toks := s2.toks + ([] : List (Str × Value)).length } →
      codeAny (model X.prog X.w) X.A (.compLoop (.ListComp elt [⟨.Name x px, iter, ifs, 0⟩] scope pos) 0 (.ref it) (.ref D) (compEnvC scope cl C X.env))
        (compPost (model X.prog X.w) X.A X.xe none (EP X pins σ Q) (.ref D) C) s₃ := by
    rintro s₃ rfl
    rw [← eYe, ← eYA, ← eYp, ← eYw]
    refine compLoop_any (fun n s' => ∃ i z H' zs, Inv Y [] (z :: frees js σ) H' s' ∧ tn i s'.heap ∧ (∀ b ∈ fp, H' b = none) ∧ H' D = some (.lst zs) ∧ W i n zs H') ?_ m0
      ⟨0, none, _, [], IY, T.keep 0 _ _ st2 (fun b _ o q => k34 b o (k23 b o q)), fun b hb => ?_, upd_same, w0⟩
    · rintro n s4 ⟨i, z, H4, zs, I4, st4, fr4, hz4, w4⟩
      rcases turn i n zs H4 hz4 w4 with ⟨stop, qn⟩ | ⟨go, step⟩
      · refine thn (T'.done Y rfl rfl rfl eYc i [] s4 _ H4 _ I4 (stat fr4) st4 stop) fun r s5 ⟨hr, I5⟩ => ?_
        subst hr
        obtain ⟨m, hm, _⟩ := id I5.loc
        rw [eYl] at hm
        refine ⟨m, hm, fun h6 sb => ?_⟩
        have hC5 : H4 C = none := by rw [← eYl]; exact I5.free
        have un5 := I5.base
        rw [eYfs, eYex, eYH, eYs] at un5
        have un6 : Un (frs X.stack) fp (upd H2 D (.lst [])) H4 P3 h6 := by
          have nC : ∀ b o, P3.get? b = some o → b ≠ C := fun b o q => by rw [← eC]; exact Nat.ne_of_lt (Heap.lt_size q)
          refine ⟨fun b o q n hb hx => (sb.2 b (nC b o q)).trans (un5.keep b o q n hb hx), fun b o q n hb hx => ?_, un5.free, fun b o q hx => ?_, un5.tups, un5.frzs, un5.tbls⟩
          · obtain ⟨sl, q2⟩ := un5.slot b o q n hb hx
            exact ⟨sl, (sb.2 b (nC b o q)).trans q2⟩
          · obtain ⟨o', q2⟩ := un5.there b o q hx
            exact ⟨o', (sb.2 b (nC b o q)).trans q2⟩
        have hok6 : HOk X.prog X.w H4 h6 := fun b ob q => by
          have q5 := I5.hok b ob q
          rw [eYp, eYw] at q5
          refine q5.stay (fun c w' hc' q' => (sb.2 c ?_).trans q') (fun _ q' => q') fun _ _ q' => q'
          rintro rfl
          rcases hc' with rfl | hc'
          · rw [hC5] at q; cases q
          · rw [hC5] at hc'; cases hc'
        refine ⟨.ref D, H4, ?_, rfl, qn⟩
        have os5 : s5.os = s2.os := by have := I5.os; rw [eYs] at this; exact this
        refine I3.call' (s' := { s5 with heap := h6 }) (ch := fp) os5 un6 hok6 I5.bare fun b hb => ?_
        obtain ⟨_, g1, g2, g3, g4, g5⟩ := f2 b hb
        exact ⟨g3, g1, g4, g5⟩
      · refine thn (T'.item Y rfl rfl rfl eYc i [] s4 _ H4 _ I4 (stat fr4) st4 go) fun r s5 ⟨u, hr, h5⟩ => ?_
        subst hr
        refine thn h5 fun _ s6 ⟨y, H6, I6, r6, y6, st6, fr6⟩ => ?_
        have I6' := I6.pinned (stat fr6) (T.obj _ _ st6)
        have q6 := step y H6 y6
        have back : ∀ {σ7 : L2.St} {H7 : Hp} {s7 : Shared}, Inv Y ([] ++ pinsAt fp s6.heap) σ7 H7 s7 → tn (i + 1) s7.heap ∧ ∀ b ∈ fp, H7 b = none := fun {σ7 H7 s7} I7 =>
          ⟨T.keep _ _ _ st6 fun b hb o e => (I7.pin (b, o) (List.mem_append_right _ (List.mem_append_right _ (mem_pinsAt hb e)))).1, fun b hb => by
            obtain ⟨o, e, _⟩ := T.obj _ _ st6 b hb
            exact (I7.pin (b, o) (List.mem_append_right _ (List.mem_append_right _ (mem_pinsAt hb e)))).2.1⟩
        refine wpAny_mono (hg' _ s6 _ H6 y u (fun σ' H' => σ' = some y :: frees js σ ∧ H' = H6) I6' r6 ⟨rfl, rfl⟩) (fun _ s7 ⟨σ7, H7, I7, e7, e7'⟩ => ?_) fun _ _ z => by rw [eYx] at z; exact z
        subst e7 e7'
        refine wpAny_mono (ht' _ s7 _ H7 _ I7 q6) (fun ok s8 ⟨H8, I8, q8⟩ => ?_) fun _ _ z => by rw [eYx] at z; exact z
        cases ok with
        | false =>
          rw [if_neg Bool.false_ne_true] at q8 ⊢
          obtain ⟨zs', m', hz', hm', w'⟩ := q8
          obtain ⟨b1, b2⟩ := back I8
          exact ⟨m', hm', i + 1, some y, H8, zs', I8.unpinned, b1, b2, hz', w'⟩
        | true =>
          rw [if_pos rfl] at q8 ⊢
          refine wpAny_mono (he' _ s8 _ H8 _ I8 q8) (fun u9 s9 ⟨v9, H9, I9, r9, zs9, hz9, hl9, m9, hm9, w9⟩ => ?_) fun _ _ z => by rw [eYx] at z; exact z
          refine wpAny_mono (mt_append (X := Y) _ s9 _ H9 (.ref D) [v9] (.ref D) [u9] (fun _ H' => H' = upd H9 D (.lst (zs9 ++ [v9]))) I9 rfl (.cons r9 .nil) ⟨D, zs9, v9, rfl, rfl, hz9, hl9, rfl⟩) (fun _ s10 ⟨_, H10, I10, _, e10⟩ => ?_) fun _ _ z => by rw [eYx] at z; exact z
          subst e10
          obtain ⟨b1, b2⟩ := back I10
          exact ⟨m9, hm9, i + 1, some y, _, zs9 ++ [v9], I10.unpinned, b1, b2, upd_same, w9⟩
    · rw [upd_ne (Nat.ne_of_lt (fpD b hb))]
      exact (f2 b hb).1
  exact codeAny_compStart_list (loop _ rfl) (T.self _ 0 _ _ _ (T.keep 0 _ _ st2 (fun b _ o q => k34 b o (k23 b o q))) (loop _ rfl))
end FL
namespace FL
open PySem PySem.Spec PyProof.Rows L2
def tN (X : Cx) (ρ : Ro) (ds : List D) : TE := fun σ H Q => RelE X H σ ρ ∧ ∀ a vs H', H a = none → Same H H' → H' a = some (.lst vs) → IsAll X.K H' vs ds → Q (.ref a) H'
def EvN (X : Cx) (e : Expr) (ρ : Ro) (ds : List D) : Prop := PE X e (tN X ρ ds)
theorem EvN.ev {X : Cx} {e : Expr} {ρ : Ro} {ds : List D} (h : EvN X e ρ ds) : Ev X e ρ (.ls ds) :=
  PE.imp h fun _ _ _ ⟨r, q⟩ => ⟨r, fun a _ H' _ s e h => q (.ref a) H' s (.ls (.of e) h)⟩
def SrcOk (K : PySem.W.Frag) (J : It) (H : Hp) (ds : List D) : Prop :=
  ∀ H3, Same H H3 → (∀ i, ds.length ≤ i → J.stop i H3) ∧ ∀ i d, ds[i]? = some d → J.go i H3 ∧ ∀ x H4, J.yld i H3 x H4 → H4 = H3 ∧ Is K H3 x d
def tSrc (X : Cx) (ρ : Ro) (ds : List D) : TI := fun σ H R => RelE X H σ ρ ∧ ∀ J H', Same H H' → SrcOk X.K J H' ds → R J H'
def Src (X : Cx) (tg e : Expr) (ρ : Ro) (ds : List D) : Prop := PI X tg e (tSrc X ρ ds)
section
variable {X : Cx} {e a b tg : Expr} {ρ : Ro} {ds : List D} {d : D} {pos : Pos} {i j : Int}
theorem PI.imp {t t' : TI} (h : PI X tg e t) (f : ∀ σ H R, t' σ H R → t σ H R) : PI X tg e t' := fun pins s σ H R I q => h pins s σ H R I (f σ H R q)
theorem src_tup (h : Ev X e ρ (.tup ds)) : Src X tg e ρ ds := by
  refine PI.imp (pi_tup h) ?_
  rintro σ H R ⟨r, q⟩
  refine ⟨r, fun v H1 s1 h1 => ?_⟩
  obtain ⟨p, xs, rfl, hT, hA⟩ := h1.tup_inv
  refine ⟨p, rfl, ⟨xs, hT⟩, q _ H1 s1 fun H3 s3 => ⟨fun i hi => ⟨xs, sameT s3 hT, by rw [hA.length]; exact hi⟩, fun i d hd => ?_⟩⟩
  obtain ⟨v, hv, hI⟩ := (hA.mono s3).get hd
  exact ⟨⟨xs, v, sameT s3 hT, hv⟩, fun x H4 ⟨e4, y⟩ => ⟨e4, by have := y xs (sameT s3 hT); rw [hv] at this; cases this; exact hI⟩⟩
theorem src_ls (h : Ev X e ρ d) (hl : lsD d = some ds) : Src X tg e ρ ds := by
  refine PI.imp (pi_list h) ?_
  rintro σ H R ⟨r, q⟩
  refine ⟨r, fun v H1 s1 h1 => ?_⟩
  obtain ⟨p, xs, rfl, hT, hA⟩ := h1.lsD_inv hl
  refine ⟨p, rfl, ⟨xs, hT⟩, q _ H1 s1 fun H3 s3 => ⟨fun i hi => ⟨xs, s3.seq hT, by rw [hA.length]; exact hi⟩, fun i d hd => ?_⟩⟩
  obtain ⟨v, hv, hI⟩ := (hA.mono s3).get hd
  exact ⟨⟨xs, v, s3.seq hT, hv⟩, fun x H4 ⟨e4, y⟩ => ⟨e4, by have := y xs (s3.seq hT); rw [hv] at this; cases this; exact hI⟩⟩
theorem srcOk_range {K : PySem.W.Frag} {lo : Int} {n : Nat} {H : Hp} : SrcOk K (Itr lo n) H ((List.range n).map fun (t : Nat) => D.int (lo + t)) := by
  intro H3 s3
  refine ⟨fun i hi => (by show n ≤ i; simpa using hi), fun i d hd => ?_⟩
  rw [List.getElem?_map] at hd
  by_cases hn : i < n
  · rw [List.getElem?_range hn] at hd
    cases hd
    refine ⟨hn, fun x H4 ⟨e1, e2⟩ => ⟨e1, by rw [e2]; exact .int _⟩⟩
  · rw [List.getElem?_eq_none (by simpa using hn)] at hd
    cases hd
theorem src_range1 {p : Pos} (hm : X.mg "range" = none) (ha : Ev X a ρ (.int j)) (h1 : -(2 ^ 62) ≤ j) (h2 : j < 2 ^ 62) (hg : Gl X "range" := by rfl) (hs : starEach [a] X.env = [(false, eval a X.env)] := by rfl) :
    Src X tg (.Call (.Name "range" p) [a] [] pos) ρ ((List.range j.toNat).map fun (t : Nat) => D.int (0 + t)) := by
  refine PI.imp (pi_range1 hg hm (ea_cons ha ea_nil hs) hs) ?_
  rintro σ H R ⟨r, q⟩
  refine ⟨r, fun vs H1 s1 h3' => ?_⟩
  obtain ⟨v, rfl, h3⟩ := one_inv h3'
  cases h3.int_inv
  exact ⟨j, rfl, h1, h2, q _ H1 s1 srcOk_range⟩
end
def Ets (X : Cx) (ifs : List Expr) (ρ : Ro) (k : Bool) : Prop := PTs X ifs (tB X ρ k)
theorem ets_nil {X : Cx} {ρ : Ro} : Ets X [] ρ true := fun pins s σ H Q I ⟨_, q⟩ => pts_nil pins s σ H Q I (q H (Same.refl H))
def freesD (js : List Nat) (ρ : Ro) : Ro := js.map fun j => (ρ[j]?).join
theorem relE_blk {X Y : Cx} (hK : Y.K = X.K) {H : Hp} {σ : L2.St} {ρ : Ro} {js : List Nat} {x : V} {d : D} (r : RelE X H σ ρ) (hx : Is X.K H x d) : RelE Y H (some x :: frees js σ) (some d :: freesD js ρ) := by
  have vals : ∀ (i : Nat) (e : D), (some d :: freesD js ρ)[i]? = some (some e) → ∃ v, (some x :: frees js σ)[i]? = some (some v) ∧ Is X.K H v e := fun i e h => by
    cases i with
    | zero => cases h; exact ⟨x, rfl, hx⟩
    | succ i =>
      have h' : (freesD js ρ)[i]? = some (some e) := h
      unfold freesD at h'
      rw [List.getElem?_map] at h'
      cases q : js[i]? with
      | none => rw [q] at h'; cases h'
      | some j =>
        rw [q] at h'
        have h4 : (ρ[j]?).join = some e := Option.some.inj h'
        have h5 : ρ[j]? = some (some e) := by
          cases z : ρ[j]? with
          | none => rw [z] at h4; cases h4
          | some o => rw [z] at h4; have h4' : o = some e := h4; rw [h4']
        obtain ⟨v, e1, e2⟩ := r.val j e h5
        refine ⟨v, ?_, e2⟩
        show (frees js σ)[i]? = some (some v)
        unfold frees
        rw [List.getElem?_map, q]
        show some (σ[j]?).join = _
        rw [e1]
        rfl
  exact ⟨by simp [frees, freesD], fun i e h => by rw [hK]; exact vals i e h⟩
theorem no_free {scope : Scope} {env : Env} {cl : List (Str × Addr)} (h : ∀ p ∈ scope.names, p.2 ≠ .cell ∧ p.2 ≠ .free) :
    ∀ y, (relabel scope env).names.lookup y = some .cell ∨ (relabel scope env).names.lookup y = some .free → ∃ c, cl.lookup y = some c := by
  have key : ∀ p ∈ (relabel scope env).names, p.2 ≠ .cell ∧ p.2 ≠ .free := by
    intro p hp
    obtain ⟨⟨n, k⟩, hm, e⟩ := List.mem_map.mp (show p ∈ scope.names.map _ from hp)
    have hk := h _ hm
    have hf : (k == NameKind.free) = false := by simpa using hk.2
    simp only [hf, Bool.false_and, Bool.false_eq_true, if_false] at e
    subst e
    exact hk
  intro y z
  rcases z with z | z
  · exact absurd rfl (key _ (PySem.mem_of_lookup z)).1
  · exact absurd rfl (key _ (PySem.mem_of_lookup z)).2
theorem evn_comp {X : Cx} {elt iter : Expr} {x : Str} {px : Pos} {ifs : List Expr} {scope : Scope} {cl : List (Str × Addr)} {pos : Pos} {ys : List Str} {js : List Nat} {ρ : Ro} {ds : List D} (p : D → Bool) (f : D → D)
    (hc : X.calm = true) (hi : Src X (.Name x px) iter ρ ds) (hz : ds.length ≤ 1000000) (hfz : ∀ d ∈ ds, p d = true → Fz (f d))
    (ht : ∀ C s₀ H₀ fp, ∀ d ∈ ds, Ets (blk X scope cl (x :: ys) C s₀ H₀ fp) ifs (some d :: freesD js ρ) (p d))
    (he : ∀ C s₀ H₀ fp, ∀ d ∈ ds, p d = true → Ev (blk X scope cl (x :: ys) C s₀ H₀ fp) elt (some d :: freesD js ρ) (f d))
    (hclos : closureFor scope X.env = pure cl) (hcell : ∀ y ∈ scope.names, y.2 ≠ .cell) (hkind : scope.kind = .function)
    (hnames : ∀ y ∈ scope.names, y.2 = .local → scope.names.lookup y.1 = some .local) (hx : scope.names.lookup x = some .local) (hnd : (x :: ys).Nodup)
    (hcl : ∀ y c, cl.lookup y = some c → X.env.cells.lookup y = some c)
    (hhas : ∀ y, (relabel scope X.env).names.lookup y = some .cell ∨ (relabel scope X.env).names.lookup y = some .free → ∃ c, cl.lookup y = some c)
    (hjs : js.length = ys.length) (hjy : ∀ (i j : Nat) (y : Str), js[i]? = some j → ys[i]? = some y → X.N[j]? = some y ∧ Vis X.env.scope y ∧ (X.env.kindOf y = some .cell ∨ X.env.kindOf y = some .free) ∧ ((relabel scope X.env).names.lookup y = some .cell ∨ (relabel scope X.env).names.lookup y = some .free))
    (hs : ∀ x, foldedSetIterable iter X.env x = pure x := by intro _; rfl) : EvN X (.ListComp elt [⟨.Name x px, iter, ifs, 0⟩] scope pos) ρ ((ds.filter p).map f) := by
  refine PE.imp (pe_comp (js := js) (tt := fun Y σ H Q => ∃ d, d ∈ ds ∧ tB Y (some d :: freesD js ρ) (p d) σ H Q) (te := fun Y σ H Q => ∃ d, d ∈ ds ∧ p d = true ∧ tD Y (some d :: freesD js ρ) (f d) σ H Q) hc hi
    (fun C s₀ H₀ fp pins s σ H Q I ⟨d, hd, q⟩ => ht C s₀ H₀ fp d hd pins s σ H Q I q) (fun C s₀ H₀ fp pins s σ H Q I ⟨d, hd, hp, q⟩ => he C s₀ H₀ fp d hd hp pins s σ H Q I q) hclos hcell hkind hnames hx hnd hcl hhas hjs hjy hs) ?_
  rintro σ H Q ⟨r, q⟩
  refine ⟨r, fun J H2 s2 ok D hD Y eH eK => ?_⟩
  -- the invariant: what was there stands, the list holds what came of the items so far
  have fzs : ∀ (i : Nat), ∀ d ∈ ((ds.take i).filter p).map f, Fz d := fun i d hd => by
    obtain ⟨d', h1, rfl⟩ := List.mem_map.mp hd
    obtain ⟨h2, h3⟩ := List.mem_filter.mp h1
    exact hfz d' (List.mem_of_mem_take h2) h3
  refine ⟨fun i m zs H3 => m = ds.length - i ∧ i ≤ ds.length ∧ (∀ b o, H2 b = some o → H3 b = some o) ∧ IsAll X.K H3 zs (((ds.take i).filter p).map f), ⟨ds.length, by simp, Nat.zero_le _, same_new hD, ?_⟩, ?_⟩
  · simpa using IsAll.nil
  · rintro i m zs H3 hzs ⟨rfl, hil, k3, hA⟩
    obtain ⟨stop, go⟩ := ok H3 k3
    by_cases hlt : i < ds.length
    · obtain ⟨g, y⟩ := go i ds[i] (by simp [hlt])
      refine .inr ⟨g, fun v H4 hy => ?_⟩
      obtain ⟨rfl, hv⟩ := y v H4 hy
      have hmem : ds[i] ∈ ds := List.getElem_mem hlt
      have r3 : RelE X H4 σ ρ := r.mono (s2.trans k3)
      refine ⟨ds[i], hmem, relE_blk eK r3 hv, fun H5 s5 => ?_⟩
      have etake : ds.take (i + 1) = ds.take i ++ [ds[i]] := by rw [List.take_succ_eq_append_getElem hlt]
      cases hp : p ds[i] with
      | false =>
        refine iteF ⟨zs, ds.length - (i + 1), s5 _ _ hzs, by omega, rfl, hlt, fun b o h => s5 _ _ (k3 b o h), ?_⟩
        rw [etake, List.filter_append]
        simpa [hp] using hA.mono s5
      | true =>
        refine iteT ⟨ds[i], hmem, hp, (relE_blk eK r3 hv).mono s5, fun y H6 s6 hy6 => ⟨zs, s6 _ _ (s5 _ _ hzs), ?_, ds.length - (i + 1), by omega, rfl, hlt, fun b o h => ?_, ?_⟩⟩
        · have e1 := hA.length
          rw [List.length_map] at e1
          have e2 := List.length_filter_le p (ds.take i)
          rw [List.length_take] at e2
          rw [sizeLine_eq]
          omega
        · rw [upd_ne (ne_of_none h hD)]
          exact s6 _ _ (s5 _ _ (k3 b o h))
        · have hD6 : H6 D = some (.lst zs) := s6 _ _ (s5 _ _ hzs)
          have kt : KT H6 (upd H6 D (.lst (zs ++ [y]))) :=
            ⟨fun b xs h => by rw [upd_ne (ne_of h hD6 (by intro z; cases z))]; exact h, fun b o u h => by rw [upd_ne (ne_of h hD6 (by intro z; cases z))]; exact h⟩
          rw [etake, List.filter_append, List.map_append]
          refine IsAll.append ((hA.mono (s5.trans s6)).keep kt (fzs i)) ?_
          rw [eK] at hy6
          simpa [hp] using IsAll.cons (hy6.keep kt (hfz _ hmem hp)) .nil
    · refine .inl ⟨stop i (by omega), q D zs H3 (s2.free hD) (s2.trans k3) hzs ?_⟩
      have : ds.take i = ds := List.take_of_length_le (by omega)
      rw [this] at hA
      exact hA
end FL
namespace FL
open PySem PySem.Spec PyProof.Rows L2
theorem bools_of : ∀ {bs : List Bool} {us : List Value}, Vals (bs.map V.bl) us → LSm.BoolsAre us bs
  | [], _, .nil => .nil
  | b :: _, _, .cons r t => by
    cases r
    exact .cons b (bools_of t)
theorem call_all {X : Cx} (hc : X.calm = true) : CallR X (.builtin "all") (fun vs H Q => ∃ (a : Addr) (bs : List Bool), vs = [.ref a] ∧ SqL X.K H a (bs.map V.bl) ∧ Q (.bl (bs.all id)) H) := by
  intro pins s σ H vs us Q I r h
  obtain ⟨l, bs, rfl, hq, q⟩ := h
  obtain ⟨u, rfl, ru⟩ := vals1 r
  cases ru
  obtain ⟨its, rv, p, hz⟩ := I.list hq
  have hb : LSm.BoolsAre its bs := bools_of rv
  have hl := p.isList
  have hlt : l < s.heap.objs.size := by obtain ⟨_, e, _⟩ := hl; exact Heap.lt_size e
  refine call_all_walk (wpAny_pyIter_list hl ?_)
  refine ⟨s.heap.objs.size, [s.heap.objs.size, l], [s.heap.objs.size], its.toArray.size, _, _, fun i => (bs[i]?).getD true, rfl, Walks.list (A := X.A.in1) (I.ok.hd hc) _ l (Nat.ne_of_lt hlt) its.toArray,
    ⟨⟨_, Heap.get?_push_size _ rfl, rfl, rfl⟩, hl.push _⟩, fun i v s' Q' E' hP hQ => ?_, fun h' tk hk => ?_⟩
  · obtain ⟨b, e, rfl⟩ := hb.get i v (by simpa using hP)
    simp only [e, Option.getD_some] at hQ
    exact wpAny_truthy_bool hQ
  · have e : ((List.range its.toArray.size).all fun i => (bs[i]?).getD true) = bs.all id := by
      rw [List.size_toArray, hb.length]; exact LSm.range_all bs
    rw [e]
    exact ⟨.bl _, H, I.kept (LSm.kept_iter hk), rfl, q⟩
theorem IsAll.bools {K : PySem.W.Frag} {H : Hp} : ∀ {vs : List V} {bs : List Bool}, IsAll K H vs (bs.map D.bl) → vs = bs.map V.bl
  | _, [], .nil => rfl
  | _, b :: bs, .cons h r => by
    cases h.bl_inv
    rw [IsAll.bools r]
    rfl
section
variable {X : Cx} {e a b c : Expr} {es : List Expr} {ρ : Ro} {d : D} {ds : List D} {pos : Pos} {i j : Int} {k k' : Bool}
theorem ev_all {p : Pos} {bs : List Bool} (hc : X.calm = true) (hm : X.mg "all" = none) (ha : Ev X a ρ (.ls (bs.map D.bl))) (hg : Gl X "all" := by rfl) (he : starEach [a] X.env = [(false, eval a X.env)] := by rfl) : Ev X (.Call (.Name "all" p) [a] [] pos) ρ (.bl (bs.all id)) :=
  ev_callB (call_all hc) hm boot_all (ea_cons ha ea_nil he) (fun vs H Q h0 q => by
    obtain ⟨v, rfl, h⟩ := one_inv h0
    obtain ⟨l, xs, rfl, h1, h2⟩ := h.ls_inv
    cases h2.bools
    exact ⟨l, bs, rfl, h1, q _ H (Same.refl H) (.bl _)⟩) hg (by decide) (by decide) he rfl
end
theorem kit_b {K : PySem.W.Frag} {T U : String} {k : Bool} (hne : (Value.type T == Value.type U) = false) (hm : PySem.W.kitMeta U = true) (hs : (fastBuiltinMro T).map (·.contains (.type U)) = some k) : PySem.W.kitOne K (.type T) (.type U) = some k := by
  unfold PySem.W.kitOne
  rw [hne, if_neg Bool.false_ne_true]
  unfold PySem.W.kitCls
  dsimp only
  rw [if_pos hm]
  exact hs
theorem kit_s {K : PySem.W.Frag} {T : String} : PySem.W.kitOne K (.type T) (.type T) = some true := by
  unfold PySem.W.kitOne
  rw [if_pos (by simp)]
theorem kit_int_bool {K : PySem.W.Frag} : PySem.W.kitOne K (.type "int") (.type "bool") = some false := kit_b (by decide +kernel) (by decide +kernel) (by decide +kernel)
theorem bo_int : bootBuiltins "int" = some (.type "int") := by decide +kernel
theorem bo_bool : bootBuiltins "bool" = some (.type "bool") := by decide +kernel
theorem bo_tuple : bootBuiltins "tuple" = some (.type "tuple") := by decide +kernel
theorem bo_list : bootBuiltins "list" = some (.type "list") := by decide +kernel
theorem bo_str : bootBuiltins "str" = some (.type "str") := by decide +kernel
theorem bits_of_lay {ns : List Int} (h : PySem.W.WData.layableAll [PySem.W.WData.list (ns.map PySem.W.WData.int)] = true) : ∀ z ∈ ns, Builtin.Int.intBits z ≤ 1048576 := fun z hz => by
  have h1 := PySem.W.layableW_arg h _ List.mem_cons_self
  have h2 := PySem.W.layableW_item h1 (.int z) (List.mem_map.mpr ⟨z, hz, rfl⟩)
  have h3 := PySem.W.layable0_of_all (PySem.W.lay0_int h2)
  exact PyData.bits_of_layable h3
theorem walk_ofB {l : PySem.W.OpenLaw} {n k : Nat} {q : Program} {loose : List Str} {XP : (Str → Option Value) → Heap → Prop} {YP : World → Heap → Prop} {d : DefRec} {K : Params → PySem.W.Frag} {x : Str} {Pf : List D → D → Prop}
    (hn : l.most = some n) (hn2 : n ≤ sizeLine) (hdf : d.params.defaults = []) (hr : Room k callerA)
    (hY : ∀ (w : World) (h : Heap), YP w h → (K w.params).In h)
    (F : ∀ (w : World) (mg : Str → Option Value) (fa : Addr) (h : Heap), (K w.params).In h → h.Ns mainGlobals mg → mg d.name = some (.ref fa) →
      ∃ fd : FuncData, (∀ (s : Shared) (u : Value), BindsTo s fd ⟨[u], []⟩ [(x, u)]) ∧
        ∀ base : Heap, (K w.params).In base → base.Ns mainGlobals mg → FnOk l.prog w (K w.params) mg base CX0 k fa fd [x] (SpD (K w.params) Pf))
    (hsp : ∀ (ns : List Int), ns.length ≤ n → (∀ z ∈ ns, Builtin.Int.intBits z ≤ 1048576) → Pf [.ls (ns.map D.int)] (.bl true)) :
    PySem.W.WalkO q loose XP YP l.row.toRowW d [] (fun f vs => PySem.call f vs) := by
  intro w s₀ s₁ mg mb G Y fa o pm cd doc dV kV ho hd hcd hD hmg hg args vals as hpre hlay hrd hwl hlo
  obtain rfl : dV = .none := PySem.W.Dflts.none hD hdf
  obtain rfl : kV = .none := PySem.W.Dflts.noKw hD
  obtain ⟨a, vs, ns, rfl, rfl, hobj, hints, hlen⟩ := Att.script_of hn hpre hwl
  have hbits := bits_of_lay hlay
  have KX := hY w _ Y
  obtain ⟨fd, hb, hF⟩ := F w mg fa _ KX G.T.g hmg
  have hc : codeAny (model l.prog w) callerA (.call (.ref fa) ⟨[.ref a], []⟩) (fun r s' => r = .ok (.ret (.bool true)) ∧ OldK s₁.heap s'.heap ∧ s'.os = s₁.os ∧ AllBare s'.gens) s₁ :=
    law_call KX G.T.g G.T.b G.T.builtins G.T.nolimit hg hobj hints (Nat.le_trans hlen hn2) hr hF hb
      (fun H hO hS => ⟨[.ls (ns.map D.int)], .bl true, .cons (.ls hS (IsAll.ints ns)) .nil, hsp ns hlen hbits, fun v H' _ h => h.bl_inv⟩) (fun H e s' z => z)
  refine PySem.W.enter_call (codeAny_mono hc fun r s' hq => ?_)
  obtain ⟨rfl, h2, h3, h4⟩ := hq
  exact ⟨.inl ⟨.bool true, .bool true, [], rfl, fun _ => rfl, .bool true, Att.post_true l _, fun _ => ⟨List.Pairwise.nil, fun _ hm => (nomatch hm)⟩⟩, h2, h3, h4⟩
end FL
namespace FL
open PySem
open Builtin.Int (intBits)
theorem Bd.up {i : Int} {m : Nat} (h : Bd i m) (n : Nat) (hn : m ≤ n) : Bd i n := ⟨Nat.le_trans h.lt hn⟩
theorem Bd.of_lt {i : Int} {m : Nat} (h : i.natAbs < 2 ^ m) : Bd i m := ⟨intBits_le_iff.mpr h⟩
theorem Bd.lit {i : Int} {m : Nat} (h : i.natAbs < 2 ^ m := by decide) : Bd i m := .of_lt h
theorem Bd.add {i j : Int} {m n : Nat} (hi : Bd i m) (hj : Bd j n) (k : Nat) (h : max m n + 1 ≤ k) : Bd (i + j) k := ⟨Nat.le_trans (intBits_add_le hi.lt hj.lt) h⟩
theorem Bd.sub {i j : Int} {m n : Nat} (hi : Bd i m) (hj : Bd j n) (k : Nat) (h : max m n + 1 ≤ k) : Bd (i - j) k := ⟨Nat.le_trans (intBits_sub_le hi.lt hj.lt) h⟩
theorem Bd.mul {i j : Int} {m n : Nat} (hi : Bd i m) (hj : Bd j n) (k : Nat) (h : m + n ≤ k) : Bd (i * j) k := ⟨Nat.le_trans (intBits_mul_le hi.lt hj.lt) h⟩
instance bd_add {i j : Int} {m n : Nat} [hi : Bd i m] [hj : Bd j n] : Bd (i + j) (max m n + 1) := ⟨intBits_add_le hi.lt hj.lt⟩
instance bd_mul {i j : Int} {m n : Nat} [hi : Bd i m] [hj : Bd j n] : Bd (i * j) (m + n) := ⟨intBits_mul_le hi.lt hj.lt⟩
instance bd_0 : Bd 0 0 := .lit
instance bd_2 : Bd 2 2 := .lit
instance bd_4 : Bd 4 3 := .lit
theorem Bd.div {i j : Int} {m : Nat} (hi : Bd i m) (h : 0 < j) : Bd (i / j) m := by
  have e := intBits_fdiv_le (y := j) hi.lt
  rw [Int.fdiv_eq_ediv_of_nonneg i (by omega)] at e
  exact ⟨e⟩
theorem Bd.le {i j : Int} {m : Nat} (hj : Bd j m) (h : i.natAbs ≤ j.natAbs) : Bd i m := ⟨intBits_le_of_natAbs h hj.lt⟩
theorem Bd.sqrt {y N : Int} {k : Nat} (h : y * y ≤ N) (hN : Bd N (k + k)) : Bd y k := by
  refine .of_lt ?_
  have h1 := intBits_le_iff.mp hN.lt
  have h2 : y.natAbs * y.natAbs ≤ N.natAbs := by
    have : (y.natAbs * y.natAbs : Nat) = (y * y).natAbs := by rw [Int.natAbs_mul]
    rw [this]
    have h0 : 0 ≤ y * y := by
      rw [← Int.natAbs_mul_self]
      exact Int.natCast_nonneg _
    omega
  refine Nat.lt_of_not_le fun q => ?_
  have h3 := Nat.mul_le_mul q q
  rw [← Nat.pow_add] at h3
  omega
theorem Bd.factor {a p : Int} {k : Nat} (ha : 0 < a) (h : Bd (2 * a * p) k) : Bd p k := by
  refine h.le ?_
  rw [Int.natAbs_mul]
  have : 1 ≤ (2 * a).natAbs := by omega
  have := Nat.mul_le_mul_right p.natAbs this
  omega
end FL
namespace FL
open PySem PySem.Spec PyProof.Rows L2
def SrcS (X : Cx) (Ok : Ro → Prop) (J : It) (ρ : Ro) (H : Hp) (ds : List D) : Prop :=
  ∀ ρ' H3 σ3, Go ρ H ρ' H3 → RelS X X.H₀ H3 σ3 ρ' → Ok ρ' → (∀ i, ds.length ≤ i → J.stop i H3) ∧ ∀ i d, ds[i]? = some d → J.go i H3 ∧ ∀ x H4, J.yld i H3 x H4 → H4 = H3 ∧ Is X.K H3 x d
def tSrcS (X : Cx) (Ok : Ro → Prop) (ρ : Ro) (ds : List D) : TI := fun σ H R => RelS X X.H₀ H σ ρ ∧ ∀ J H', Same H H' → SrcS X Ok J ρ H' ds → R J H'
def Wk (X : Cx) (Ok : Ro → Prop) (tg e : Expr) (ρ : Ro) (ds : List D) : Prop := PI X tg e (tSrcS X Ok ρ ds)
theorem srcS_L {X : Cx} {Ok : Ro → Prop} {ρ : Ro} {H : Hp} {a : Addr} {ds : List D} (h : ∀ ρ' H3 σ3, Go ρ H ρ' H3 → RelS X X.H₀ H3 σ3 ρ' → Ok ρ' → ∃ xs, SqL X.K H3 a xs ∧ IsAll X.K H3 xs ds) : SrcS X Ok (Itl X.K a) ρ H ds := by
  intro ρ' H3 σ3 g r3 ok
  obtain ⟨xs, hT3, hA⟩ := h ρ' H3 σ3 g r3 ok
  refine ⟨fun i hi => ⟨xs, hT3, by rw [hA.length]; exact hi⟩, fun i d hd => ?_⟩
  obtain ⟨v, hv, hI⟩ := hA.get hd
  exact ⟨⟨xs, v, hT3, hv⟩, fun x H4 ⟨e4, y⟩ => ⟨e4, by have := y xs hT3; rw [hv] at this; cases this; exact hI⟩⟩
section
variable {X : Cx} {e a b c tg : Expr} {es : List Expr} {ρ : Ro} {d : D} {ds : List D} {pos : Pos} {i j : Int} {rest A B : List Stmt} {P : Po}
theorem do_for (n : Nat) {x : Str} {p' : Pos} {Ok : Ro → Prop} (Iv : Nat → Ro → Prop) (M : Ro → Prop) (hp : PassesOwn (model X.prog X.w) X.A X.env X.xe) (hc : X.calm = true) (he : Wk X Ok (.Name x p') e ρ ds) (hz : ∀ d ∈ ds, Fz d) (hok : ∀ i ρ, Iv i ρ → Ok ρ) (h0 : Iv 0 ρ)
    (hs : ∀ (i : Nat) (d : D) (ρ : Ro), ds[i]? = some d → Iv i ρ → Do X A (ρ.set n (some d)) { nx := Iv (i + 1), rt := P.rt, bk := M, ct := Iv (i + 1) }) (hd : ∀ ρ, Iv ds.length ρ → M ρ)
    (h : ∀ ρ', M ρ' → Do X rest ρ' P) (hN : X.N.Nodup) (hi : X.N[n]? = some x := by rfl) (hx : Loc X.env.scope x := by first | exact Or.inl rfl | exact Or.inr rfl)
    (hf : X.fn x = true ∨ X.env.scope.names.lookup x = some .local := by first | exact .inl rfl | exact .inr rfl) (hset : ∀ x, foldedSetIterable e X.env x = pure x := by intro _; rfl) : Do X (.For (.Name x p') e A [] pos :: rest) ρ P := by
  refine do_seq (M := M) ?_ h
  have hb : PSs X A (fun D σ H => ∃ i d ρ, ds[i]? = some d ∧ Iv i ρ ∧ tPo X (ρ.set n (some d)) { nx := Iv (i + 1), rt := P.rt, bk := M, ct := Iv (i + 1) } D σ H) :=
    fun pins s σ H D I ⟨i, d, ρ, e1, e2, q⟩ => hs i d ρ e1 e2 pins s σ H D I q
  refine PS.imp (ps_for hp hc he (pg_name hN hi hx hf) hb hset) ?_
  rintro D σ H ⟨r, q1, q2, q3, q4⟩
  refine ⟨r, fun J H1 s1 src => ?_⟩
  have g1 : Go ρ H ρ H1 := Go.same s1
  refine ⟨fun i m σ' H' => m = ds.length - i ∧ i ≤ ds.length ∧ ∃ ρ', Iv i ρ' ∧ RelS X X.H₀ H' σ' ρ' ∧ Go ρ H1 ρ' H', ⟨ds.length, by simp, Nat.zero_le _, ρ, h0, r.mono s1, Go.refl ρ H1⟩, ?_⟩
  rintro i m σ' H' ⟨rfl, hil, ρ', iv, r', g⟩
  obtain ⟨stop, go⟩ := src ρ' H' σ' g r' (hok i ρ' iv)
  by_cases hlt : i < ds.length
  · obtain ⟨g0, y⟩ := go i ds[i] (by simp [hlt])
    refine .inr ⟨g0, fun σ2 H2 => ∃ ρ2, Iv (i + 1) ρ2 ∧ RelS X X.H₀ H2 σ2 ρ2 ∧ Go ρ H1 ρ2 H2, fun σ2 H2 p2 => ⟨ds.length - (i + 1), by omega, rfl, hlt, p2⟩, fun v H4 hy => ?_⟩
    obtain ⟨rfl, hv⟩ := y v H4 hy
    have fz : Fz ds[i] := hz _ (List.getElem_mem hlt)
    have g2 : Go ρ H1 (ρ'.set n (some ds[i])) H4 := g.trans (Go.set (Same.refl H4) fun a z => (fz.no_own z).elim)
    refine ⟨i, ds[i], ρ', by simp [hlt], iv, r'.set hv n (.inl fz) (fun a z => (fz.no_own z).elim), ?_, q2, ?_, ?_⟩
    · exact fun σ2 H2 ρ2 g' r2 iv2 => ⟨ρ2, iv2, r2, g2.trans g'⟩
    · exact fun σ2 H2 ρ2 g' r2 m => q1 σ2 H2 ρ2 (g1.trans (g2.trans g')) r2 m
    · exact fun σ2 H2 ρ2 g' r2 iv2 => ⟨ρ2, iv2, r2, g2.trans g'⟩
  · have e : i = ds.length := by omega
    subst e
    exact .inl ⟨stop _ (Nat.le_refl _), q1 σ' H' ρ' (g1.trans g) r' (hd ρ' iv)⟩
theorem do_setN (n : Nat) {x : Str} {pos' : Pos} (he : EvN X e ρ ds) (hz : ∀ d ∈ ds, Fz d) (h : ∀ l, ¬ Mu ρ l → Do X rest (ρ.set n (some (.lst l ds))) P) (hN : X.N.Nodup) (hi : X.N[n]? = some x := by rfl) (hx : Loc X.env.scope x := by first | exact Or.inl rfl | exact Or.inr rfl)
    (hs : swapsWith e (some (.Name x pos')) pos.line X.env = pure false := by rfl) (hf : X.fn x = true ∨ X.env.scope.names.lookup x = some .local := by first | exact .inl rfl | exact .inr rfl) : Do X (.Assign [.Name x pos'] e pos :: rest) ρ P := by
  refine do_seq (M := fun ρ' => ∃ l, ¬ Mu ρ l ∧ ρ' = ρ.set n (some (.lst l ds))) (PS.imp (ps_set hN hi hx he hs hf) ?_) (fun _ ⟨l, hl, z⟩ => z ▸ h l hl)
  rintro D σ H ⟨r, q1, q2, q3, q4⟩
  refine ⟨r.e, fun l vs H' hl s e1 h' => q1 _ H' _ (Go.set s fun a z => ?_) ((r.mono s).set (.lst e1 h') n (.inr (.inr (.lst hz))) fun a z => ?_) ⟨l, fun m => ?_, rfl⟩⟩
  · cases z
    exact .inr hl
  · cases z
    exact r.same.free hl
  · obtain ⟨ys, z, _⟩ := r.mu m
    rw [hl] at z
    cases z
theorem do_append (n : Nat) {x : Str} {l : Addr} {p1 p2 p3 : Pos} (hρ : ρ[n]? = some (some (.lst l ds))) (he : Ev X e ρ d) (hz : Fz d) (hl : ds.length < 1000000) (hothers : ∀ (j : Nat) (es : List D), j ≠ n → ρ[j]? ≠ some (some (.lst l es)))
    (h : Do X rest (ρ.set n (some (.lst l (ds ++ [d])))) P) (hN : X.N[n]? = some x := by rfl) (hv : Vis X.env.scope x := by first | exact Or.inl rfl | exact Or.inr (Or.inl rfl) | exact Or.inr (Or.inr rfl))
    (hd : (x == ("__debug__" : Str)) = false := by decide) (hcd : (x == ("__classdict__" : Str)) = false := by decide)
    (hbase : attributeBase (.Name x p1) "append" X.env (eval (.Name x p1) X.env) = eval (.Name x p1) X.env := by rfl)
    (hfew : ((backTo p3 (starEach [e] X.env)).all (fun x => !x.1) && (backToKw p3 (keywordEach [] X.env)).all (fun x => x.1.isSome) && decide ([e].length + ([] : List Keyword).length + (if ([] : List Keyword).isEmpty then 0 else 1) < 30)) = true := by rfl)
    (hline : (p2.endLine == p3.line) = true := by rfl) (hstar : starEach [e] X.env = [(false, eval e X.env)] := by rfl) (hs : swapsWith (.Call (.Attribute (.Name x p1) "append" p2) [e] [] p3) none pos.line X.env = pure false := by rfl) :
    Do X (.Expr (.Call (.Attribute (.Name x p1) "append" p2) [e] [] p3) pos :: rest) ρ P := by
  refine do_seq (M := fun ρ' => ρ' = ρ.set n (some (.lst l (ds ++ [d])))) (PS.imp (ps_expr (pe_bm PySem.F.plainAttrs_list PySem.F.slot_list_append PySem.F.type_list_append mt_append (pe_var hN hv hd hcd) (ea_cons he ea_nil hstar) hbase hfew hline hstar rfl) hs) ?_) (fun _ z => z ▸ h)
  rintro D σ H ⟨r, q1, q2, q3, q4⟩
  obtain ⟨v, e1, h1, h2⟩ := r.val n _ hρ
  obtain ⟨rfl, xs, hT, hA⟩ := h1.lst_inv
  have fds : ∀ e ∈ ds, Fz e := by
    rcases h2 with z | z | z
    · cases z
    · obtain ⟨_, ys, z, _⟩ := z.lst_inv
      rw [r.own l ⟨n, _, hρ, rfl⟩] at z
      cases z
    · cases z with | lst f => exact f
  refine ⟨_, e1, .inl ⟨rfl, xs, .of hT⟩, r.e, fun vs H2 s2 h3' => ?_⟩
  obtain ⟨v2, rfl, h3⟩ := one_inv h3'
  have hT2 := s2 _ _ hT
  have lx : xs.length = ds.length := hA.length
  refine ⟨l, xs, v2, rfl, rfl, hT2, by rw [sizeLine_eq]; omega, ?_⟩
  have kt : KT H2 (upd H2 l (.lst (xs ++ [v2]))) :=
    ⟨fun b xs h => by rw [upd_ne (ne_of h hT2 (by intro z; cases z))]; exact h, fun b o u h => by rw [upd_ne (ne_of h hT2 (by intro z; cases z))]; exact h⟩
  have r2 := r.mono s2
  have h0 : X.H₀ l = none := r.own l ⟨n, _, hρ, rfl⟩
  have same : Same X.H₀ (upd H2 l (.lst (xs ++ [v2]))) := fun b o h => by
    rw [upd_ne (ne_of_none h h0)]
    exact r2.same b o h
  have hnl : n < ρ.length := (List.getElem?_eq_some_iff.mp hρ).1
  have go : Go ρ H (ρ.set n (some (.lst l (ds ++ [d])))) (upd H2 l (.lst (xs ++ [v2]))) := by
    refine ⟨fun b o h nm => ?_, ?_⟩
    · have : b ≠ l := fun z => nm (z ▸ ⟨n, _, hρ, rfl⟩)
      rw [upd_ne this]
      exact s2 _ _ h
    · rintro a ⟨j, es, hj, hw⟩
      rcases set_get hj with ⟨rfl, rfl, _⟩ | ⟨_, hj⟩
      · cases hw
        exact .inl ⟨_, _, hρ, rfl⟩
      · exact .inl ⟨j, es, hj, hw⟩
  have own : ∀ a, Mu (ρ.set n (some (.lst l (ds ++ [d])))) a → X.H₀ a = none := by
    rintro a ⟨j, es, hj, hw⟩
    rcases set_get hj with ⟨rfl, rfl, _⟩ | ⟨_, hj⟩
    · cases hw
      exact h0
    · exact r.own a ⟨j, es, hj, hw⟩
  refine q1 _ _ _ go ⟨same, by simp [r.len], fun j e' hj => ?_, own⟩ rfl
  rcases set_get hj with ⟨rfl, rfl, _⟩ | ⟨hne, hj⟩
  · refine ⟨.ref l, e1, .lst upd_same ?_, .inr (.inr (.lst fun e' he' => ?_))⟩
    · exact ((hA.mono s2).keep kt fds).append (.cons (h3.keep kt hz) .nil)
    · rcases List.mem_append.mp he' with z | z
      · exact fds _ z
      · rw [List.mem_singleton.mp z]; exact hz
  · obtain ⟨u, f1, f2, f3⟩ := r2.val j e' hj
    refine ⟨u, f1, ?_, f3⟩
    rcases f3 with z | z | z
    · exact f2.keep kt z
    · exact z.mono same
    · exact z.keep f2 kt fun a ha => upd_ne (ne_list f2 ha hT2 fun es ez => hothers j es hne (ez ▸ hj))
end
end FL
namespace FL
open PySem PySem.Spec PyProof.Rows L2
mutual
inductive Cm : Nat → D → D → Prop
  | non {n : Nat} : Cm n .non .non
  | bl {n : Nat} (a b : Bool) : Cm n (.bl a) (.bl b)
  | int {n : Nat} (i j : Int) : Cm n (.int i) (.int j)
  | str {n : Nat} (x y : Str) : Cm n (.str x) (.str y)
  | tup {n : Nat} {ds es : List D} (h : Cms n ds es) : Cm (n + 1) (.tup ds) (.tup es)
  | fl {n : Nat} {ds es : List D} (h : Cms n ds es) : Cm (n + 1) (.fl ds) (.fl es)
inductive Cms : Nat → List D → List D → Prop
  | nil {n : Nat} : Cms n [] []
  | short {n : Nat} (e : D) (es : List D) : Cms n [] (e :: es)
  | long {n : Nat} (d : D) (ds : List D) : Cms n (d :: ds) []
  | cons {n : Nat} {d e : D} {ds es : List D} (h : Cm n d e) (r : Cms n ds es) : Cms n (d :: ds) (e :: es)
end
theorem Cms.ints {n : Nat} : ∀ (ns ms : List Int), Cms n (ns.map D.int) (ms.map D.int)
  | [], [] => .nil
  | [], m :: ms => .short _ _
  | n :: ns, [] => .long _ _
  | n :: ns, m :: ms => .cons (.int n m) (Cms.ints ns ms)
theorem Cm.ints {n : Nat} (ns ms : List Int) : Cm (n + 1) (.tup (ns.map D.int)) (.tup (ms.map D.int)) := .tup (Cms.ints ns ms)
theorem Cms.get {n : Nat} : ∀ {ds es : List D}, Cms n ds es → ∀ (j : Nat) (d e : D), ds[j]? = some d → es[j]? = some e → Cm n d e
  | _, _, .nil, j, d, e, h, _ => by simp at h
  | _, _, .short _ _, j, d, e, h, _ => by simp at h
  | _, _, .long _ _, j, d, e, _, h => by simp at h
  | _, _, .cons h r, 0, d, e, h1, h2 => by simp at h1 h2; subst h1 h2; exact h
  | _, _, .cons h r, j + 1, d, e, h1, h2 => Cms.get r j d e (by simpa using h1) (by simpa using h2)
open Classical in
noncomputable def eqb (d e : D) : Bool := decide (d = e)
open Classical in
theorem eqb_iff {d e : D} : eqb d e = true ↔ d = e := by unfold eqb; exact decide_eq_true_iff
theorem eqb_of {d e : D} {k : Bool} (h : k = true ↔ d = e) : eqb d e = k := by
  cases k with
  | true => exact eqb_iff.mpr (h.mp rfl)
  | false =>
    cases q : eqb d e with
    | false => rfl
    | true => exact absurd (h.mpr (eqb_iff.mp q)) Bool.false_ne_true
section
variable {X : Cx} {pins : List (Addr × Obj)} {σ : L2.St} {H : Hp} {s : Shared}
mutual
theorem Is.inj (I : L2.Inv X pins σ H s) : ∀ {n : Nat} {d e : D} {v : V}, Cm n d e → Is X.K H v d → Is X.K H v e → d = e
  | _, _, _, _, .non, _, _ => rfl
  | _, _, _, _, .bl a b, h1, h2 => by cases h1.bl_inv; cases h2.bl_inv; rfl
  | _, _, _, _, .int a b, h1, h2 => by cases h1.int_inv; cases h2.int_inv; rfl
  | _, _, _, _, .str a b, h1, h2 => by cases h1.str_inv; cases h2.str_inv; rfl
  | _, _, _, _, .tup c, h1, h2 => by
    obtain ⟨a, xs, rfl, t1, r1⟩ := h1.tup_inv
    obtain ⟨a', ys, z, t2, r2⟩ := h2.tup_inv
    cases z
    cases I.tuple_inj t1 t2
    rw [IsAll.inj I c r1 r2]
  | _, _, _, _, .fl c, h1, h2 => by
    obtain ⟨a, o, xs, rfl, t1, r1⟩ := h1.fl_inv
    obtain ⟨a', o', ys, z, t2, r2⟩ := h2.fl_inv
    cases z
    rw [t1] at t2
    cases t2
    rw [IsAll.inj I c r1 r2]
theorem IsAll.inj (I : L2.Inv X pins σ H s) : ∀ {n : Nat} {ds es : List D} {vs : List V}, Cms n ds es → IsAll X.K H vs ds → IsAll X.K H vs es → ds = es
  | _, _, _, _, .nil, _, _ => rfl
  | _, _, _, _, .short _ _, h1, h2 => by have a := h1.length; have b := h2.length; rw [a] at b; simp at b
  | _, _, _, _, .long _ _, h1, h2 => by have a := h1.length; have b := h2.length; rw [a] at b; simp at b
  | _, _, _, _, .cons c r, .cons h1 r1, .cons h2 r2 => by rw [Is.inj I c h1 h2, IsAll.inj I r r1 r2]
end
theorem tup_eq_iff {ds es : List D} : D.tup ds = D.tup es ↔ ds.length = es.length ∧ ∀ (j : Nat) (d e : D), ds[j]? = some d → es[j]? = some e → d = e := by
  constructor
  · intro h
    cases h
    exact ⟨rfl, fun j d e h1 h2 => by rw [h1] at h2; exact Option.some.inj h2⟩
  · rintro ⟨h1, h2⟩
    congr 1
    refine List.ext_getElem? fun j => ?_
    by_cases hj : j < ds.length
    · have hj' : j < es.length := by omega
      rw [List.getElem?_eq_getElem hj, List.getElem?_eq_getElem hj', h2 j _ _ (List.getElem?_eq_getElem hj) (List.getElem?_eq_getElem hj')]
    · rw [List.getElem?_eq_none (by omega), List.getElem?_eq_none (by omega)]
noncomputable def fEq (ds es : List D) (j : Nat) : Bool := match ds[j]?, es[j]? with
  | some d, some e => eqb d e
  | _, _ => true
theorem fEq_at {ds es : List D} {j : Nat} {d e : D} (h1 : ds[j]? = some d) (h2 : es[j]? = some e) : fEq ds es j = eqb d e := by
  unfold fEq
  rw [h1, h2]
theorem fEq_all {ds es : List D} {n m : Nat} (l1 : n = ds.length) (l2 : m = es.length) : eqb (.tup ds) (.tup es) = ((List.range (min n m)).all (fEq ds es) && n == m) := by
  subst l1 l2
  refine eqb_of ?_
  rw [tup_eq_iff, Bool.and_eq_true, List.all_eq_true, beq_iff_eq]
  simp only [List.mem_range]
  constructor
  · rintro ⟨g1, g2⟩
    refine ⟨g2, fun j d e hd he => ?_⟩
    have hj : j < ds.length := (List.getElem?_eq_some_iff.mp hd).1
    have := g1 j (by omega)
    rw [fEq_at hd he] at this
    exact eqb_iff.mp this
  · rintro ⟨g2, g1⟩
    refine ⟨fun j hj => ?_, g2⟩
    have d1 : ds[j]? = some ds[j] := List.getElem?_eq_getElem (by omega)
    have d2 : es[j]? = some es[j] := List.getElem?_eq_getElem (by omega)
    rw [fEq_at d1 d2]
    exact eqb_iff.mpr (g1 j _ _ d1 d2)
theorem eqb_fl {ds es : List D} : eqb (.fl ds) (.fl es) = eqb (.tup ds) (.tup es) := eqb_of (by rw [eqb_iff]; constructor <;> intro h <;> cases h <;> rfl)
theorem fEq_items {A : Around} {xs ys : List V} {us ws : List Value} {ds es : List D} (q1 : IsAll X.K H xs ds) (q2 : IsAll X.K H ys es) (w1 : Vals xs us) (w2 : Vals ys ws)
    (hit : ∀ (j : Nat) (d e : D) (v1 v2 : V) (u1 u2 : Value), ds[j]? = some d → es[j]? = some e → Is X.K H v1 d → Is X.K H v2 e → RelV v1 u1 → RelV v2 u2 → SeqAt.EqAt A s u1 u2 (eqb d e)) :
    ∀ (j : Nat) (h1 : j < us.toArray.size) (h2 : j < ws.toArray.size), SeqAt.EqAt A s us.toArray[j] ws.toArray[j] (fEq ds es j) := by
  intro j h1 h2
  have l1 : us.length = ds.length := by rw [← w1.length, q1.length]
  have l2 : ws.length = es.length := by rw [← w2.length, q2.length]
  have j1 : j < us.length := by simpa using h1
  have j2 : j < ws.length := by simpa using h2
  have d1 : ds[j]? = some ds[j] := List.getElem?_eq_getElem (by omega)
  have d2 : es[j]? = some es[j] := List.getElem?_eq_getElem (by omega)
  obtain ⟨v1, g1, i1⟩ := q1.get d1
  obtain ⟨v2, g2, i2⟩ := q2.get d2
  obtain ⟨u1, g3, k1⟩ := w1.get g1
  obtain ⟨u2, g4, k2⟩ := w2.get g2
  have e1 : us.toArray[j] = u1 := by
    have : us[j]? = some us[j] := List.getElem?_eq_getElem j1
    rw [g3] at this
    simpa using (Option.some.inj this).symm
  have e2 : ws.toArray[j] = u2 := by
    have : ws[j]? = some ws[j] := List.getElem?_eq_getElem j2
    rw [g4] at this
    simpa using (Option.some.inj this).symm
  rw [e1, e2, fEq_at d1 d2]
  exact hit j _ _ v1 v2 u1 u2 d1 d2 i1 i2 k1 k2
theorem eqAt_D (I : L2.Inv X pins σ H s) : ∀ {n : Nat} {d e : D} {v u : V} {v' u' : Value} (A : Around), Cm n d e → A.units + n < cLine → Is X.K H v d → Is X.K H u e → RelV v v' → RelV u u' → SeqAt.EqAt A s v' u' (eqb d e)
  | n, _, _, v, u, v', u', A, .non, _, h1, h2, r1, r2 => by
    cases h1.non_inv; cases h2.non_inv; cases r1; cases r2
    rw [eqb_of (k := true) (by simp)]
    exact SeqAt.EqAt.same _
  | n, _, _, v, u, v', u', A, .bl a b, _, h1, h2, r1, r2 => by
    cases h1.bl_inv; cases h2.bl_inv
    rw [eqb_of (k := eqV (.bl a) (.bl b)) (by show (a == b) = true ↔ _; simp)]
    exact eqAt_V r1 r2 rfl rfl
  | n, _, _, v, u, v', u', A, .int a b, _, h1, h2, r1, r2 => by
    cases h1.int_inv; cases h2.int_inv
    rw [eqb_of (k := eqV (.int a) (.int b)) (by show (a == b) = true ↔ _; simp)]
    exact eqAt_V r1 r2 rfl rfl
  | n, _, _, v, u, v', u', A, .str a b, _, h1, h2, r1, r2 => by
    cases h1.str_inv; cases h2.str_inv
    rw [eqb_of (k := eqV (.str a) (.str b)) (by show (a == b) = true ↔ _; simp)]
    exact eqAt_V r1 r2 rfl rfl
  | n + 1, .tup ds, .tup es, v, u, v', u', A, .tup c, hu, h1, h2, r1, r2 => by
    obtain ⟨a, xs, rfl, t1, q1⟩ := h1.tup_inv
    obtain ⟨b, ys, rfl, t2, q2⟩ := h2.tup_inv
    cases r1
    cases r2
    by_cases hab : a = b
    · subst hab
      cases I.tuple_inj t1 t2
      rw [IsAll.inj I c q1 q2, eqb_of (k := true) (by simp)]
      exact SeqAt.EqAt.same _
    · obtain ⟨us, w1, p1, _⟩ := I.tuple t1
      obtain ⟨ws, w2, p2, _⟩ := I.tuple t2
      rw [fEq_all (n := us.toArray.size) (m := ws.toArray.size) (by rw [List.size_toArray, ← w1.length, q1.length]) (by rw [List.size_toArray, ← w2.length, q2.length])]
      exact SeqAt.EqAt.of_refs hab (SeqAt.RcAt.tuples p1 p2 (by omega) (fEq_items q1 q2 w1 w2 fun j d e v1 v2 u1 u2 d1 d2 i1 i2 k1 k2 => eqAt_D I A.in1 (c.get j _ _ d1 d2) (by show A.units + 1 + n < cLine; omega) i1 i2 k1 k2))
  | n + 1, .fl ds, .fl es, v, u, v', u', A, .fl c, hu, h1, h2, r1, r2 => by
    obtain ⟨a, o, xs, rfl, t1, q1⟩ := h1.fl_inv
    obtain ⟨b, o', ys, rfl, t2, q2⟩ := h2.fl_inv
    cases r1
    cases r2
    by_cases hab : a = b
    · subst hab
      rw [t1] at t2
      cases t2
      rw [IsAll.inj I c q1 q2, eqb_of (k := true) (by simp)]
      exact SeqAt.EqAt.same _
    · obtain ⟨us, w1, p1, _⟩ := I.list (.inl (.inr ⟨o, t1⟩))
      obtain ⟨ws, w2, p2, _⟩ := I.list (.inl (.inr ⟨o', t2⟩))
      have e1 : us.length = ds.length := by rw [← w1.length, q1.length]
      have e2 : ws.length = es.length := by rw [← w2.length, q2.length]
      rw [eqb_fl, fEq_all (n := us.length) (m := ws.length) e1 e2]
      by_cases hz : us.length = ws.length
      · have ek : (List.range us.toArray.size).all (fEq ds es) = ((List.range (min us.length ws.length)).all (fEq ds es) && us.length == ws.length) := by
          rw [List.size_toArray, show min us.length ws.length = us.length by omega, show (us.length == ws.length) = true by simp; omega, Bool.and_true]
        rw [← ek]
        exact SeqAt.EqAt.of_refs hab (SeqAt.RcAt.lists p1.isList p2.isList (by simp; omega) (by omega) (fEq_items q1 q2 w1 w2 fun j d e v1 v2 u1 u2 d1 d2 i1 i2 k1 k2 => eqAt_D I A.in1 (c.get j _ _ d1 d2) (by show A.units + 1 + n < cLine; omega) i1 i2 k1 k2))
      · have ek : ((List.range (min us.length ws.length)).all (fEq ds es) && us.length == ws.length) = false := by
          rw [show (us.length == ws.length) = false by simpa using hz, Bool.and_false]
        rw [ek]
        exact SeqAt.EqAt.of_refs hab (SeqAt.RcAt.lists_lengths p1.isList p2.isList (by simpa using hz) (by omega))
end
section
variable {X : Cx}
def rEqT (X : Cx) (neg : Bool) : R2 := fun x y H Q => ∃ n ds es, Cm (n + 1) (.tup ds) (.tup es) ∧ X.A.units + n + 1 < cLine ∧ Is X.K H x (.tup ds) ∧ Is X.K H y (.tup es) ∧ Q (.bl (if neg then !eqb (.tup ds) (.tup es) else eqb (.tup ds) (.tup es))) H
theorem op_eqT : OpR X (compareOp .Eq) (rEqT X false) := by
  intro pins s σ H x y v u Q I rx ry h
  obtain ⟨n, ds, es, c, hu, h1, h2, q⟩ := h
  obtain ⟨a, xs, rfl, t1, q1⟩ := h1.tup_inv
  obtain ⟨b, ys, rfl, t2, q2⟩ := h2.tup_inv
  cases rx
  cases ry
  cases c with
  | tup c =>
    obtain ⟨us, w1, p1, _⟩ := I.tuple t1
    obtain ⟨ws, w2, p2, _⟩ := I.tuple t2
    refine SeqAt.eq_tupleAt p1 p2 (by omega) (fEq_items q1 q2 w1 w2 fun j d e v1 v2 u1 u2 d1 d2 i1 i2 k1 k2 => eqAt_D I X.A.in1 (c.get j _ _ d1 d2) (by show X.A.units + 1 + n < cLine; omega) i1 i2 k1 k2) ?_
    rw [← fEq_all (n := us.toArray.size) (m := ws.toArray.size) (by rw [List.size_toArray, ← w1.length, q1.length]) (by rw [List.size_toArray, ← w2.length, q2.length])]
    exact ⟨.bl _, H, I, rfl, q⟩
theorem op_neT : OpR X (compareOp .NotEq) (rEqT X true) := by
  intro pins s σ H x y v u Q I rx ry h
  obtain ⟨n, ds, es, c, hu, h1, h2, q⟩ := h
  obtain ⟨a, xs, rfl, t1, q1⟩ := h1.tup_inv
  obtain ⟨b, ys, rfl, t2, q2⟩ := h2.tup_inv
  cases rx
  cases ry
  cases c with
  | tup c =>
    obtain ⟨us, w1, p1, _⟩ := I.tuple t1
    obtain ⟨ws, w2, p2, _⟩ := I.tuple t2
    refine SeqAt.RcNeAt.tuples p1 p2 (by omega) (fEq_items q1 q2 w1 w2 fun j d e v1 v2 u1 u2 d1 d2 i1 i2 k1 k2 => eqAt_D I X.A.in1 (c.get j _ _ d1 d2) (by show X.A.units + 1 + n < cLine; omega) i1 i2 k1 k2) _ _ _ _ ?_
    rw [← fEq_all (n := us.toArray.size) (m := ws.toArray.size) (by rw [List.size_toArray, ← w1.length, q1.length]) (by rw [List.size_toArray, ← w2.length, q2.length])]
    exact ⟨.bl _, H, I, rfl, q⟩
variable {e a b c : Expr} {es : List Expr} {ρ : Ro} {d : D} {ds fs : List D} {pos : Pos} {i j : Int} {k k' : Bool}
theorem rEqT_of {n m : Nat} {neg : Bool} (hr : Room m X.A) (c : Cm (n + 1) (.tup ds) (.tup fs)) (hn : n ≤ 60) (hk : d = .bl (if neg then !eqb (.tup ds) (.tup fs) else eqb (.tup ds) (.tup fs))) :
    ∀ v1 v2 H Q, Is X.K H v1 (.tup ds) → Is X.K H v2 (.tup fs) → (∀ v H', Same H H' → Is X.K H' v d → Q v H') → rEqT X neg v1 v2 H Q :=
  fun _ _ H _ h1 h2 q => ⟨n, ds, fs, c, (by have := hr.units; omega), h1, h2, q _ H (Same.refl H) (hk ▸ .bl _)⟩
theorem et_neT {n m : Nat} (hr : Room m X.A) (ha : Ev X a ρ (.tup ds)) (hb : Ev X b ρ (.tup fs)) (c : Cm (n + 1) (.tup ds) (.tup fs)) (hn : n ≤ 60 := by decide) : Et X (.Compare a [.NotEq] [b] pos) ρ (!eqb (.tup ds) (.tup fs)) :=
  et_cmp op_neT ha hb (nomark _) (rEqT_of hr c hn rfl)
theorem evn_list (h : EvA X es ρ ds) (hl : ds.length ≤ 1000 := by exact Nat.le_of_ble_eq_true rfl) : EvN X (.List es pos) ρ ds := by
  refine PE.imp (pe_lst h) ?_
  rintro σ H Q ⟨r, q⟩
  exact ⟨r, fun vs H1 s1 h1 => ⟨by rw [h1.length]; exact Nat.le_of_lt (small1000 hl), fun p hp => q p vs _ (s1.free hp) (s1.trans (same_new hp)) upd_same (h1.mono (same_new hp))⟩⟩
end
def SpL (K : PySem.W.Frag) (Pf : List D → List D → Prop) : Sp := fun vs H Q _ => ∃ ds es, IsAll K H vs ds ∧ Pf ds es ∧ ∀ a us H', H a = none → Same H H' → H' a = some (.lst us) → IsAll K H' us es → Q (.ref a) H'
def FnL (P : Program) (w : World) (K : PySem.W.Frag) (mg : Str → Option Value) (base : Heap) (k : Nat) (x : Str) (Pf : List D → List D → Prop) : Prop :=
  ∃ f fd ps, FnOk P w K mg base CX0 k f fd ps (SpL K Pf) ∧ mg x = some (.ref f) ∧ PySem.W.keepIn K (.ref f) = true ∧ Binds K fd ps []
section
variable {X : Cx} {e a b c : Expr} {es : List Expr} {ρ : Ro} {d : D} {ds : List D} {pos : Pos} {rest : List Stmt} {Q : Po}
theorem evn_call {k : Nat} {x : Str} {Pf : List D → List D → Prop} {fs : List D} {p : Pos} (C : FnL X.prog X.w X.K X.mg X.base k x Pf) (hr : Room k X.A) (ha : EvA X (e :: es) ρ ds) (hp : Pf ds fs) (hg : Gl X x := by rfl) (hdb : (x == ("__debug__" : Str)) = false := by decide)
    (he : starEach (e :: es) X.env = (false, eval e X.env) :: starEach es X.env := by rfl) (hpl : (backTo pos (starEach es X.env)).any (·.1) = false := by rfl) : EvN X (.Call (.Name x p) (e :: es) [] pos) ρ fs := by
  obtain ⟨f, fd, ps, F, hm, hk, hb⟩ := C
  refine PE.imp (pe_call F hr hg hm hk hb .nil pass0 ha hdb he hpl) ?_
  rintro σ H Q ⟨r, q⟩
  refine ⟨r, fun vs H1 s1 h1 => ⟨ds, fs, ?_, hp, fun v us H' hv s' e' h' => q v us H' (s1.free hv) (s1.trans s') e' h'⟩⟩
  rw [List.append_nil]
  exact h1
theorem do_retL (he : EvN X e ρ ds) (h : ∀ l, Q.rt (.lst l ds)) : Do X (.Return (some e) pos :: rest) ρ Q := by
  refine PSs.imp (pss_cons (u := tNever) (ps_ret he) pss_never) ?_
  rintro D σ H ⟨r, q1, q2, q3, q4⟩
  exact ⟨r.e, fun l vs H' hl s e' h' => q2 _ H' _ (r.same.trans s) (.lst e' h') (fun a z => by cases z; exact r.same.free hl) (h l)⟩
end
section
variable {P : Program} {w : World} {K : PySem.W.Frag} {mg : Str → Option Value} {base : Heap}
theorem fnl_mk {x qual : Str} {st : Stmt} {f : Addr} {fd : FuncData} {N ps : List Str} {k : Nat} {Pf : List D → List D → Prop} (F : Fun K x qual st f fd) (S : FnScope N ps (defScope st)) (hm : mg x = some (.ref f)) (hb : Binds K fd ps [])
    (hl : ∀ ds es, Pf ds es → ds.length = ps.length ∧ ∀ d ∈ ds, ownA d = none)
    (hbody : ∀ (cdv : Value) (A : Around) (outer : List Env) (s : Shared) (H : Hp) (E : XK), Room k (A.deeper (envOfC qual (defScope st) s.heap.objs.size f cdv)) → ∀ ds es, Pf ds es →
      Do (cxD P w K mg base N qual st f cdv A outer s H E) (defBody st) (ini N ds) { nx := fun _ => False, rt := fun d' => ∃ l, d' = .lst l es }) : FnL P w K mg base (k + 1) x Pf := by
  refine ⟨f, fd, ps, F.ok S (fun vs H Q E h => ?_) (fun cdv A outer s H vs Q E hr h => ?_), hm, F.kp, hb⟩
  · obtain ⟨ds, es, h1, h2, _⟩ := h
    rw [h1.length]
    exact (hl ds es h2).1
  · obtain ⟨ds, es, h1, h2, q⟩ := h
    refine ⟨_, hbody cdv A outer s H E hr ds es h2, ?_⟩
    refine ⟨relS_start (X := cxD P w K mg base N qual st f cdv A outer s H E) h1 (hl ds es h2).2, fun _ _ _ _ _ z => z.elim, fun v H' d' sm hv fr z => ?_, fun _ _ _ _ _ z => z.elim, fun _ _ _ _ _ z => z.elim⟩
    obtain ⟨l, z⟩ : ∃ l, d' = .lst l es := z
    subst z
    obtain ⟨rfl, us, e1, e2⟩ := hv.lst_inv
    exact q l us H' (fr l rfl) sm e1 e2
end
end FL
namespace FL
open PySem PySem.Spec PyProof.Rows L2
def tR (X : Cx) (ρ : Ro) (R : D → Prop) : TE := fun σ H Q => RelE X H σ ρ ∧ ∀ d v H', R d → Same H H' → Is X.K H' v d → Q v H'
def tRs (X : Cx) (ρ : Ro) (R : List D → Prop) : TA := fun σ H Q => RelE X H σ ρ ∧ ∀ ds vs H', R ds → Same H H' → IsAll X.K H' vs ds → Q vs H'
def EvR (X : Cx) (e : Expr) (ρ : Ro) (R : D → Prop) : Prop := PE X e (tR X ρ R)
def EvAR (X : Cx) (es : List Expr) (ρ : Ro) (R : List D → Prop) : Prop := PA X es (tRs X ρ R)
section
variable {X : Cx} {e a b c : Expr} {es : List Expr} {ρ : Ro} {d : D} {ds : List D} {pos : Pos} {i j : Int} {rest : List Stmt} {P : Po} {R S : D → Prop} {Rs : List D → Prop}
theorem EvR.imp (h : EvR X e ρ R) (f : ∀ d, R d → S d) : EvR X e ρ S := PE.imp h fun _ _ _ ⟨r, q⟩ => ⟨r, fun d v H' x s h => q d v H' (f d x) s h⟩
theorem EvA.r (h : EvA X es ρ ds) : EvAR X es ρ (fun x => x = ds) := PA.imp h fun _ _ _ ⟨r, q⟩ => ⟨r, fun v H' s h => q ds v H' rfl s h⟩
theorem evr_ix (ha : EvR X a ρ R) (hb : Ev X b ρ (.int i)) (h : ∀ d, R d → ∃ ds d', d = .tup ds ∧ atI ds i = some d' ∧ S d') (hs : PlainIx b := by exact fun _ _ => rfl) : EvR X (.Subscript a b pos) ρ S :=
  PE.imp (pe_ix ix_tup ha hb hs) fun σ H Q ⟨r, q⟩ => ⟨r, fun d v1 H1 x1 s1 h1 => ⟨r.mono s1, fun v2 H2 s2 h2 => by
    obtain ⟨ds, d', rfl, hi, x2⟩ := h d x1
    obtain ⟨p, xs, rfl, h3, h4⟩ := (h1.mono s2).tup_inv
    obtain ⟨v, e, h5⟩ := atI_map h4 hi
    exact ⟨p, xs, i, v, rfl, h2.int_inv, h3, e, q d' v H2 x2 (s1.trans s2) h5⟩⟩⟩
theorem do_setR (n : Nat) {x : Str} {pos' : Pos} (he : EvR X e ρ R) (hz : ∀ d, R d → Fz d) (h : ∀ d, R d → Do X rest (ρ.set n (some d)) P) (hN : X.N.Nodup) (hi : X.N[n]? = some x := by rfl) (hx : Loc X.env.scope x := by first | exact Or.inl rfl | exact Or.inr rfl)
    (hs : swapsWith e (some (.Name x pos')) pos.line X.env = pure false := by rfl) (hf : X.fn x = true ∨ X.env.scope.names.lookup x = some .local := by first | exact .inl rfl | exact .inr rfl) : Do X (.Assign [.Name x pos'] e pos :: rest) ρ P := by
  refine do_seq (M := fun ρ' => ∃ d, R d ∧ ρ' = ρ.set n (some d)) (PS.imp (ps_set hN hi hx he hs hf) ?_) (fun _ ⟨d, x, z⟩ => z ▸ h d x)
  rintro D σ H ⟨r, q1, q2, q3, q4⟩
  refine ⟨r.e, fun d v H' x s h' => ?_⟩
  exact q1 _ H' _ (Go.set s fun a z => ((hz d x).no_own z).elim) ((r.mono s).set h' n (.inl (hz d x)) fun a z => ((hz d x).no_own z).elim) ⟨d, x, rfl⟩
theorem do_retR (he : EvR X e ρ R) (hz : ∀ d, R d → Fz d) (h : ∀ d, R d → P.rt d) : Do X (.Return (some e) pos :: rest) ρ P := by
  refine PSs.imp (pss_cons (u := tNever) (ps_ret he) pss_never) ?_
  rintro D σ H ⟨r, q1, q2, q3, q4⟩
  exact ⟨r.e, fun d v H' x s h' => q2 v H' d (r.same.trans s) h' (fun a z => ((hz d x).no_own z).elim) (h d x)⟩
end
def SpR (K : PySem.W.Frag) (Pre : List D → Prop) (Post : List D → D → Prop) : Sp := fun vs H Q _ => ∃ ds, IsAll K H vs ds ∧ Pre ds ∧ ∀ d v H', Post ds d → Same H H' → Is K H' v d → Q v H'
def FnR (P : Program) (w : World) (K : PySem.W.Frag) (mg : Str → Option Value) (base : Heap) (k : Nat) (x : Str) (Pre : List D → Prop) (Post : List D → D → Prop) : Prop :=
  ∃ f fd ps, FnOk P w K mg base CX0 k f fd ps (SpR K Pre Post) ∧ mg x = some (.ref f) ∧ PySem.W.keepIn K (.ref f) = true ∧ Binds K fd ps []
section
variable {X : Cx} {e : Expr} {es : List Expr} {ρ : Ro} {ds : List D} {pos : Pos} {Rs : List D → Prop}
theorem evr_callR {k : Nat} {x : Str} {Pre : List D → Prop} {Post : List D → D → Prop} {p : Pos} (C : FnR X.prog X.w X.K X.mg X.base k x Pre Post) (hr : Room k X.A) (ha : EvAR X (e :: es) ρ Rs) (hp : ∀ ds, Rs ds → Pre ds) (hg : Gl X x := by rfl) (hdb : (x == ("__debug__" : Str)) = false := by decide)
    (he : starEach (e :: es) X.env = (false, eval e X.env) :: starEach es X.env := by rfl) (hpl : (backTo pos (starEach es X.env)).any (·.1) = false := by rfl) : EvR X (.Call (.Name x p) (e :: es) [] pos) ρ (fun d => ∃ ds, Rs ds ∧ Post ds d) := by
  obtain ⟨f, fd, ps, F, hm, hk, hb⟩ := C
  refine PE.imp (pe_call F hr hg hm hk hb .nil pass0 ha hdb he hpl) ?_
  rintro σ H Q ⟨r, q⟩
  refine ⟨r, fun ds vs H1 x1 s1 h1 => ⟨ds, ?_, hp ds x1, fun d v H' x2 s' h' => q d v H' ⟨ds, x1, x2⟩ (s1.trans s') h'⟩⟩
  rw [List.append_nil]
  exact h1
theorem evr_call {k : Nat} {x : Str} {Pre : List D → Prop} {Post : List D → D → Prop} {p : Pos} (C : FnR X.prog X.w X.K X.mg X.base k x Pre Post) (hr : Room k X.A) (ha : EvA X (e :: es) ρ ds) (hp : Pre ds) (hg : Gl X x := by rfl) (hdb : (x == ("__debug__" : Str)) = false := by decide)
    (he : starEach (e :: es) X.env = (false, eval e X.env) :: starEach es X.env := by rfl) (hpl : (backTo pos (starEach es X.env)).any (·.1) = false := by rfl) : EvR X (.Call (.Name x p) (e :: es) [] pos) ρ (Post ds) :=
  (evr_callR C hr ha.r (fun _ z => z ▸ hp) hg hdb he hpl).imp fun d ⟨_, z, h⟩ => z ▸ h
end
section
variable {P : Program} {w : World} {K : PySem.W.Frag} {mg : Str → Option Value} {base : Heap}
theorem fnr_mk {x qual : Str} {st : Stmt} {f : Addr} {fd : FuncData} {N ps : List Str} {k : Nat} {Pre : List D → Prop} {Post : List D → D → Prop} (F : Fun K x qual st f fd) (S : FnScope N ps (defScope st)) (hm : mg x = some (.ref f)) (hb : Binds K fd ps [])
    (hl : ∀ ds, Pre ds → ds.length = ps.length ∧ ∀ d ∈ ds, ownA d = none)
    (hbody : ∀ (cdv : Value) (A : Around) (outer : List Env) (s : Shared) (H : Hp) (E : XK), Room k (A.deeper (envOfC qual (defScope st) s.heap.objs.size f cdv)) → ∀ ds, Pre ds →
      Do (cxD P w K mg base N qual st f cdv A outer s H E) (defBody st) (ini N ds) { nx := fun _ => Post ds .non, rt := Post ds }) : FnR P w K mg base (k + 1) x Pre Post := by
  refine ⟨f, fd, ps, F.ok S (fun vs H Q E h => ?_) (fun cdv A outer s H vs Q E hr h => ?_), hm, F.kp, hb⟩
  · obtain ⟨ds, h1, h2, _⟩ := h
    rw [h1.length]
    exact (hl ds h2).1
  · obtain ⟨ds, h1, h2, q⟩ := h
    refine ⟨_, hbody cdv A outer s H E hr ds h2, ?_⟩
    exact ⟨relS_start (X := cxD P w K mg base N qual st f cdv A outer s H E) h1 (hl ds h2).2, fun σ' H' ρ' _ r' z => q _ _ H' z r'.same .non, fun v H' d' sm hv _ z => q d' v H' z sm hv, fun _ _ _ _ _ z => z.elim, fun _ _ _ _ _ z => z.elim⟩
end
end FL
namespace FL
open PySem PySem.Spec PyProof.Rows L2
section
variable {X : Cx} {pins : List (Addr × Obj)} {σ : L2.St} {H : Hp} {s : Shared}
theorem Cm.cast {n : Nat} {d e f : D} (h : Cm n d f) (z : e = f) : Cm n d e := z ▸ h
open Classical in
noncomputable def ansU (K : PySem.W.Frag) (H : Hp) (ds : List D) (x : D) (u : Value) : Bool := decide (∃ v d, RelV v u ∧ Is K H v d ∧ d ∈ ds ∧ d = x)
open Classical in
theorem ansU_at (I : L2.Inv X pins σ H s) {n : Nat} {ds : List D} {x d : D} {v : V} {u : Value} (hc : ∀ d ∈ ds, Cm n d x) (hd : d ∈ ds) (h : Is X.K H v d) (r : RelV v u) : ansU X.K H ds x u = eqb d x := by
  rw [Bool.eq_iff_iff, eqb_iff]
  unfold ansU
  rw [decide_eq_true_iff]
  constructor
  · rintro ⟨v', d', r', h', hd', e⟩
    cases r.inj r'
    have c : Cm n d d' := (hc d hd).cast e
    rw [Is.inj I c h h', e]
  · intro e
    exact ⟨v, d, r, h, hd, e⟩
theorem ansU_any (I : L2.Inv X pins σ H s) {n : Nat} {x : D} {ds0 : List D} (hc : ∀ d ∈ ds0, Cm n d x) : ∀ {vs : List V} {us : List Value} {ds : List D}, (∀ d ∈ ds, d ∈ ds0) → IsAll X.K H vs ds → Vals vs us → us.any (ansU X.K H ds0 x) = ds.any (fun d => eqb d x)
  | _, _, _, _, .nil, .nil => rfl
  | _, _, _, hs, .cons h q, .cons r t => by
    rw [List.any_cons, List.any_cons, ansU_at I hc (hs _ List.mem_cons_self) h r, ansU_any I hc (fun d hd => hs d (List.mem_cons_of_mem _ hd)) q t]
theorem ansU_items (I : L2.Inv X pins σ H s) {A : Around} {n : Nat} {x : D} {vx : V} {ux : Value} {ds0 : List D} (hc : ∀ d ∈ ds0, Cm n d x) (hu : A.units + n < cLine) (hx : Is X.K H vx x) (rx : RelV vx ux) :
    ∀ {vs : List V} {us : List Value} {ds : List D}, (∀ d ∈ ds, d ∈ ds0) → IsAll X.K H vs ds → Vals vs us → ∀ y ∈ us, SeqAt.EqAt A s y ux (ansU X.K H ds0 x y)
  | _, _, _, _, .nil, .nil => fun y hy => by cases hy
  | _, _, _, hs, .cons h q, .cons r t => fun y hy => by
    rcases List.mem_cons.mp hy with rfl | hy
    · rw [ansU_at I hc (hs _ List.mem_cons_self) h r]
      exact eqAt_D I A (hc _ (hs _ List.mem_cons_self)) hu h hx r rx
    · exact ansU_items I hc hu hx rx (fun d hd => hs d (List.mem_cons_of_mem _ hd)) q t y hy
end
section
variable {X : Cx}
noncomputable def inD (x : D) (ds : List D) : Bool := ds.any fun d => eqb d x
theorem inD_iff {x : D} {ds : List D} : inD x ds = true ↔ x ∈ ds := by
  unfold inD
  rw [List.any_eq_true]
  constructor
  · rintro ⟨d, h1, h2⟩
    rw [eqb_iff] at h2
    exact h2 ▸ h1
  · intro h
    exact ⟨x, h, eqb_iff.mpr rfl⟩
def rInD (X : Cx) (neg : Bool) : R2 := fun x y H Q => ∃ n d e ds, Is X.K H x d ∧ Is X.K H y e ∧ (lsD e = some ds ∨ e = .tup ds) ∧ (∀ z ∈ ds, Cm n z d) ∧ X.A.units + n + 1 < cLine ∧ Q (.bl (if neg then !inD d ds else inD d ds)) H
theorem op_inD : OpR X (compareOp .In) (rInD X false) := by
  intro pins s σ H x y v u Q I rx ry h
  obtain ⟨n, d, e, ds, h1, h2, h3, hc, hu, q⟩ := h
  rcases h3 with h3 | rfl
  · obtain ⟨a, xs, rfl, t, r⟩ := h2.lsD_inv h3
    cases ry
    obtain ⟨us, w1, p1, _⟩ := I.list t
    refine SeqAt.in_listAt (ansU X.K H ds d) p1.isList (fun z hz => ansU_items I hc (by show X.A.units + 1 + n < cLine; omega) h1 rx (fun _ h => h) r w1 z (by simpa using hz)) ?_
    have e' : us.toArray.any (ansU X.K H ds d) = inD d ds := by rw [List.any_toArray]; exact ansU_any I hc (fun _ h => h) r w1
    rw [e']
    exact ⟨.bl _, H, I, rfl, q⟩
  · obtain ⟨a, xs, rfl, t, r⟩ := h2.tup_inv
    cases ry
    obtain ⟨us, w1, p1, _⟩ := I.tuple t
    refine SeqAt.in_tupleAt (ansU X.K H ds d) p1 (fun z hz => ansU_items I hc (by show X.A.units + 1 + n < cLine; omega) h1 rx (fun _ h => h) r w1 z (by simpa using hz)) ?_
    have e' : us.toArray.any (ansU X.K H ds d) = inD d ds := by rw [List.any_toArray]; exact ansU_any I hc (fun _ h => h) r w1
    rw [e']
    exact ⟨.bl _, H, I, rfl, q⟩
variable {e a b c : Expr} {es : List Expr} {ρ : Ro} {d f : D} {ds fs : List D} {pos : Pos} {i j : Int} {k k' : Bool}
theorem rInD_of {n m : Nat} {neg : Bool} {x : D} (hr : Room m X.A) (hf : lsD f = some ds ∨ f = .tup ds) (hc : ∀ z ∈ ds, Cm n z x) (hn : n ≤ 60) (hk : d = .bl (if neg then !inD x ds else inD x ds)) :
    ∀ v1 v2 H Q, Is X.K H v1 x → Is X.K H v2 f → (∀ v H', Same H H' → Is X.K H' v d → Q v H') → rInD X neg v1 v2 H Q :=
  fun _ _ H _ h1 h2 q => ⟨n, x, f, ds, h1, h2, hf, hc, (by have := hr.units; omega), q _ H (Same.refl H) (hk ▸ .bl _)⟩
theorem ev_in {n m : Nat} (hr : Room m X.A) (ha : Ev X a ρ d) (hb : Ev X b ρ f) (hf : lsD f = some ds ∨ f = .tup ds) (hc : ∀ z ∈ ds, Cm n z d) (hn : n ≤ 60 := by decide) (hm : behindInMarks .In b = false := by rfl) : Ev X (.Compare a [.In] [b] pos) ρ (.bl (inD d ds)) :=
  ev_cmp op_inD ha hb hm (rInD_of hr hf hc hn rfl)
def rEqL (X : Cx) (neg : Bool) : R2 := fun x y H Q => ∃ n d e ds es, Is X.K H x d ∧ Is X.K H y e ∧ lsD d = some ds ∧ lsD e = some es ∧ Cms n ds es ∧ X.A.units + n + 1 < cLine ∧ Q (.bl (if neg then !eqb (.tup ds) (.tup es) else eqb (.tup ds) (.tup es))) H
theorem op_eqL : OpR X (compareOp .Eq) (rEqL X false) := by
  intro pins s σ H x y v u Q I rx ry h
  obtain ⟨n, d, e, ds, es, h1, h2, l1, l2, c, hu, q⟩ := h
  obtain ⟨a, xs, rfl, t1, q1⟩ := h1.lsD_inv l1
  obtain ⟨b, ys, rfl, t2, q2⟩ := h2.lsD_inv l2
  cases rx
  cases ry
  obtain ⟨us, w1, p1, _⟩ := I.list t1
  obtain ⟨ws, w2, p2, _⟩ := I.list t2
  have e1 : us.length = ds.length := by rw [← w1.length, q1.length]
  have e2 : ws.length = es.length := by rw [← w2.length, q2.length]
  by_cases hz : ds.length = es.length
  · refine SeqAt.eq_listAt p1.isList p2.isList (by simp; omega) (by omega) (fEq_items q1 q2 w1 w2 fun j d e v1 v2 u1 u2 d1 d2 i1 i2 k1 k2 => eqAt_D I X.A.in1 (c.get j _ _ d1 d2) (by show X.A.units + 1 + n < cLine; omega) i1 i2 k1 k2) ?_
    have ek : (List.range us.toArray.size).all (fEq ds es) = eqb (.tup ds) (.tup es) := by
      rw [fEq_all (n := us.length) (m := ws.length) e1 e2, List.size_toArray, show min us.length ws.length = us.length by omega, show (us.length == ws.length) = true by simp; omega, Bool.and_true]
    rw [ek]
    exact ⟨.bl _, H, I, rfl, q⟩
  · refine SeqAt.eq_list_lengthsAt p1.isList p2.isList (by simp; omega) (by omega) ?_
    have ek : eqb (.tup ds) (.tup es) = false := eqb_of (by
      constructor
      · intro z; cases z
      · intro z; cases z; exact absurd rfl hz)
    rw [ek] at q
    exact ⟨.bl _, H, I, rfl, q⟩
theorem op_neL : OpR X (compareOp .NotEq) (rEqL X true) := by
  intro pins s σ H x y v u Q I rx ry h
  obtain ⟨n, d, e, ds, es, h1, h2, l1, l2, c, hu, q⟩ := h
  obtain ⟨a, xs, rfl, t1, q1⟩ := h1.lsD_inv l1
  obtain ⟨b, ys, rfl, t2, q2⟩ := h2.lsD_inv l2
  cases rx
  cases ry
  obtain ⟨us, w1, p1, _⟩ := I.list t1
  obtain ⟨ws, w2, p2, _⟩ := I.list t2
  have e1 : us.length = ds.length := by rw [← w1.length, q1.length]
  have e2 : ws.length = es.length := by rw [← w2.length, q2.length]
  by_cases hz : ds.length = es.length
  · refine SeqAt.RcNeAt.lists p1.isList p2.isList (by simp; omega) (by omega) (fEq_items q1 q2 w1 w2 fun j d e v1 v2 u1 u2 d1 d2 i1 i2 k1 k2 => eqAt_D I X.A.in1 (c.get j _ _ d1 d2) (by show X.A.units + 1 + n < cLine; omega) i1 i2 k1 k2) _ _ _ _ ?_
    have ek : (List.range us.toArray.size).all (fEq ds es) = eqb (.tup ds) (.tup es) := by
      rw [fEq_all (n := us.length) (m := ws.length) e1 e2, List.size_toArray, show min us.length ws.length = us.length by omega, show (us.length == ws.length) = true by simp; omega, Bool.and_true]
    rw [ek]
    exact ⟨.bl _, H, I, rfl, q⟩
  · refine SeqAt.RcNeAt.lists_lengths p1.isList p2.isList (by simp; omega) (by omega) _ _ _ _ ?_
    have ek : eqb (.tup ds) (.tup es) = false := eqb_of (by
      constructor
      · intro z; cases z
      · intro z; cases z; exact absurd rfl hz)
    rw [ek] at q
    exact ⟨.bl _, H, I, rfl, q⟩
theorem rEqL_of {n m : Nat} {neg : Bool} {g : D} (hr : Room m X.A) (l1 : lsD f = some ds) (l2 : lsD g = some fs) (c : Cms n ds fs) (hn : n ≤ 60) (hk : d = .bl (if neg then !eqb (.tup ds) (.tup fs) else eqb (.tup ds) (.tup fs))) :
    ∀ v1 v2 H Q, Is X.K H v1 f → Is X.K H v2 g → (∀ v H', Same H H' → Is X.K H' v d → Q v H') → rEqL X neg v1 v2 H Q :=
  fun _ _ H _ h1 h2 q => ⟨n, f, g, ds, fs, h1, h2, l1, l2, c, (by have := hr.units; omega), q _ H (Same.refl H) (hk ▸ .bl _)⟩
theorem et_neL {n m : Nat} {g : D} (hr : Room m X.A) (ha : Ev X a ρ f) (hb : Ev X b ρ g) (l1 : lsD f = some ds) (l2 : lsD g = some fs) (c : Cms n ds fs) (hn : n ≤ 60 := by decide) : Et X (.Compare a [.NotEq] [b] pos) ρ (!eqb (.tup ds) (.tup fs)) :=
  et_cmp op_neL ha hb (nomark _) (rEqL_of hr l1 l2 c hn rfl)
theorem ev_eqL {n m : Nat} {g : D} (hr : Room m X.A) (ha : Ev X a ρ f) (hb : Ev X b ρ g) (l1 : lsD f = some ds) (l2 : lsD g = some fs) (c : Cms n ds fs) (hn : n ≤ 60 := by decide) : Ev X (.Compare a [.Eq] [b] pos) ρ (.bl (eqb (.tup ds) (.tup fs))) :=
  ev_cmp op_eqL ha hb (nomark _) (rEqL_of hr l1 l2 c hn rfl)
end
end FL
namespace FT
open PySem PySem.W PyProof.Rows
section
variable {r : Nat → Int} {n : Nat} {p p' : Array Nat}
end
end FT
namespace FT
open PySem PySem.W PySem.Calls PyProof.Rows
section
variable {prog : Program} {w : World} {A : Around} {E : Value → Shared → Prop} {s : Shared} {vs : List Value} {r : Nat → Int} {κ : SortKind}
end
end FT
namespace FT
open PySem PySem.W PySem.Spec PySem.Calls PyProof.Rows L2 FL
section
variable {prog : Program} {w : World} {A : Around} {s : Shared}
end
end FT
namespace FT
open PySem PySem.W PySem.Spec PySem.Calls PyProof.Rows L2 FL
section
variable {X : Cx} {pins : List (Addr × Obj)} {σ : L2.St} {H : Hp} {s : Shared}
variable {e : Expr} {ρ : Ro} {d : D} {pos p : Pos} {ts : List (List Int)} {k : Nat}
end
end FT
namespace FU
open PySem PyProof.Rows HT
section
open PySem.SeqAt
open PySem.AutoSeq1 (wpAny_loadPart')
open PySem.MeetsSeq PySem.MeetsSeq2 PySem.MeetsSeq3
end
section
variable {prog : Program} {w : World} {A : Around} {E : Value → Shared → Prop} {s : Shared}
end
end FU
namespace FU
open PySem PySem.Spec PyProof.Rows L2 FL
section
variable {X : Cx} {a b : Expr} {ρ : Ro} {pos : Pos} {ns ms : List Int} {m : Nat}
end
end FU
namespace FL
open PySem PySem.Spec PyProof.Rows L2
def Con (K : PySem.W.Frag) (mg : Str → Option Value) (x : Str) (d : D) : Prop := ∃ v u, mg x = some u ∧ RelV v u ∧ ∀ H, Is K H v d
theorem con_int {K : PySem.W.Frag} {mg : Str → Option Value} {x : Str} {i : Int} {t : Tok} (h : mg x = some (.int i t)) : Con K mg x (.int i) := ⟨.int i, _, h, ⟨t, rfl⟩, fun _ => .int i⟩
inductive IntsOf : List Value → List Int → Prop
  | nil : IntsOf [] []
  | cons {i : Int} {t : Tok} {us : List Value} {ns : List Int} (h : IntsOf us ns) : IntsOf (.int i t :: us) (i :: ns)
theorem IntsOf.vals : ∀ {us : List Value} {ns : List Int}, IntsOf us ns → Vals (ns.map V.int) us
  | _, _, .nil => .nil
  | _, _, .cons h => .cons ⟨_, rfl⟩ h.vals
theorem con_tup {K : PySem.W.Frag} {mg : Str → Option Value} {x : Str} {a : Addr} {od : Option Addr} {its : Array Value} {n : Nat} {sl : Array (Option Value)} {ns : List Int} (h : mg x = some (.ref a)) (hl : K.lookup a = some ⟨.type "tuple", od, .seq its n, sl⟩) (hi : IntsOf its.toList ns) (hn : its.size ≤ 1000 := by decide) : Con K mg x (.kt (ns.map D.int)) :=
  ⟨.ref a, _, h, rfl, fun _ => .kt (.inr ⟨_, its, n, hl, rfl, rfl, Nat.le_of_lt (small1000 hn), hi.vals⟩) (IsAll.ints ns)⟩
section
variable {X : Cx} {e a b c f : Expr} {es : List Expr} {ρ : Ro} {d : D} {ds gs : List D} {pos : Pos} {i j k l : Int} {rest : List Stmt} {P : Po}
theorem ev_con {x : Str} (C : Con X.K X.mg x d) (hg : Gl X x := by rfl) (hd : (x == ("__debug__" : Str)) = false := by decide) : Ev X (.Name x pos) ρ d := by
  obtain ⟨v, u, hm, r, h⟩ := C
  exact PE.imp (pe_glob hg hm r hd) fun _ H _ ⟨_, q⟩ => q _ H (Same.refl H) (h H)
theorem ev_ktOf (h : Ev X e ρ (.tup ds)) : Ev X e ρ (.kt ds) := PE.imp h fun σ H Q ⟨r, q⟩ => ⟨r, fun v H' s h1 => by
  obtain ⟨a, xs, rfl, h3, h4⟩ := h1.tup_inv
  exact q _ H' s (.kt h3 h4)⟩
theorem ev_ixK (ha : Ev X a ρ (.kt ds)) (hb : Ev X b ρ (.int i)) (hi : atI ds i = some d) (hs : PlainIx b := by exact fun _ _ => rfl) : Ev X (.Subscript a b pos) ρ d :=
  PE.imp (pe_ix ix_tup ha hb hs) fun σ H Q ⟨r, q⟩ => ⟨r, fun v1 H1 s1 h1 => ⟨r.mono s1, fun v2 H2 s2 h2 => by
    obtain ⟨p, xs, rfl, h3, h4⟩ := (h1.mono s2).kt_inv
    obtain ⟨v, e, h5⟩ := atI_map h4 hi
    exact ⟨p, xs, i, v, rfl, h2.int_inv, h3, e, q v H2 (s1.trans s2) h5⟩⟩⟩
end
theorem hcl_of {cl cells : List (Str × Addr)} (h : ∀ p ∈ cl, cells.lookup p.1 = some p.2) : ∀ y c, cl.lookup y = some c → cells.lookup y = some c := fun y c e => h (y, c) (PySem.mem_of_lookup e)
theorem has_of {scope : Scope} {env : Env} {cl : List (Str × Addr)} (h1 : ∀ p ∈ scope.names, p.2 ≠ .cell) (h2 : ∀ p ∈ scope.names, p.2 = .free → ∃ c, cl.lookup p.1 = some c) :
    ∀ y, (relabel scope env).names.lookup y = some .cell ∨ (relabel scope env).names.lookup y = some .free → ∃ c, cl.lookup y = some c := by
  have key : ∀ p ∈ (relabel scope env).names, (p.2 = .cell ∨ p.2 = .free) → ∃ c, cl.lookup p.1 = some c := by
    intro p hp hk'
    obtain ⟨⟨n, k⟩, hm, e⟩ := List.mem_map.mp (show p ∈ scope.names.map _ from hp)
    have hk := h1 _ hm
    by_cases hf : k = .free
    · have h3 := h2 _ hm hf
      have e1 : p.1 = n := by
        rw [← e]
        dsimp only
        split <;> rfl
      rw [e1]
      exact h3
    · have hf' : (k == NameKind.free) = false := by simpa using hf
      simp only [hf', Bool.false_and, Bool.false_eq_true, if_false] at e
      subst e
      rcases hk' with z | z
      · exact absurd z hk
      · exact absurd z hf
  intro y z
  rcases z with z | z
  · exact key _ (PySem.mem_of_lookup z) (.inl rfl)
  · exact key _ (PySem.mem_of_lookup z) (.inr rfl)
end FL
namespace FL
open PySem PySem.Spec PyProof.Rows L2
section
variable {X : Cx} {e a b c f : Expr} {es : List Expr} {ρ : Ro} {d d' : D} {ds gs : List D} {pos : Pos} {i j k l : Int} {rest : List Stmt} {P : Po}
def CDivN (_ j : Int) : Prop := j ≠ 0 ∧ Builtin.Int.intBits j ≤ 9000
theorem op_fdivN : OpR X (binaryOp .FloorDiv) (rI CDivN fun i j => .int (i.fdiv j)) := opI fun i j _ _ _ _ _ hc q => by
  have h1 : j ≠ 0 := hc.1
  refine floordiv_int h1 q (.inl (PyProof.noPylong_of_log2 ?_))
  have h2 := intBits_le_iff.mp hc.2
  exact (Nat.log2_lt (by omega)).mpr h2
theorem ev_divN {m : Nat} (ha : Ev X a ρ (.int i)) (hb : Ev X b ρ (.int j)) (h : j ≠ 0) (hj : Bd j m) (hm : m ≤ 9000 := by decide) : Ev X (.BinOp a .FloorDiv b pos) ρ (.int (i.fdiv j)) :=
  ev_op op_fdivN ha hb (rI_of ⟨h, Nat.le_trans hj.lt hm⟩ fun _ => .int _)
theorem ev_tupleOf {p : Pos} (hm : X.mg "tuple" = none) (ha : Ev X a ρ d') (hl : lsD d' = some ds) (hg : Gl X "tuple" := by rfl) (he : starEach [a] X.env = [(false, eval a X.env)] := by rfl) : Ev X (.Call (.Name "tuple" p) [a] [] pos) ρ (.tup ds) :=
  PE.imp (pe_callTy call_tuple_of hg hm bo_tuple (ea_cons ha ea_nil he) (by decide) (by decide) he rfl) fun σ H Q ⟨r, q⟩ => ⟨r, fun vs H1 s1 h1 => by
    obtain ⟨v, rfl, h⟩ := one_inv h1
    obtain ⟨a, xs, rfl, h3, h4⟩ := h.lsD_inv hl
    exact ⟨a, xs, rfl, .inl ⟨h3, fun l hl => q _ _ (s1.trans (same_new hl)) (.tup upd_same (h4.mono (same_new hl)))⟩⟩⟩
theorem map_at {α β : Type} {g h : α → β} : ∀ {xs : List α}, xs.map g = xs.map h → ∀ x ∈ xs, g x = h x
  | [], _, x, hx => by cases hx
  | y :: ys, e, x, hx => by
    simp only [List.map_cons, List.cons.injEq] at e
    rcases List.mem_cons.mp hx with rfl | hx
    · exact e.1
    · exact map_at e.2 x hx
theorem evn_compC {elt iter : Expr} {x : Str} {px : Pos} {ifs : List Expr} {scope : Scope} (cl : List (Str × Addr)) (ys : List Str) (js : List Nat) (p : D → Bool) (f : D → D)
    (hi : Src X (.Name x px) iter ρ ds) (hz : ds.length ≤ 1000000) (hfz : ∀ d ∈ ds, p d = true → Fz (f d))
    (ht : ∀ C s₀ H₀ fp, ∀ d ∈ ds, Ets (blk X scope cl (x :: ys) C s₀ H₀ fp) ifs (some d :: freesD js ρ) (p d))
    (he : ∀ C s₀ H₀ fp, ∀ d ∈ ds, p d = true → Ev (blk X scope cl (x :: ys) C s₀ H₀ fp) elt (some d :: freesD js ρ) (f d))
    (hc : X.calm = true := by rfl) (hclos : closureFor scope X.env = pure cl := by rfl) (hcell : scope.names.all (fun y => !(y.2 == .cell)) = true := by rfl) (hkind : scope.kind = .function := by rfl)
    (hnames : scope.names.all (fun y => !(y.2 == .local) || (scope.names.lookup y.1 == some .local)) = true := by rfl) (hx : scope.names.lookup x = some .local := by rfl) (hnd : (x :: ys).Nodup := by decide)
    (hcl : cl.map (fun p => X.env.cells.lookup p.1) = cl.map (fun p => some p.2) := by rfl) (hhas : scope.names.all (fun y => !(y.2 == .free) || (cl.lookup y.1).isSome) = true := by rfl)
    (hjs : js.length = ys.length := by rfl) (hN : js.map (fun j => X.N[j]?) = ys.map some := by rfl) (hK : ys.map (fun y => X.env.scope.names.lookup y) = ys.map (fun _ => some .cell) := by rfl) (hR : ys.map (fun y => (relabel scope X.env).names.lookup y) = ys.map (fun _ => some .cell) := by rfl)
    (hs : ∀ x, foldedSetIterable iter X.env x = pure x := by intro _; rfl) : EvN X (.ListComp elt [⟨.Name x px, iter, ifs, 0⟩] scope pos) ρ ((ds.filter p).map f) := by
  have hcell' : ∀ y ∈ scope.names, y.2 ≠ .cell := fun y hy z => by
    have := List.all_eq_true.mp hcell y hy
    rw [z] at this
    cases this
  refine evn_comp (cl := cl) (ys := ys) (js := js) p f hc hi hz hfz ht he hclos hcell' hkind (fun y hy z => ?_) hx hnd (hcl_of fun q hq => map_at hcl q hq) (has_of hcell' fun q hq z => ?_) hjs (fun i j y hj hy => ?_) hs
  · have := List.all_eq_true.mp hnames y hy
    rw [z] at this
    simpa using this
  · have := List.all_eq_true.mp hhas q hq
    rw [z] at this
    have h2 : (cl.lookup q.1).isSome = true := by simpa using this
    exact Option.isSome_iff_exists.mp h2
  · have my : y ∈ ys := List.mem_of_getElem? hy
    have e1 : X.N[j]? = some y := by
      have : (js.map (fun j => X.N[j]?))[i]? = (ys.map some)[i]? := by rw [hN]
      rw [List.getElem?_map, List.getElem?_map, hj, hy] at this
      simpa using this
    have e2 := map_at hK y my
    have e3 := map_at hR y my
    exact ⟨e1, .inr (.inl e2), .inl e2, .inl e3⟩
theorem evn_map0 {elt iter : Expr} {x : Str} {px : Pos} {scope : Scope} (f : D → D) (hi : Src X (.Name x px) iter ρ ds) (hz : ds.length ≤ 1000000) (hfz : ∀ d ∈ ds, Fz (f d))
    (he : ∀ C s₀ H₀ fp, ∀ d ∈ ds, Ev (blk X scope [] [x] C s₀ H₀ fp) elt [some d] (f d))
    (hc : X.calm = true := by rfl) (hclos : closureFor scope X.env = pure [] := by rfl) (hcell : scope.names.all (fun y => !(y.2 == .cell)) = true := by rfl) (hkind : scope.kind = .function := by rfl)
    (hnames : scope.names.all (fun y => !(y.2 == .local) || (scope.names.lookup y.1 == some .local)) = true := by rfl) (hx : scope.names.lookup x = some .local := by rfl) (hhas : scope.names.all (fun y => !(y.2 == .free)) = true := by rfl)
    (hs : ∀ x, foldedSetIterable iter X.env x = pure x := by intro _; rfl) : EvN X (.ListComp elt [⟨.Name x px, iter, [], 0⟩] scope pos) ρ (ds.map f) := by
  have h := evn_compC (X := X) (ρ := ρ) (pos := pos) (ds := ds) (elt := elt) (iter := iter) (x := x) (px := px) (ifs := []) (scope := scope) [] [] [] (fun _ => true) f hi hz (fun d hd _ => hfz d hd) (fun _ _ _ _ _ _ => ets_nil) (fun C s₀ H₀ fp d hd _ => he C s₀ H₀ fp d hd) hc hclos hcell hkind hnames hx (by simp) rfl (by
    rw [List.all_eq_true]
    intro y hy
    rw [List.all_eq_true.mp hhas y hy]
    rfl) rfl rfl rfl rfl hs
  rwa [List.filter_eq_self.mpr (fun _ _ => rfl)] at h
end
end FL
namespace FL
open PySem PySem.Spec PyProof.Rows L2
section
variable {P : Program} {w : World} {K : PySem.W.Frag} {mg : Str → Option Value} {base : Heap} {k : Nat} {x : Str}
end
end FL
namespace FL
open PySem PySem.Spec PyProof.Rows L2
theorem comp_core {X : Cx} {elt iter : Expr} {x : Str} {px : Pos} {ifs : List Expr} {scope : Scope} {cl : List (Str × Addr)} {pos : Pos} {ys : List Str} {js : List Nat} {wi : TI} {tt : Cx → TT} {te : Cx → TE}
    (hc : X.calm = true) (hi : PI X (.Name x px) iter wi)
    (ht : ∀ C s₀ H₀ fp, PTs (blk X scope cl (x :: ys) C s₀ H₀ fp) ifs (tt (blk X scope cl (x :: ys) C s₀ H₀ fp)))
    (he : ∀ C s₀ H₀ fp, PE (blk X scope cl (x :: ys) C s₀ H₀ fp) elt (te (blk X scope cl (x :: ys) C s₀ H₀ fp)))
    (hclos : closureFor scope X.env = pure cl) (hcell : ∀ y ∈ scope.names, y.2 ≠ .cell) (hkind : scope.kind = .function)
    (hnames : ∀ y ∈ scope.names, y.2 = .local → scope.names.lookup y.1 = some .local) (hx : scope.names.lookup x = some .local) (hnd : (x :: ys).Nodup)
    (hcl : ∀ y c, cl.lookup y = some c → X.env.cells.lookup y = some c)
    (hhas : ∀ y, (relabel scope X.env).names.lookup y = some .cell ∨ (relabel scope X.env).names.lookup y = some .free → ∃ c, cl.lookup y = some c)
    (hjs : js.length = ys.length) (hjy : ∀ (i j : Nat) (y : Str), js[i]? = some j → ys[i]? = some y → X.N[j]? = some y ∧ Vis X.env.scope y ∧ (X.env.kindOf y = some .cell ∨ X.env.kindOf y = some .free) ∧ ((relabel scope X.env).names.lookup y = some .cell ∨ (relabel scope X.env).names.lookup y = some .free))
    (hs : ∀ x, foldedSetIterable iter X.env x = pure x)
    {use : Option (Value → Sem Unit)} {R : Value → Shared → Prop} {pins : List (Addr × Obj)} {s : Shared} {σ : L2.St} {H : Hp} {Q : VK} {pos2 : Pos} (I : Inv X pins σ H s) (h : tComp X js wi tt te σ H Q)
    (hend : ∀ D C s5 H4, Q (.ref D) H4 → H4 C = none → (∃ m, s5.heap.Ns C m) → (∀ h6, Heap.SameBut C s5.heap h6 → Inv X pins σ H4 { s5 with heap := h6 }) →
      (X.s₀.heap.objs.size ≤ C ∧ C ≠ X.env.locals ∧ (∀ x c, X.env.cells.lookup x = some c → c ≠ C) ∧ ∀ p ∈ X.pn ++ pins, p.1 ≠ C) → compPost (model X.prog X.w) X.A X.xe use R (.ref D) C (.ok .next) s5) :
    wpAny (model X.prog X.w) X.A (comprehension (.ListComp elt [⟨.Name x px, iter, ifs, 0⟩] scope pos) scope X.env pos2 (newList []) false (eval iter X.env) use) R X.xe s := by
  refine wpAny_comprehension_free (use := use) rfl hs hclos hkind hnames (thn (hi pins s σ H _ I h) fun v s1 h1 => thn h1 fun itv s2 h2 => ?_)
  obtain ⟨it, fp, tn, J, H2, e, I2, T, st2, f2, h2⟩ := h2
  subst e
  refine wpAny_newObj_type (wpAny_newFunctionEnv hcell (by intro y hy; simp at hy) (fun h₁ hns₁ hsb₁ => ?_) hkind)
  dsimp only at hns₁ hsb₁ ⊢
  -- the list
  have hD : H2 s2.heap.objs.size = none := I2.hok.fresh (Nat.le_refl _)
  generalize eD : s2.heap.objs.size = D at hD hns₁ hsb₁ ⊢
  generalize eH : s2.heap.push { cls := .type "list", dict := none, data := .seq ([] : List Value).toArray } = P3 at hns₁ hsb₁ ⊢
  have k23 : ∀ b o, s2.heap.get? b = some o → P3.get? b = some o := fun b o q => by rw [← eH]; exact Heap.get?_push_of_some _ q
  have hDo : P3.get? D = some { cls := .type "list", dict := none, data := .seq ([] : List Value).toArray } := by rw [← eH, ← eD]; exact Heap.get?_push_size _ rfl
  have I3 : Inv X pins σ (upd H2 D (.lst [])) { s2 with heap := P3, toks := s2.toks } := I2.laid (t' := s2.toks) k23 (Nat.le_of_eq eD) ⟨Nat.zero_le _, [], 0, .nil, hDo⟩
  have hCs : P3.objs.size = D + 1 := by rw [← eH, Heap.size_push, eD]
  generalize eC : P3.objs.size = C at hns₁ hsb₁ hCs ⊢
  have k34 : ∀ b o, P3.get? b = some o → h₁.get? b = some o := fun b o q => hsb₁.extBut b o (by rw [← eC]; exact Nat.ne_of_lt (Heap.lt_size q)) (Heap.get?_push_of_some _ q)
  have fpD : ∀ b ∈ fp, b < D := fun b hb => by
    obtain ⟨o, q, _⟩ := T.obj 0 _ st2 b hb
    rw [← eD]
    exact Heap.lt_size q
  have hC0 : upd H2 D (.lst []) C = none := I3.hok.fresh (by show P3.objs.size ≤ C; rw [eC]; exact Nat.le_refl _)
  -- the block's context
  have okY : (blk X scope cl (x :: ys) C { s2 with heap := P3, toks := s2.toks } (upd H2 D (.lst [])) fp).Ok := by
    refine ⟨I3.ok.mod, hkind, I3.ok.glob, I3.ok.blt, by show P3.objs.size ≤ C; rw [eC]; exact Nat.le_refl _, fun y z c h1 h2 => I3.ok.inj y z c (hcl y c h1) (hcl z c h2), fun y hy => hhas y hy, fun y c hf _ => (by cases hf),
      I3.ok.hd, I3.ok.frames, .inl rfl, fun b hb => ⟨(by show b ≠ C; rw [hCs]; exact Nat.ne_of_lt (Nat.lt_succ_of_lt (fpD b hb))), fun y c hy => (f2 b hb).2.2.2.2.1 y c (hcl y c hy)⟩, fun b o q => ?_, ?_, fun b o q hb => ?_, fun b hb z => ?_, I3.stack, I3.stkFree⟩
    · exact I3.bs b o q
    · exact Nat.le_trans I3.ok.bsz I3.sz
    · rcases (f2 b hb).2.2.2.1 with z | z
      · exact I3.ok.noex b o q z
      · exact absurd (Nat.lt_of_lt_of_le (Heap.lt_size (I3.ok.bs b o q).1) z) (Nat.lt_irrefl _)
    · rcases List.mem_cons.mp (I3.stkSub b z) with z | z
      · exact (f2 b hb).2.1 z
      · exact (f2 b hb).2.2.1 z
  generalize eY : blk X scope cl (x :: ys) C { s2 with heap := P3, toks := s2.toks } (upd H2 D (.lst [])) fp = Y at okY
  have IY : Inv Y [] (none :: frees js σ) (upd H2 D (.lst [])) { s2 with heap := h₁, toks := s2.toks + ([] : List (Str × Value)).length } := by
    subst eY
    refine ⟨okY, I3.os.trans I3.os.symm |>.trans rfl, I3.bare, Un.kept k34, ⟨_, hns₁, fun i y v h1 h2 h3 => ?_⟩, fun y c hy => ?_, hC0, fun y c hy => I3.freeC y c (hcl y c hy), fun p hp => absurd (show p ∈ ([] : List (Addr × Obj)) from hp) (by simp), I3.hok.kept k34, ?_⟩
    · cases i with
      | zero => cases h2
      | succ i =>
        have h1' : ys[i]? = some y := h1
        have h2' : (frees js σ)[i]? = some (some v) := h2
        unfold frees at h2'
        rw [List.getElem?_map] at h2'
        cases q : js[i]? with
        | none => rw [q] at h2'; cases h2'
        | some j =>
          rw [q] at h2'
          have h4 : (σ[j]?).join = some v := Option.some.inj h2'
          have h5 : σ[j]? = some (some v) := by
            cases z : σ[j]? with
            | none => rw [z] at h4; cases h4
            | some o => rw [z] at h4; have h4' : o = some v := h4; rw [h4']
          obtain ⟨n1, n2, n3, n4⟩ := hjy i j y q h1'
          obtain ⟨m, _, hl⟩ := I3.loc
          obtain ⟨u, ru, lk⟩ := hl j y v n1 h5 n2
          refine ⟨u, ru, .inr ⟨n4, ?_⟩⟩
          obtain ⟨c, hc'⟩ := hhas y n4
          rcases lk with ⟨z, _⟩ | ⟨_, c', e1, e2⟩
          · rcases n3 with n3 | n3 <;> (rw [n3] at z; cases z)
          · have : c' = c := Option.some.inj (e1.symm.trans (hcl y c hc'))
            subst this
            obtain ⟨o, ho, hod⟩ := e2
            exact ⟨c', hc', o, k34 _ _ ho, hod⟩
    · obtain ⟨v, o, ho, hod⟩ := I3.cell y c (hcl y c hy)
      exact ⟨v, o, k34 _ _ ho, hod⟩
    · show (frees js σ).length + 1 = (x :: ys).length
      unfold frees
      simp [hjs]
  have eYA : Y.A = X.A := by rw [← eY]; rfl
  have eYp : Y.prog = X.prog := by rw [← eY]; rfl
  have eYw : Y.w = X.w := by rw [← eY]; rfl
  have eYK : Y.K = X.K := by rw [← eY]; rfl
  have eYe : Y.env = compEnvC scope cl C X.env := by rw [← eY]; rfl
  have eYH : Y.H₀ = upd H2 D (.lst []) := by rw [← eY]; rfl
  have eYc : Y.calm = true := by rw [← eY]; exact hc
  have eYx : Y.xe = fun _ _ => False := by rw [← eY]; rfl
  have eYex : Y.ex = fp := by rw [← eY]; rfl
  have eYfs : Y.fs = frs X.stack := by rw [← eY]; rfl
  have eYs : Y.s₀ = { s2 with heap := P3, toks := s2.toks } := by rw [← eY]; rfl
  have eYl : Y.env.locals = C := by rw [eYe]; rfl
  have ht' : PTs Y ifs (tt Y) := by rw [← eY]; exact ht C _ _ fp
  have he' : PE Y elt (te Y) := by rw [← eY]; exact he C _ _ fp
  have hg' : PG Y (.Name x px) (gName 0) := by
    rw [← eY]
    exact pg_name hnd rfl (.inl (lookup_relabel_local hx)) (.inr (lookup_relabel_local hx))
  have T' : Turn Y.prog Y.w Y.K (.Name x px) J fp it tn := by rw [eYp, eYw, eYK]; exact T
  obtain ⟨W, ⟨m0, w0⟩, turn⟩ := h2 D hD Y eYH eYK
  have stat : ∀ {H' : Hp}, (∀ b ∈ fp, H' b = none) → ∀ b ∈ fp, FpOk Y [] H' b := fun {H'} hn b hb => by
    obtain ⟨_, g1, g2, g3, g4, g5⟩ := f2 b hb
    refine ⟨hn b hb, (by rw [eYl, hCs]; exact Nat.ne_of_lt (Nat.lt_succ_of_lt (fpD b hb))), fun z => ?_, .inl (by rw [eYex]; exact hb), fun y c hy => ?_, fun p hp => ?_⟩
    · rw [eYfs] at z
      rcases List.mem_cons.mp (I3.stkSub b z) with z | z
      · exact g1 z
      · exact g2 z
    · rw [eYe] at hy
      exact g4 y c (hcl y c hy)
    · have e0 : Y.pn = [] := by rw [← eY]; rfl
      rw [e0] at hp
      exact absurd (show p ∈ ([] : List (Addr × Obj)) from hp) (by simp)
  -- the loop
  have loop : ∀ s₃ : Shared, s₃ = { s2 with heap := h₁, toks := s2.toks + ([] : List (Str × Value)).length } →
      codeAny (model X.prog X.w) X.A (.compLoop (.ListComp elt [⟨.Name x px, iter, ifs, 0⟩] scope pos) 0 (.ref it) (.ref D) (compEnvC scope cl C X.env))
        (compPost (model X.prog X.w) X.A X.xe use R (.ref D) C) s₃ := by
    rintro s₃ rfl
    rw [← eYe, ← eYA, ← eYp, ← eYw]
    refine compLoop_any (fun n s' => ∃ i z H' zs, Inv Y [] (z :: frees js σ) H' s' ∧ tn i s'.heap ∧ (∀ b ∈ fp, H' b = none) ∧ H' D = some (.lst zs) ∧ W i n zs H') ?_ m0
      ⟨0, none, _, [], IY, T.keep 0 _ _ st2 (fun b _ o q => k34 b o (k23 b o q)), fun b hb => ?_, upd_same, w0⟩
    · rintro n s4 ⟨i, z, H4, zs, I4, st4, fr4, hz4, w4⟩
      rcases turn i n zs H4 hz4 w4 with ⟨stop, qn⟩ | ⟨go, step⟩
      · refine thn (T'.done Y rfl rfl rfl eYc i [] s4 _ H4 _ I4 (stat fr4) st4 stop) fun r s5 ⟨hr, I5⟩ => ?_
        subst hr
        obtain ⟨m, hm, _⟩ := id I5.loc
        rw [eYl] at hm
        have hC5 : H4 C = none := by rw [← eYl]; exact I5.free
        have hC3 : P3.objs.size = C := eC
        show compPost (model Y.prog Y.w) Y.A X.xe use R (.ref D) C (.ok .next) s5
        rw [eYp, eYw, eYA]
        refine hend D C s5 H4 qn hC5 ⟨m, hm⟩ (fun h6 sb => ?_) ⟨?_, ?_, ?_, ?_⟩
        · have un5 := I5.base
          rw [eYfs, eYex, eYH, eYs] at un5
          have un6 : Un (frs X.stack) fp (upd H2 D (.lst [])) H4 P3 h6 := by
            have nC : ∀ b o, P3.get? b = some o → b ≠ C := fun b o q => by rw [← eC]; exact Nat.ne_of_lt (Heap.lt_size q)
            refine ⟨fun b o q n hb hx => (sb.2 b (nC b o q)).trans (un5.keep b o q n hb hx), fun b o q n hb hx => ?_, un5.free, fun b o q hx => ?_, un5.tups, un5.frzs, un5.tbls⟩
            · obtain ⟨sl, q2⟩ := un5.slot b o q n hb hx
              exact ⟨sl, (sb.2 b (nC b o q)).trans q2⟩
            · obtain ⟨o', q2⟩ := un5.there b o q hx
              exact ⟨o', (sb.2 b (nC b o q)).trans q2⟩
          have hok6 : HOk X.prog X.w H4 h6 := fun b ob q => by
            have q5 := I5.hok b ob q
            rw [eYp, eYw] at q5
            refine q5.stay (fun c w' hc' q' => (sb.2 c ?_).trans q') (fun _ q' => q') fun _ _ q' => q'
            rintro rfl
            rcases hc' with rfl | hc'
            · rw [hC5] at q; cases q
            · rw [hC5] at hc'; cases hc'
          have os5 : s5.os = s2.os := by have := I5.os; rw [eYs] at this; exact this
          refine I3.call' (s' := { s5 with heap := h6 }) (ch := fp) os5 un6 hok6 I5.bare fun b hb => ?_
          obtain ⟨_, g1, g2, g3, g4, g5⟩ := f2 b hb
          exact ⟨g3, g1, g4, g5⟩
        · rw [← hC3]
          exact I3.sz
        · obtain ⟨m', ⟨oL, _, _, hoL, _⟩, _⟩ := I3.loc
          rw [← hC3]
          exact (Nat.ne_of_lt (Heap.lt_size hoL)).symm
        · intro y c hy
          obtain ⟨_, o, ho, _⟩ := I3.cell y c hy
          rw [← hC3]
          exact Nat.ne_of_lt (Heap.lt_size ho)
        · intro p hp
          rw [← hC3]
          exact Nat.ne_of_lt (Heap.lt_size (I3.pin p hp).1)
      · refine thn (T'.item Y rfl rfl rfl eYc i [] s4 _ H4 _ I4 (stat fr4) st4 go) fun r s5 ⟨u, hr, h5⟩ => ?_
        subst hr
        refine thn h5 fun _ s6 ⟨y, H6, I6, r6, y6, st6, fr6⟩ => ?_
        have I6' := I6.pinned (stat fr6) (T.obj _ _ st6)
        have q6 := step y H6 y6
        have back : ∀ {σ7 : L2.St} {H7 : Hp} {s7 : Shared}, Inv Y ([] ++ pinsAt fp s6.heap) σ7 H7 s7 → tn (i + 1) s7.heap ∧ ∀ b ∈ fp, H7 b = none := fun {σ7 H7 s7} I7 =>
          ⟨T.keep _ _ _ st6 fun b hb o e => (I7.pin (b, o) (List.mem_append_right _ (List.mem_append_right _ (mem_pinsAt hb e)))).1, fun b hb => by
            obtain ⟨o, e, _⟩ := T.obj _ _ st6 b hb
            exact (I7.pin (b, o) (List.mem_append_right _ (List.mem_append_right _ (mem_pinsAt hb e)))).2.1⟩
        refine wpAny_mono (hg' _ s6 _ H6 y u (fun σ' H' => σ' = some y :: frees js σ ∧ H' = H6) I6' r6 ⟨rfl, rfl⟩) (fun _ s7 ⟨σ7, H7, I7, e7, e7'⟩ => ?_) fun _ _ z => by rw [eYx] at z; exact z
        subst e7 e7'
        refine wpAny_mono (ht' _ s7 _ H7 _ I7 q6) (fun ok s8 ⟨H8, I8, q8⟩ => ?_) fun _ _ z => by rw [eYx] at z; exact z
        cases ok with
        | false =>
          rw [if_neg Bool.false_ne_true] at q8 ⊢
          obtain ⟨zs', m', hz', hm', w'⟩ := q8
          obtain ⟨b1, b2⟩ := back I8
          exact ⟨m', hm', i + 1, some y, H8, zs', I8.unpinned, b1, b2, hz', w'⟩
        | true =>
          rw [if_pos rfl] at q8 ⊢
          refine wpAny_mono (he' _ s8 _ H8 _ I8 q8) (fun u9 s9 ⟨v9, H9, I9, r9, zs9, hz9, hl9, m9, hm9, w9⟩ => ?_) fun _ _ z => by rw [eYx] at z; exact z
          refine wpAny_mono (mt_append (X := Y) _ s9 _ H9 (.ref D) [v9] (.ref D) [u9] (fun _ H' => H' = upd H9 D (.lst (zs9 ++ [v9]))) I9 rfl (.cons r9 .nil) ⟨D, zs9, v9, rfl, rfl, hz9, hl9, rfl⟩) (fun _ s10 ⟨_, H10, I10, _, e10⟩ => ?_) fun _ _ z => by rw [eYx] at z; exact z
          subst e10
          obtain ⟨b1, b2⟩ := back I10
          exact ⟨m9, hm9, i + 1, some y, _, zs9 ++ [v9], I10.unpinned, b1, b2, upd_same, w9⟩
    · rw [upd_ne (Nat.ne_of_lt (fpD b hb))]
      exact (f2 b hb).1
  exact codeAny_compStart_list (loop _ rfl) (T.self _ 0 _ _ _ (T.keep 0 _ _ st2 (fun b _ o q => k34 b o (k23 b o q))) (loop _ rfl))
theorem comp_reading {X : Cx} {js : List Nat} {ρ : Ro} {ds : List D} (p : D → Bool) (f : D → D) (hz : ds.length ≤ 1000000) (hfz : ∀ d ∈ ds, p d = true → Fz (f d)) :
    ∀ σ H Q, tN X ρ ((ds.filter p).map f) σ H Q → tComp X js (tSrc X ρ ds) (fun Y σ H Q => ∃ d, d ∈ ds ∧ tB Y (some d :: freesD js ρ) (p d) σ H Q) (fun Y σ H Q => ∃ d, d ∈ ds ∧ p d = true ∧ tD Y (some d :: freesD js ρ) (f d) σ H Q) σ H Q := by
  rintro σ H Q ⟨r, q⟩
  refine ⟨r, fun J H2 s2 ok D hD Y eH eK => ?_⟩
  -- the invariant: what was there stands, the list holds what came of the items so far
  have fzs : ∀ (i : Nat), ∀ d ∈ ((ds.take i).filter p).map f, Fz d := fun i d hd => by
    obtain ⟨d', h1, rfl⟩ := List.mem_map.mp hd
    obtain ⟨h2, h3⟩ := List.mem_filter.mp h1
    exact hfz d' (List.mem_of_mem_take h2) h3
  refine ⟨fun i m zs H3 => m = ds.length - i ∧ i ≤ ds.length ∧ (∀ b o, H2 b = some o → H3 b = some o) ∧ IsAll X.K H3 zs (((ds.take i).filter p).map f), ⟨ds.length, by simp, Nat.zero_le _, same_new hD, ?_⟩, ?_⟩
  · simpa using IsAll.nil
  · rintro i m zs H3 hzs ⟨rfl, hil, k3, hA⟩
    obtain ⟨stop, go⟩ := ok H3 k3
    by_cases hlt : i < ds.length
    · obtain ⟨g, y⟩ := go i ds[i] (by simp [hlt])
      refine .inr ⟨g, fun v H4 hy => ?_⟩
      obtain ⟨rfl, hv⟩ := y v H4 hy
      have hmem : ds[i] ∈ ds := List.getElem_mem hlt
      have r3 : RelE X H4 σ ρ := r.mono (s2.trans k3)
      refine ⟨ds[i], hmem, relE_blk eK r3 hv, fun H5 s5 => ?_⟩
      have etake : ds.take (i + 1) = ds.take i ++ [ds[i]] := by rw [List.take_succ_eq_append_getElem hlt]
      cases hp : p ds[i] with
      | false =>
        refine iteF ⟨zs, ds.length - (i + 1), s5 _ _ hzs, by omega, rfl, hlt, fun b o h => s5 _ _ (k3 b o h), ?_⟩
        rw [etake, List.filter_append]
        simpa [hp] using hA.mono s5
      | true =>
        refine iteT ⟨ds[i], hmem, hp, (relE_blk eK r3 hv).mono s5, fun y H6 s6 hy6 => ⟨zs, s6 _ _ (s5 _ _ hzs), ?_, ds.length - (i + 1), by omega, rfl, hlt, fun b o h => ?_, ?_⟩⟩
        · have e1 := hA.length
          rw [List.length_map] at e1
          have e2 := List.length_filter_le p (ds.take i)
          rw [List.length_take] at e2
          rw [sizeLine_eq]
          omega
        · rw [upd_ne (ne_of_none h hD)]
          exact s6 _ _ (s5 _ _ (k3 b o h))
        · have hD6 : H6 D = some (.lst zs) := s6 _ _ (s5 _ _ hzs)
          have kt : KT H6 (upd H6 D (.lst (zs ++ [y]))) :=
            ⟨fun b xs h => by rw [upd_ne (ne_of h hD6 (by intro z; cases z))]; exact h, fun b o u h => by rw [upd_ne (ne_of h hD6 (by intro z; cases z))]; exact h⟩
          rw [etake, List.filter_append, List.map_append]
          refine IsAll.append ((hA.mono (s5.trans s6)).keep kt (fzs i)) ?_
          rw [eK] at hy6
          simpa [hp] using IsAll.cons (hy6.keep kt (hfz _ hmem hp)) .nil
    · refine .inl ⟨stop i (by omega), q D zs H3 (s2.free hD) (s2.trans k3) hzs ?_⟩
      have : ds.take i = ds := List.take_of_length_le (by omega)
      rw [this] at hA
      exact hA
theorem ps_setComp {X : Cx} {elt iter : Expr} {x : Str} {px : Pos} {ifs : List Expr} {scope : Scope} {cl : List (Str × Addr)} {pos : Pos} {ys : List Str} {js : List Nat} {wi : TI} {tt : Cx → TT} {te : Cx → TE} {i : Nat} {y : Str} {py spos : Pos}
    (hN : X.N.Nodup) (hi0 : X.N[i]? = some y) (hy : X.env.scope.names.lookup y = some .local) (hsw : swapsWith (.ListComp elt [⟨.Name x px, iter, ifs, 0⟩] scope pos) (some (.Name y py)) spos.line X.env = pure true)
    (hc : X.calm = true) (hi : PI X (.Name x px) iter wi)
    (ht : ∀ C s₀ H₀ fp, PTs (blk X scope cl (x :: ys) C s₀ H₀ fp) ifs (tt (blk X scope cl (x :: ys) C s₀ H₀ fp)))
    (he : ∀ C s₀ H₀ fp, PE (blk X scope cl (x :: ys) C s₀ H₀ fp) elt (te (blk X scope cl (x :: ys) C s₀ H₀ fp)))
    (hclos : closureFor scope X.env = pure cl) (hcell : ∀ y ∈ scope.names, y.2 ≠ .cell) (hkind : scope.kind = .function)
    (hnames : ∀ y ∈ scope.names, y.2 = .local → scope.names.lookup y.1 = some .local) (hx : scope.names.lookup x = some .local) (hnd : (x :: ys).Nodup)
    (hcl : ∀ y c, cl.lookup y = some c → X.env.cells.lookup y = some c)
    (hhas : ∀ y, (relabel scope X.env).names.lookup y = some .cell ∨ (relabel scope X.env).names.lookup y = some .free → ∃ c, cl.lookup y = some c)
    (hjs : js.length = ys.length) (hjy : ∀ (i j : Nat) (y : Str), js[i]? = some j → ys[i]? = some y → X.N[j]? = some y ∧ Vis X.env.scope y ∧ (X.env.kindOf y = some .cell ∨ X.env.kindOf y = some .free) ∧ ((relabel scope X.env).names.lookup y = some .cell ∨ (relabel scope X.env).names.lookup y = some .free))
    (hs : ∀ x, foldedSetIterable iter X.env x = pure x) :
    PS X (.Assign [.Name y py] (.ListComp elt [⟨.Name x px, iter, ifs, 0⟩] scope pos) spos) (tAsg (tComp X js wi tt te) (gName i)) := by
  intro pins s σ H Dn I h
  rw [exec_Assign_Name_used _ _ _ _ hsw]
  refine wpAny_bind (wpAny_standAt (wpAny_bind ?_))
  show wpAny _ X.A (do let _ ← comprehension (.ListComp elt [⟨.Name x px, iter, ifs, 0⟩] scope pos) scope X.env _ (newList []) false (eval iter X.env) (some (assign (.Name y py) X.env))) _ _ s
  refine wpAny_bind (wpAny_mono (comp_core (use := some (assign (.Name y py) X.env)) (R := fun _ s' => SP X pins Dn .next s') hc hi ht he hclos hcell hkind hnames hx hnd hcl hhas hjs hjy hs I h (fun D C s5 H4 q hC ns inv cc => ?_)) (fun _ s' hq => wpAny_pure (wpAny_pure hq)) fun _ _ e => e)
  show wpAny _ X.A (assign (.Name y py) X.env (.ref D)) _ _ s5
  have I5 : Inv X pins σ H4 s5 := inv s5.heap (Heap.SameBut.refl _ _)
  refine wpAny_assign_Name (store_ok2 (v := .ref D) I5 hN hi0 (.inl hy) rfl (fun s6 I6 ⟨a, sb, ha⟩ => ?_) (.inr hy))
  obtain ⟨m, hm⟩ := ns
  have aC : C ≠ a := by
    rcases ha with rfl | ha
    · exact cc.2.1
    · exact fun z => cc.2.2.1 _ _ ha z.symm
  refine ⟨m, hm.sameBut sb aC, fun h7 sb7 => ⟨_, H4, ?_, q⟩⟩
  have un : Un (frs X.stack) [C] H4 H4 s6.heap h7 := by
    have nC : ∀ b, b ∉ [C] → b ≠ C := fun b hb z => hb (z ▸ List.mem_cons_self)
    exact ⟨fun b o q n hb hx => (sb7.2 b (nC b hx)).trans q, fun b o q n hb hx => ⟨o.slots, (sb7.2 b (nC b hx)).trans q⟩, fun b o q n hx => n, fun b o q hx => ⟨o, (sb7.2 b (nC b hx)).trans q⟩, fun _ _ q => q, fun _ _ _ q => q, fun _ ps q => ⟨#[], by rw [Array.append_empty]; exact q⟩⟩
  have hok7 : HOk X.prog X.w H4 h7 := fun b ob q => by
    refine (I6.hok b ob q).stay (fun c w' hc' q' => (sb7.2 c ?_).trans q') (fun _ q' => q') fun _ _ q' => q'
    rintro rfl
    rcases hc' with rfl | hc'
    · rw [hC] at q; cases q
    · rw [hC] at hc'; cases hc'
  refine I6.call' (s' := { s6 with heap := h7 }) (ch := [C]) rfl un hok7 I6.bare fun b hb => ?_
  obtain rfl : b = C := List.mem_singleton.mp hb
  exact ⟨.inr cc.1, cc.2.1, cc.2.2.1, cc.2.2.2⟩
section
variable {X : Cx} {ρ : Ro} {ds : List D} {pos spos py : Pos} {rest : List Stmt} {P : Po}
theorem do_setC (n : Nat) {elt iter : Expr} {x y : Str} {px : Pos} {ifs : List Expr} {scope : Scope} (cl : List (Str × Addr)) (ys : List Str) (js : List Nat) (p : D → Bool) (f : D → D)
    (hi : Src X (.Name x px) iter ρ ds) (hz : ds.length ≤ 1000000) (hfz : ∀ d ∈ ds, p d = true → Fz (f d))
    (ht : ∀ C s₀ H₀ fp, ∀ d ∈ ds, Ets (blk X scope cl (x :: ys) C s₀ H₀ fp) ifs (some d :: freesD js ρ) (p d))
    (he : ∀ C s₀ H₀ fp, ∀ d ∈ ds, p d = true → Ev (blk X scope cl (x :: ys) C s₀ H₀ fp) elt (some d :: freesD js ρ) (f d))
    (h : ∀ l, ¬ Mu ρ l → Do X rest (ρ.set n (some (.lst l ((ds.filter p).map f)))) P) (hN : X.N.Nodup) (hi0 : X.N[n]? = some y := by rfl) (hy : X.env.scope.names.lookup y = some .local := by rfl)
    (hsw : swapsWith (.ListComp elt [⟨.Name x px, iter, ifs, 0⟩] scope pos) (some (.Name y py)) spos.line X.env = pure true := by rfl)
    (hc : X.calm = true := by rfl) (hclos : closureFor scope X.env = pure cl := by rfl) (hcell : scope.names.all (fun y => !(y.2 == .cell)) = true := by rfl) (hkind : scope.kind = .function := by rfl)
    (hnames : scope.names.all (fun y => !(y.2 == .local) || (scope.names.lookup y.1 == some .local)) = true := by rfl) (hx : scope.names.lookup x = some .local := by rfl) (hnd : (x :: ys).Nodup := by decide)
    (hcl : cl.map (fun p => X.env.cells.lookup p.1) = cl.map (fun p => some p.2) := by rfl) (hhas : scope.names.all (fun y => !(y.2 == .free) || (cl.lookup y.1).isSome) = true := by rfl)
    (hjs : js.length = ys.length := by rfl) (hNj : js.map (fun j => X.N[j]?) = ys.map some := by rfl) (hK : ys.map (fun y => X.env.scope.names.lookup y) = ys.map (fun _ => some .cell) := by rfl) (hR : ys.map (fun y => (relabel scope X.env).names.lookup y) = ys.map (fun _ => some .cell) := by rfl)
    (hs : ∀ x, foldedSetIterable iter X.env x = pure x := by intro _; rfl) : Do X (.Assign [.Name y py] (.ListComp elt [⟨.Name x px, iter, ifs, 0⟩] scope pos) spos :: rest) ρ P := by
  have hcell' : ∀ y ∈ scope.names, y.2 ≠ .cell := fun y hy z => by
    have := List.all_eq_true.mp hcell y hy
    rw [z] at this
    cases this
  have hz' : ∀ d ∈ (ds.filter p).map f, Fz d := fun d hd => by
    obtain ⟨d', h1, rfl⟩ := List.mem_map.mp hd
    exact hfz d' (List.mem_filter.mp h1).1 (List.mem_filter.mp h1).2
  refine do_seq (M := fun ρ' => ∃ l, ¬ Mu ρ l ∧ ρ' = ρ.set n (some (.lst l ((ds.filter p).map f)))) (PS.imp (ps_setComp (cl := cl) (ys := ys) (js := js) (wi := tSrc X ρ ds) (tt := fun Y σ H Q => ∃ d, d ∈ ds ∧ tB Y (some d :: freesD js ρ) (p d) σ H Q) (te := fun Y σ H Q => ∃ d, d ∈ ds ∧ p d = true ∧ tD Y (some d :: freesD js ρ) (f d) σ H Q) hN hi0 hy hsw hc hi
    (fun C s₀ H₀ fp pins s σ H Q I ⟨d, hd, q⟩ => ht C s₀ H₀ fp d hd pins s σ H Q I q) (fun C s₀ H₀ fp pins s σ H Q I ⟨d, hd, hp, q⟩ => he C s₀ H₀ fp d hd hp pins s σ H Q I q) hclos hcell' hkind (fun y hy z => ?_) hx hnd (hcl_of fun q hq => map_at hcl q hq) (has_of hcell' fun q hq z => ?_) hjs (fun i j y hj hy => ?_) hs) ?_) (fun _ ⟨l, z, e⟩ => e ▸ h l z)
  · have := List.all_eq_true.mp hnames y hy
    rw [z] at this
    simpa using this
  · have := List.all_eq_true.mp hhas q hq
    rw [z] at this
    have h2 : (cl.lookup q.1).isSome = true := by simpa using this
    exact Option.isSome_iff_exists.mp h2
  · have my : y ∈ ys := List.mem_of_getElem? hy
    have e1 : X.N[j]? = some y := by
      have : (js.map (fun j => X.N[j]?))[i]? = (ys.map some)[i]? := by rw [hNj]
      rw [List.getElem?_map, List.getElem?_map, hj, hy] at this
      simpa using this
    have e2 := map_at hK y my
    have e3 := map_at hR y my
    exact ⟨e1, .inr (.inl e2), .inl e2, .inl e3⟩
  · rintro D σ H ⟨r, q1, q2, q3, q4⟩
    refine comp_reading p f hz hfz σ H _ ⟨r.e, fun l vs H' hl s e1 h' => q1 _ H' _ (Go.set s fun a z => ?_) ((r.mono s).set (.lst e1 h') n (.inr (.inr (.lst hz'))) fun a z => ?_) ⟨l, fun m => ?_, rfl⟩⟩
    · cases z
      exact .inr hl
    · cases z
      exact r.same.free hl
    · obtain ⟨ys, z, _⟩ := r.mu m
      rw [hl] at z
      cases z
end
end FL
namespace M
theorem fmod_gcd (a b : Int) : Int.gcd b (a.fmod b) = Int.gcd a b := by
  rw [Int.fmod_def, Int.gcd_sub_mul_left_right, Int.gcd_comm]
theorem emod_gcd (a b : Int) : Int.gcd b (a % b) = Int.gcd a b := by
  rw [Int.emod_def, Int.gcd_sub_mul_left_right, Int.gcd_comm]
theorem fmod_lt (a : Int) {b : Int} (h : b ≠ 0) : (a.fmod b).natAbs < b.natAbs := by
  rcases Int.lt_or_gt_of_ne h with h | h
  · have e : a.fmod b = -((-a).fmod (-b)) := by rw [Int.neg_fmod_neg]; omega
    have h1 := Int.fmod_nonneg_of_pos (-a) (show 0 < -b by omega)
    have h2 := Int.fmod_lt_of_pos (-a) (show 0 < -b by omega)
    omega
  · have h1 := Int.fmod_nonneg_of_pos a h
    have h2 := Int.fmod_lt_of_pos a h
    omega
theorem gcd_abs (a b : Int) : Int.gcd (a.natAbs : Int) (b.natAbs : Int) = Int.gcd a b := by
  simp [Int.gcd]
theorem bar_neg {a b g : Int} (ha : 0 < a) (hg : 0 ≤ g) : b * b - 4 * a * (b * b / (4 * a) + 1 + g) < 0 := by
  have h4 : 0 < 4 * a := by omega
  have h1 := Int.lt_mul_ediv_self_add (x := b * b) h4
  have h2 : 4 * a * (b * b / (4 * a) + 1 + g) = 4 * a * (b * b / (4 * a)) + 4 * a + 4 * a * g := by
    rw [Int.mul_add, Int.mul_add, Int.mul_one]
  have h3 : 0 ≤ 4 * a * g := Int.mul_nonneg (by omega) hg
  omega
end M
namespace MT
def Wo (a b c x y : Int) : Int := a * x * x + b * x * y + c * y * y
structure Least (a b c : Int) : Prop where
  lo : -a < b
  hi : b ≤ a
  ac : a ≤ c
  eq : a = c → 0 ≤ b
theorem sq_pos {x : Int} (h : x ≠ 0) : 1 ≤ x * x := by
  rcases Int.lt_or_gt_of_ne h with h | h
  · have := Int.mul_pos (show 0 < -x by omega) (show 0 < -x by omega)
    grind
  · have := Int.mul_pos h h
    omega
theorem sq_nonneg (x : Int) : 0 ≤ x * x := by
  by_cases h : x = 0
  · subst h; decide
  · have := sq_pos h; omega
theorem worth_ge {a b c x y : Int} (ha : 0 < a) (L : Least a b c) (hx : x ≠ 0) (hy : y ≠ 0) :
    ∃ m e : Int, 1 ≤ m ∧ 0 ≤ e ∧ (x * y = m ∧ e = a + b ∨ x * y = -m ∧ e = a - b) ∧ m ≤ x * x + y * y - m ∧ Wo a b c x y = a * (x * x + y * y - m) + e * m + (c - a) * (y * y) := by
  have h0 : x * y ≠ 0 := Int.mul_ne_zero hx hy
  have h1 := sq_nonneg (x - y)
  have h2 := sq_nonneg (x + y)
  have lo := L.lo
  have hi := L.hi
  rcases Int.lt_or_gt_of_ne h0 with h | h
  · refine ⟨-(x * y), a - b, by omega, by omega, .inr ⟨by omega, rfl⟩, by grind, ?_⟩
    unfold Wo; grind
  · refine ⟨x * y, a + b, by omega, by omega, .inl ⟨rfl, rfl⟩, by grind, ?_⟩
    unfold Wo; grind
theorem sum3 {u v w : Int} (hu : 0 ≤ u) (hv : 0 ≤ v) (hw : 0 ≤ w) (h : u + v + w = 0) : u = 0 ∧ v = 0 ∧ w = 0 := by omega
theorem sum2 {u v : Int} (hu : 0 ≤ u) (hv : 0 ≤ v) (h : u + 4 * v = 0) : u = 0 := by omega
theorem mul_nn {x y : Int} (hx : 0 ≤ x) (hy : 0 ≤ y) : 0 ≤ x * y := Int.mul_nonneg hx hy
theorem worth_ge_a {a b c x y : Int} (ha : 0 < a) (L : Least a b c) (h : x ≠ 0 ∨ y ≠ 0) : a ≤ Wo a b c x y := by
  have ac := L.ac
  by_cases hy : y = 0
  · subst hy
    have hx : x ≠ 0 := by omega
    have := Int.mul_le_mul_of_nonneg_left (sq_pos hx) (Int.le_of_lt ha)
    unfold Wo; grind
  · by_cases hx : x = 0
    · subst hx
      have := Int.mul_le_mul_of_nonneg_left (sq_pos hy) (show 0 ≤ c by omega)
      unfold Wo; grind
    · obtain ⟨m, e, h1, h2, _, h4, h5⟩ := worth_ge ha L hx hy
      have t1 := mul_nn (Int.le_of_lt ha) (show 0 ≤ x * x + y * y - m - 1 by omega)
      have t2 := mul_nn h2 (show 0 ≤ m by omega)
      have t3 := mul_nn (show 0 ≤ c - a by omega) (sq_nonneg y)
      rw [h5]
      grind
theorem worth_eq_a {a b c x y : Int} (ha : 0 < a) (L : Least a b c) (hx : x ≠ 0) (hy : y ≠ 0) (h : Wo a b c x y = a) : a = c ∧ b = a ∧ x * y = -1 := by
  obtain ⟨m, e, h1, h2, h3, h4, h5⟩ := worth_ge ha L hx hy
  have ac := L.ac
  have lo := L.lo
  have t1 := mul_nn (Int.le_of_lt ha) (show 0 ≤ x * x + y * y - m - 1 by omega)
  have t2 := mul_nn h2 (show 0 ≤ m by omega)
  have t3 := mul_nn (show 0 ≤ c - a by omega) (sq_nonneg y)
  rw [h5] at h
  obtain ⟨s1, s2, s3⟩ := sum3 t1 t2 t3 (by grind)
  have e0 : e = 0 := by
    rcases Int.mul_eq_zero.mp s2 with z | z
    · exact z
    · omega
  have c0 : c - a = 0 := by
    rcases Int.mul_eq_zero.mp s3 with z | z
    · exact z
    · have := sq_pos hy; omega
  have q0 : x * x + y * y - m - 1 = 0 := by
    rcases Int.mul_eq_zero.mp s1 with z | z
    · omega
    · exact z
  have m1 : m = 1 := by omega
  rcases h3 with ⟨g1, g2⟩ | ⟨g1, g2⟩
  · omega
  · exact ⟨by omega, by omega, by omega⟩
theorem near_mod {a b b' k : Int} (ha : 0 < a) (h : b' = b + 2 * a * k) (l1 : -a < b) (l2 : b ≤ a) (l3 : -a < b') (l4 : b' ≤ a) : k = 0 := by
  have h1 : a * (2 * k) = b' - b := by grind
  rcases (show k = 0 ∨ 1 ≤ k ∨ k ≤ -1 by omega) with z | z | z
  · exact z
  · have := Int.mul_le_mul_of_nonneg_left (show (2 : Int) ≤ 2 * k by omega) (Int.le_of_lt ha)
    omega
  · have := Int.mul_le_mul_of_nonneg_left (show 2 * k ≤ (-2 : Int) by omega) (Int.le_of_lt ha)
    omega
theorem least_le {a b c a' b' c' p q r s : Int} (ha : 0 < a) (ha' : 0 < a') (L : Least a b c) (L' : Least a' b' c') (det : p * s - q * r = 1)
    (e1 : a' = Wo a b c p r) (e2 : b' = 2 * a * p * q + b * (p * s + q * r) + 2 * c * r * s) (e3 : c' = Wo a b c q s) (le : a' ≤ a) : a' = a ∧ b' = b ∧ c' = c := by
  have bar : b' * b' - 4 * a' * c' = b * b - 4 * a * c := by rw [e1, e2, e3]; unfold Wo; grind
  have lo := L.lo
  have hi := L.hi
  have ac := L.ac
  have lo' := L'.lo
  have hi' := L'.hi
  have ac' := L'.ac
  have ge : a ≤ a' := by
    rw [e1]
    refine worth_ge_a ha L ?_
    by_cases hp : p = 0
    · refine .inr fun hr => ?_
      rw [hp, hr] at det
      simp at det
    · exact .inl hp
  have ea : a' = a := by omega
  subst ea
  have fin : b' = b → a' = a' ∧ b' = b ∧ c' = c := fun z => ⟨rfl, z, by
    subst z
    have : a' * (4 * (c' - c)) = 0 := by grind
    rcases Int.mul_eq_zero.mp this with w | w <;> omega⟩
  by_cases hr : r = 0
  · -- a shift
    subst hr
    have ps : p * s = 1 := by omega
    have e2' : b' = b + 2 * a' * (p * q) := by grind
    have := near_mod ha e2' lo hi lo' hi'
    exact fin (by rw [e2', this]; omega)
  · by_cases hp : p = 0
    · -- the ends change places
      subst hp
      have qr : q * r = -1 := by omega
      have rr : r * r = 1 := by
        have h1 : q * q * (r * r) = 1 := by grind
        have h2 := sq_pos hr
        have h3 := sq_nonneg q
        have h4 : q * q ≠ 0 := by intro z; rw [z] at h1; simp at h1
        have h5 : 0 ≤ (q * q - 1) * (r * r) := mul_nn (by omega) (by omega)
        have h6 : 0 ≤ (r * r - 1) * (q * q) := mul_nn (by omega) h3
        grind
      have ca : c = a' := by unfold Wo at e1; grind
      have b0 : 0 ≤ b := L.eq ca.symm
      have e2' : b' = -b + 2 * a' * (r * s) := by grind
      by_cases hb : b = a'
      · -- (a, a, a)
        have : b' * b' - 4 * a' * c' = a' * a' - 4 * a' * a' := by rw [bar, hb, ca]
        have t1 := mul_nn (show 0 ≤ a' - b' by omega) (show 0 ≤ a' + b' by omega)
        have t2 := mul_nn (Int.le_of_lt ha) (show 0 ≤ c' - a' by omega)
        have s1 : (a' - b') * (a' + b') = 0 := sum2 t1 t2 (by grind)
        rcases Int.mul_eq_zero.mp s1 with w | w
        · exact fin (by omega)
        · omega
      · have := near_mod ha e2' (by omega) (by omega) lo' hi'
        rw [this] at e2'
        have e4 : b' = -b := by omega
        have : a' * (4 * (c' - c)) = 0 := by rw [e4] at bar; grind
        have ec : c' = c := by rcases Int.mul_eq_zero.mp this with w | w <;> omega
        have b0' := L'.eq (by omega)
        exact fin (by omega)
    · -- (a, a, a)
      obtain ⟨g1, g2, g3⟩ := worth_eq_a ha L hp hr e1.symm
      have : b' * b' - 4 * a' * c' = a' * a' - 4 * a' * a' := by rw [bar, g2, ← g1]
      have t1 := mul_nn (show 0 ≤ a' - b' by omega) (show 0 ≤ a' + b' by omega)
      have t2 := mul_nn (Int.le_of_lt ha) (show 0 ≤ c' - a' by omega)
      have s1 : (a' - b') * (a' + b') = 0 := sum2 t1 t2 (by grind)
      rcases Int.mul_eq_zero.mp s1 with w | w
      · exact fin (by omega)
      · omega
theorem least_unique {a b c a' b' c' p q r s : Int} (ha : 0 < a) (ha' : 0 < a') (L : Least a b c) (L' : Least a' b' c') (det : p * s - q * r = 1)
    (e1 : a' = Wo a b c p r) (e2 : b' = 2 * a * p * q + b * (p * s + q * r) + 2 * c * r * s) (e3 : c' = Wo a b c q s) : a' = a ∧ b' = b ∧ c' = c := by
  by_cases h : a' ≤ a
  · exact least_le ha ha' L L' det e1 e2 e3 h
  · -- the way back
    have det' : s * p - (-q) * (-r) = 1 := by grind
    have f1 : a = Wo a' b' c' s (-r) := by rw [e1, e2, e3]; unfold Wo; grind
    have f2 : b = 2 * a' * s * (-q) + b' * (s * p + (-q) * (-r)) + 2 * c' * (-r) * p := by rw [e1, e2, e3]; unfold Wo; grind
    have f3 : c = Wo a' b' c' (-q) p := by rw [e1, e2, e3]; unfold Wo; grind
    obtain ⟨g1, g2, g3⟩ := least_le ha' ha L' L det' f1 f2 f3 (by omega)
    exact ⟨g1.symm, g2.symm, g3.symm⟩
end MT
namespace MT
theorem wo_pos {a b c x y : Int} (ha : 0 < a) (hd : b * b - 4 * a * c < 0) (h : x ≠ 0 ∨ y ≠ 0) : 0 < Wo a b c x y := by
  have e : 4 * (a * Wo a b c x y) = (2 * a * x + b * y) * (2 * a * x + b * y) + (4 * a * c - b * b) * (y * y) := by unfold Wo; grind
  have s1 := sq_nonneg (2 * a * x + b * y)
  have key : 0 < a * Wo a b c x y := by
    by_cases hy : y = 0
    · subst hy
      have hx : x ≠ 0 := by omega
      have h1 := sq_pos hx
      have h2 : 0 < a * (x * x) := Int.mul_pos ha (by omega)
      have h3 : 0 < a * (a * (x * x)) := Int.mul_pos ha h2
      unfold Wo
      grind
    · have h1 := sq_pos hy
      have h2 : 0 < (4 * a * c - b * b) * (y * y) := Int.mul_pos (by omega) (by omega)
      omega
  by_cases z : 0 < Wo a b c x y
  · exact z
  · have : a * Wo a b c x y ≤ 0 := Int.mul_nonpos_of_nonneg_of_nonpos (Int.le_of_lt ha) (by omega)
    omega
def leastB (a b c : Int) : Bool := decide (-a < b) && decide (b ≤ a) && decide (a ≤ c) && (decide (a ≠ c) || decide (0 ≤ b))
theorem leastB_iff {a b c : Int} : leastB a b c = true ↔ Least a b c := by
  unfold leastB
  simp only [Bool.and_eq_true, Bool.or_eq_true, decide_eq_true_eq]
  constructor
  · rintro ⟨⟨⟨h1, h2⟩, h3⟩, h4⟩
    exact ⟨h1, h2, h3, fun z => by rcases h4 with h | h <;> omega⟩
  · rintro ⟨h1, h2, h3, h4⟩
    refine ⟨⟨⟨h1, h2⟩, h3⟩, ?_⟩
    by_cases z : a = c
    · exact .inr (h4 z)
    · exact .inl z
theorem least_small {a b c : Int} (ha : 0 < a) (L : Least a b c) : a ≤ 4 * a * c - b * b ∧ c ≤ 4 * a * c - b * b ∧ b.natAbs ≤ (4 * a * c - b * b).natAbs := by
  have lo := L.lo
  have hi := L.hi
  have ac := L.ac
  have h1 := mul_nn (show 0 ≤ a - b by omega) (show 0 ≤ a + b by omega)
  have h2 := mul_nn (Int.le_of_lt ha) (show 0 ≤ c - a by omega)
  have h3 := mul_nn (show 0 ≤ a - 1 by omega) (show 0 ≤ c by omega)
  have h4 : 3 * (a * c) ≤ 4 * a * c - b * b := by grind
  have h5 : c ≤ a * c := by grind
  omega
theorem turn_small {a b c x y v : Int} (ha : 0 < a) (hd : b * b - 4 * a * c < 0) (e : v = Wo a b c x y) : y * y ≤ 4 * (a * v) ∧ (2 * a * x + b * y) * (2 * a * x + b * y) ≤ 4 * (a * v) := by
  have e1 : 4 * (a * v) = (2 * a * x + b * y) * (2 * a * x + b * y) + (4 * a * c - b * b) * (y * y) := by rw [e]; unfold Wo; grind
  have s1 := sq_nonneg (2 * a * x + b * y)
  have s2 := mul_nn (show 0 ≤ 4 * a * c - b * b - 1 by omega) (sq_nonneg y)
  have s3 : (4 * a * c - b * b) * (y * y) = (4 * a * c - b * b - 1) * (y * y) + y * y := by grind
  have s4 := sq_nonneg y
  omega
end MT
namespace MT
theorem z_small {x y z : Int} (hx : 0 < x) (h1 : -x ≤ y) (h2 : y ≤ x) (hd : y * y - 4 * x * z < 0) : 0 < z ∧ 4 * z ≤ x - (y * y - 4 * x * z) := by
  have t1 := mul_nn (show 0 ≤ x - y by omega) (show 0 ≤ x + y by omega)
  have t2 := mul_nn (show 0 ≤ x - 1 by omega) (show 0 ≤ -(y * y - 4 * x * z) by omega)
  constructor
  · by_cases hz : 0 < z
    · exact hz
    · have := mul_nn (Int.le_of_lt hx) (show 0 ≤ -z by omega)
      have := sq_nonneg y
      grind
  · refine Int.le_of_mul_le_mul_left (a := x) ?_ hx
    grind
def meas (x y z : Int) : Nat := 3 * x.natAbs + (if -x < y ∧ y ≤ x then (if x = z ∧ y < 0 then 1 else 0) else 2)
end MT
namespace MT
end MT
namespace CM
open PySem PySem.Spec L2 FL
def p_is_whole (ds : List D) (d : D) : Prop := ∃ i : Int, ds = [.int i] ∧ d = .bl true
def p_is_whole_tuple (ds : List D) (d : D) : Prop := ∃ ns : List Int, ds = [.tup (ns.map D.int), .int (ns.length : Int)] ∧ ns.length ≤ 1000 ∧ d = .bl true
def p_common_divisor (ds : List D) (d : D) : Prop := ∃ a b : Int, ds = [.int a, .int b] ∧ d = .int (Int.gcd a b : Int)
def p_bar_of_numbers (ds : List D) (d : D) : Prop := ∃ a b c : Int, ds = [.int a, .int b, .int c] ∧ Bd a 8000 ∧ Bd b 8000 ∧ Bd c 8000 ∧ d = .int (b * b - 4 * a * c)
structure FormN (a b c : Int) : Prop where
  pos : 0 < a
  bar : b * b - 4 * a * c < 0
  sa : Bd a 8000
  sb : Bd b 8000
  sc : Bd c 8000
abbrev formD (a b c : Int) : D := .tup [.int a, .int b, .int c]
def p_is_form (ds : List D) (d : D) : Prop := ∃ a b c : Int, ds = [formD a b c] ∧ FormN a b c ∧ d = .bl true
def p_require_form (ds : List D) (d : D) : Prop := ∃ a b c : Int, ds = [formD a b c] ∧ FormN a b c ∧ d = .non
def p_bar_of (ds : List D) (d : D) : Prop := ∃ a b c : Int, ds = [formD a b c] ∧ FormN a b c ∧ d = .int (b * b - 4 * a * c)
def p_is_bare (ds : List D) (d : D) : Prop := ∃ a b c : Int, ds = [formD a b c] ∧ FormN a b c ∧ d = .bl (decide ((Int.gcd (Int.gcd a b) c : Int) = 1))
abbrev cell (ns : List Int) (k : Nat) : Int := ns.getD k 0
abbrev scrD (ns : List Int) : D := .ls (ns.map D.int)
def p_law_cell_at (ds : List D) (d : D) : Prop := ∃ (ns : List Int) (k : Nat), ds = [scrD ns, .int (k : Int)] ∧ d = .int (cell ns k)
def Sizes (ns : List Int) : Prop := ∀ k : Nat, Bd (cell ns k) 1048576
def p_law_divisor (ds : List D) (d : D) : Prop := ∃ a b : Int, ds = [.int a, .int b] ∧ d = .int (Int.gcd a b : Int)
theorem fz_ints (ns : List Int) : Fz (.tup (ns.map D.int)) := .tup fun d hd => by
  obtain ⟨z, _, rfl⟩ := List.mem_map.mp hd
  exact .int z
theorem fz3 (a b c : Int) : Fz (formD a b c) := fz_ints [a, b, c]
theorem fz2 (a b : Int) : Fz (.tup [.int a, .int b]) := fz_ints [a, b]
def p_law (ds : List D) (d : D) : Prop := ∃ ns : List Int, ds = [scrD ns] ∧ ns.length ≤ 63 ∧ Sizes ns ∧ d = .bl true
theorem law_sp (ns : List Int) (hl : ns.length ≤ 63) (hb : ∀ z ∈ ns, Builtin.Int.intBits z ≤ 1048576) : p_law [.ls (ns.map D.int)] (.bl true) := by
  refine ⟨ns, rfl, hl, fun k => ⟨?_⟩, rfl⟩
  by_cases h : k < ns.length
  · have e : cell ns k = ns[k] := by simp [cell, List.getD, List.getElem?_eq_getElem h]
    rw [e]
    exact hb _ (List.getElem_mem h)
  · have e : cell ns k = 0 := by simp [cell, List.getD, List.getElem?_eq_none (Nat.le_of_not_lt h)]
    rw [e]
    exact Nat.le_trans (bd_0).lt (by decide)
structure Tx (mg : Str → Option Value) : Prop where
  abs : mg "abs" = none
  all : mg "all" = none
  any : mg "any" = none
  bool : mg "bool" = none
  dict : mg "dict" = none
  enumerate : mg "enumerate" = none
  int : mg "int" = none
  isi : mg "isinstance" = none
  len : mg "len" = none
  list : mg "list" = none
  max : mg "max" = none
  min : mg "min" = none
  range : mg "range" = none
  reversed : mg "reversed" = none
  set : mg "set" = none
  sorted : mg "sorted" = none
  str : mg "str" = none
  sum : mg "sum" = none
  tuple : mg "tuple" = none
  zip : mg "zip" = none
abbrev turD (p q r s : Int) : D := .tup [.int p, .int q, .int r, .int s]
abbrev plD (x y : Int) : D := .tup [.int x, .int y]
def p_law_sent (ds : List D) (d : D) : Prop := ∃ p q r s x y : Int, ds = [turD p q r s, plD x y] ∧ Bd p 8000 ∧ Bd q 8000 ∧ Bd r 8000 ∧ Bd s 8000 ∧ Bd x 8000 ∧ Bd y 8000 ∧ d = plD (p * x + q * y) (r * x + s * y)
abbrev wo (a b c x y : Int) : Int := a * x * x + b * x * y + c * y * y
structure TurnN (p q r s : Int) : Prop where
  det : p * s - q * r = 1
  sp : Bd p 7000
  sq : Bd q 7000
  sr : Bd r 7000
  ss : Bd s 7000
def p_is_turning (ds : List D) (d : D) : Prop := ∃ p q r s : Int, ds = [turD p q r s] ∧ TurnN p q r s ∧ d = .bl true
def p_require_turning (ds : List D) (d : D) : Prop := ∃ p q r s : Int, ds = [turD p q r s] ∧ TurnN p q r s ∧ d = .non
theorem turned_worth (a b c p q r s x y : Int) : wo (wo a b c p r) (2 * a * p * q + b * (p * s + q * r) + 2 * c * r * s) (wo a b c q s) x y = wo a b c (p * x + q * y) (r * x + s * y) := by grind
def p_way_back (ds : List D) (d : D) : Prop := ∃ p q r s : Int, ds = [turD p q r s] ∧ TurnN p q r s ∧ d = turD s (-q) (-r) p
structure FormS (a b c : Int) : Prop where
  pos : 0 < a
  bar : b * b - 4 * a * c < 0
  sa : Bd a 3000
  sb : Bd b 3000
  sc : Bd c 3000
  sd : Bd (b * b - 4 * a * c) 1200
theorem FormS.n {a b c : Int} (h : FormS a b c) : FormN a b c := ⟨h.pos, h.bar, h.sa.up _ (by decide), h.sb.up _ (by decide), h.sc.up _ (by decide)⟩
structure Leads (a b c p q r s a' b' c' : Int) : Prop where
  det : p * s - q * r = 1
  e1 : a' = MT.Wo a b c p r
  e2 : b' = 2 * a * p * q + b * (p * s + q * r) + 2 * c * r * s
  e3 : c' = MT.Wo a b c q s
theorem Leads.bar {a b c p q r s a' b' c' : Int} (h : Leads a b c p q r s a' b' c') : b' * b' - 4 * a' * c' = b * b - 4 * a * c := by
  rw [h.e1, h.e2, h.e3]
  have := h.det
  unfold MT.Wo
  grind
theorem Leads.trans {a b c p q r s a' b' c' x y z v a2 b2 c2 : Int} (h : Leads a b c p q r s a' b' c') (g : Leads a' b' c' x y z v a2 b2 c2) : Leads a b c (p * x + q * z) (p * y + q * v) (r * x + s * z) (r * y + s * v) a2 b2 c2 := by
  have d1 := h.det
  have d2 := g.det
  refine ⟨by grind, ?_, ?_, ?_⟩
  · rw [g.e1, h.e1, h.e2, h.e3]; unfold MT.Wo; grind
  · rw [g.e2, h.e1, h.e2, h.e3]; unfold MT.Wo; grind
  · rw [g.e3, h.e1, h.e2, h.e3]; unfold MT.Wo; grind
theorem Leads.back {a b c p q r s a' b' c' : Int} (h : Leads a b c p q r s a' b' c') : Leads a' b' c' s (-q) (-r) p a b c := by
  have d := h.det
  refine ⟨by grind, ?_, ?_, ?_⟩
  · rw [h.e1, h.e2, h.e3]; unfold MT.Wo; grind
  · rw [h.e1, h.e2, h.e3]; unfold MT.Wo; grind
  · rw [h.e1, h.e2, h.e3]; unfold MT.Wo; grind
theorem col_bd {a b c x y v : Int} {n k : Nat} (ha : 0 < a) (hd : b * b - 4 * a * c < 0) (sa : Bd a 3000) (sb : Bd b 3000) (sv : Bd v n) (e : v = MT.Wo a b c x y) (hk : 3003 + n ≤ k + k) : Bd y k ∧ Bd x (3002 + k) := by
  obtain ⟨h1, h2⟩ := MT.turn_small ha hd e
  have s4 : Bd (4 * (a * v)) (k + k) := Bd.mul bd_4 (Bd.mul sa sv (3000 + n) (Nat.le_refl _)) _ (by omega)
  have by' : Bd y k := Bd.sqrt h1 s4
  have bz : Bd (2 * a * x + b * y) k := Bd.sqrt h2 s4
  refine ⟨by', Bd.factor ha ?_⟩
  have e2 : 2 * a * x = (2 * a * x + b * y) - b * y := by omega
  rw [e2]
  exact Bd.sub bz (Bd.mul sb by' (3000 + k) (Nat.le_refl _)) _ (by omega)
def pre_form (ds : List D) : Prop := ∃ a b c : Int, ds = [formD a b c] ∧ FormS a b c
def post_least_of (ds : List D) (d : D) : Prop := ∀ a b c : Int, ds = [formD a b c] → ∃ a' b' c' p q r s : Int, d = .tup [formD a' b' c', turD p q r s] ∧ MT.Least a' b' c' ∧ FormS a' b' c' ∧ TurnN p q r s ∧ Leads a b c p q r s a' b' c'
theorem least_bd {a b c : Int} (ha : 0 < a) (L : MT.Least a b c) (hd : b * b - 4 * a * c < 0) (sd : Bd (b * b - 4 * a * c) 1200) : FormS a b c := by
  obtain ⟨h1, h2, h3⟩ := MT.least_small ha L
  have ac := L.ac
  have up : ∀ {z : Int}, z.natAbs ≤ (b * b - 4 * a * c).natAbs → Bd z 3000 := fun h => (sd.le h).up _ (by decide)
  exact ⟨ha, hd, up (by omega), up (by omega), up (by omega), sd⟩
theorem fz_pair {d e : D} (h1 : Fz d) (h2 : Fz e) : Fz (.tup [d, e]) := .tup fun x hx => by
  simp only [List.mem_cons, List.not_mem_nil, or_false] at hx
  rcases hx with rfl | rfl
  · exact h1
  · exact h2
theorem fz_post {ds : List D} {d : D} {a b c : Int} (hd : ds = [formD a b c]) (h : post_least_of ds d) : Fz d := by
  obtain ⟨a', b', c', p, q, r, s, rfl, _⟩ := h a b c hd
  exact fz_pair (fz3 _ _ _) (fz_ints [_, _, _, _])
def measAt (ρ : Ro) (i : Nat) : Nat := match ρ[i]? with
  | some (some (.tup [.int x, .int y, .int z])) => MT.meas x y z
  | _ => 0
theorem Leads.turn {a b c p q r s x y z : Int} (h : Leads a b c p q r s x y z) (f : FormS a b c) (g : FormS x y z) : TurnN p q r s := by
  obtain ⟨h1, h2⟩ := col_bd (k := 3002) f.pos f.bar f.sa f.sb g.sa h.e1 (by decide)
  obtain ⟨h3, h4⟩ := col_bd (k := 3002) f.pos f.bar f.sa f.sb g.sc h.e3 (by decide)
  exact ⟨h.det, h2.up _ (by decide), h4.up _ (by decide), h1.up _ (by decide), h3.up _ (by decide)⟩
theorem bd_quarter {z w : Int} {k : Nat} (hz : 0 < z) (h : 4 * z ≤ w) (hw : Bd w (k + 1)) : Bd z k := by
  refine .of_lt ?_
  have h1 := intBits_le_iff.mp hw.lt
  rw [Nat.pow_succ] at h1
  generalize 2 ^ k = m at *
  omega
theorem shift_ok {x y z : Int} (f : FormS x y z) : ∃ y' z' : Int, y' = y + 2 * x * ((x - y) / (2 * x)) ∧ -x < y' ∧ y' ≤ x ∧ Leads x y z 1 ((x - y) / (2 * x)) 0 1 x y' z' ∧ FormS x y' z' := by
  have hx := f.pos
  generalize hk : (x - y) / (2 * x) = k
  have h1 : (x - y) = 2 * x * k + (x - y) % (2 * x) := by rw [← hk]; exact (Int.mul_ediv_add_emod (x - y) (2 * x)).symm
  have h2 := Int.emod_nonneg (x - y) (show 2 * x ≠ 0 by omega)
  have h3 := Int.emod_lt_of_pos (x - y) (show 0 < 2 * x by omega)
  have lo : -x < y + 2 * x * k := by omega
  have hi : y + 2 * x * k ≤ x := by omega
  have L : Leads x y z 1 k 0 1 x (y + 2 * x * k) (x * k * k + y * k + z) := by
    refine ⟨by omega, ?_, ?_, ?_⟩ <;> (try unfold MT.Wo) <;> grind
  have bar := L.bar
  refine ⟨_, _, rfl, lo, hi, L, hx, by rw [bar]; exact f.bar, f.sa, f.sa.le (by omega), ?_, by rw [bar]; exact f.sd⟩
  obtain ⟨z0, z1⟩ := MT.z_small hx (by omega) hi (by rw [bar]; exact f.bar)
  rw [bar] at z1
  exact bd_quarter z0 z1 (Bd.sub f.sa (f.sd.up 3000 (by decide)) _ (by decide))
theorem swap_ok {x y z : Int} (f : FormS x y z) (hz : 0 < z) : Leads x y z 0 (-1) 1 0 z (-y) x ∧ FormS z (-y) x := by
  have L : Leads x y z 0 (-1) 1 0 z (-y) x := by
    refine ⟨by omega, ?_, ?_, ?_⟩ <;> (try unfold MT.Wo) <;> grind
  have bar := L.bar
  exact ⟨L, hz, by rw [bar]; exact f.bar, f.sc, ⟨intBits_neg_le f.sb.lt⟩, f.sa, by rw [bar]; exact f.sd⟩
theorem FormS.zpos {x y z : Int} (f : FormS x y z) : 0 < z := by
  have h1 := f.pos
  have h2 := f.bar
  by_cases hz : 0 < z
  · exact hz
  · have := MT.mul_nn (Int.le_of_lt h1) (show 0 ≤ -z by omega)
    have := MT.sq_nonneg y
    grind
theorem fz_three {d e f : D} (h1 : Fz d) (h2 : Fz e) (h3 : Fz f) : Fz (.tup [d, e, f]) := .tup fun x hx => by
  simp only [List.mem_cons, List.not_mem_nil, or_false] at hx
  rcases hx with rfl | rfl | rfl
  · exact h1
  · exact h2
  · exact h3
end CM
namespace CM
open PySem PySem.Spec L2 FL FT
end CM
namespace CM
open PySem PySem.Spec L2 FL FT
end CM
namespace CM
open PySem PySem.Spec L2 FL FT
def isL : Option D → Bool
  | some (.lst _ _) => true
  | _ => false
theorem others_of {ρ : Ro} {n : Nat} (h : (ρ.set n none).any isL = false) {l : Addr} : ∀ (j : Nat) (es : List D), j ≠ n → ρ[j]? ≠ some (some (.lst l es)) := fun j es hj e => by
  have : (ρ.set n none)[j]? = some (some (.lst l es)) := by rw [List.getElem?_set_ne (fun z => hj z.symm)]; exact e
  have m := List.mem_of_getElem? this
  rw [List.any_eq_false] at h
  exact absurd rfl (h _ m)
end CM
namespace CM
open PySem PySem.Spec L2 FL FT
end CM
namespace CM
open PySem PySem.Spec L2 FL FT
end CM
namespace CM
open PySem PySem.Spec L2 FL FT
def p_stepped (ds : List D) (d : D) : Prop := ∃ a b c k : Int, ds = [formD a b c, .int k] ∧ Bd a 8000 ∧ Bd b 8000 ∧ Bd k 8000 ∧ d = formD a (b + 2 * a * k) (c + k * (b + a * k))
def p_behind_step (ds : List D) (d : D) : Prop := ∃ p q r s k : Int, ds = [.kt [.int p, .int q, .int r, .int s], .int k] ∧ Bd p 8000 ∧ Bd r 8000 ∧ Bd k 8000 ∧ d = turD p (q + p * k) r (s + r * k)
def p_swapped (ds : List D) (d : D) : Prop := ∃ a b c : Int, ds = [formD a b c] ∧ d = formD c (-b) a
def p_behind_swap (ds : List D) (d : D) : Prop := ∃ p q r s : Int, ds = [turD p q r s] ∧ d = turD q (-p) s (-r)
def p_step_to_middle (ds : List D) (d : D) : Prop := ∃ a b c : Int, ds = [formD a b c] ∧ 0 < a ∧ Bd a 8000 ∧ d = .int ((a - b) / (2 * a))
theorem Leads.stepK {a b c p q r s x y z : Int} (h : Leads a b c p q r s x y z) (k : Int) : Leads a b c p (q + p * k) r (s + r * k) x (y + 2 * x * k) (z + k * (y + x * k)) := by
  have d := h.det
  refine ⟨by grind, h.e1, ?_, ?_⟩
  · rw [h.e2, h.e1]; unfold MT.Wo; grind
  · rw [h.e3, h.e2, h.e1]; unfold MT.Wo; grind
theorem Leads.swapK {a b c p q r s x y z : Int} (h : Leads a b c p q r s x y z) : Leads a b c q (-p) s (-r) z (-y) x := by
  have d := h.det
  refine ⟨by grind, h.e3, ?_, ?_⟩
  · rw [h.e2]; grind
  · rw [h.e1]; unfold MT.Wo; grind
theorem shift_S {x y z : Int} (f : FormS x y z) : -x < y + 2 * x * ((x - y) / (2 * x)) ∧ y + 2 * x * ((x - y) / (2 * x)) ≤ x ∧ FormS x (y + 2 * x * ((x - y) / (2 * x))) (z + ((x - y) / (2 * x)) * (y + x * ((x - y) / (2 * x)))) ∧ Bd ((x - y) / (2 * x)) 7000 := by
  obtain ⟨y', z', ey, lo, hi, L, g⟩ := shift_ok f
  have t := L.turn f g
  generalize (x - y) / (2 * x) = k at *
  have ez : z' = z + k * (y + x * k) := by rw [L.e3]; unfold MT.Wo; grind
  subst ey ez
  exact ⟨lo, hi, g, t.sq⟩
def meas2At (x y : Int) : Nat := (2 * x + if y < 0 then 1 else 0).toNat
def meas2 (ρ : Ro) (i : Nat) : Nat := match ρ[i]? with
  | some (some (.tup [.int x, .int y, .int _])) => meas2At x y
  | _ => 0
theorem meas2_lt {x y z : Int} (hz : 0 < z) (hlo : -x < y) (hk : z < x ∨ x = z ∧ y < 0) : meas2At z (-y + 2 * z * ((z - -y) / (2 * z))) < meas2At x y := by
  unfold meas2At
  rcases hk with h | ⟨rfl, h⟩
  · generalize -y + 2 * z * ((z - -y) / (2 * z)) = w
    have h1 : (if w < 0 then (1 : Int) else 0) ≤ 1 := by split <;> omega
    have h2 : (0 : Int) ≤ if y < 0 then (1 : Int) else 0 := by split <;> omega
    omega
  · have e : (x - -y) / (2 * x) = 0 := Int.ediv_eq_zero_of_lt (by omega) (by omega)
    rw [e, if_pos h, if_neg (by omega)]
    omega
theorem TurnN.back {p q r s : Int} (h : TurnN p q r s) : TurnN s (-q) (-r) p :=
  ⟨by have := h.det; grind, h.ss, ⟨intBits_neg_le h.sq.lt⟩, ⟨intBits_neg_le h.sr.lt⟩, h.sp⟩
end CM
namespace CM
open PySem PySem.Spec L2 FL FT
end CM
namespace CM
open PySem PySem.Spec L2 FL FT
theorem zpos_of {x y z : Int} (hx : 0 < x) (hd : y * y - 4 * x * z < 0) : 0 < z := by
  refine Int.not_le.mp fun h => ?_
  have h1 := Int.mul_nonpos_of_nonneg_of_nonpos (show 0 ≤ 4 * x by omega) h
  have h2 := MT.sq_nonneg y
  omega
theorem least_ex' : ∀ (n : Nat) (a b c : Int), a.toNat ≤ n → 0 < a → b * b - 4 * a * c < 0 → ∃ p q r s x y z : Int, Leads a b c p q r s x y z ∧ MT.Least x y z ∧ 0 < x := by
  intro n
  induction n with
  | zero => intro a b c h ha; omega
  | succ n ih =>
    intro a b c hn ha hd
    have L0 : Leads a b c 1 0 0 1 a b c := by
      refine ⟨by omega, ?_, ?_, ?_⟩ <;> (try unfold MT.Wo) <;> grind
    have L1 := L0.stepK ((a - b) / (2 * a))
    have h1 : (a - b) = 2 * a * ((a - b) / (2 * a)) + (a - b) % (2 * a) := (Int.mul_ediv_add_emod (a - b) (2 * a)).symm
    have h2 := Int.emod_nonneg (a - b) (show 2 * a ≠ 0 by omega)
    have h3 := Int.emod_lt_of_pos (a - b) (show 0 < 2 * a by omega)
    generalize (a - b) / (2 * a) = k at *
    have lo : -a < b + 2 * a * k := by omega
    have hi : b + 2 * a * k ≤ a := by omega
    have bar := L1.bar
    generalize b + 2 * a * k = y at *
    generalize c + k * (b + a * k) = z at *
    have hd' : y * y - 4 * a * z < 0 := by omega
    have z0 := zpos_of ha hd'
    by_cases h : a < z ∨ (a = z ∧ 0 ≤ y)
    · exact ⟨_, _, _, _, a, y, z, L1, ⟨lo, hi, by omega, fun e => by omega⟩, ha⟩
    · have L2 := L1.swapK
      by_cases e : a = z
      · exact ⟨_, _, _, _, z, -y, a, L2, ⟨by omega, by omega, by omega, fun _ => by omega⟩, z0⟩
      · have hd2 : -y * -y - 4 * z * a < 0 := by
          have : -y * -y - 4 * z * a = y * y - 4 * a * z := by grind
          omega
        obtain ⟨p, q, r, s, x', y', z', l, L, px⟩ := ih z (-y) a (by omega) z0 hd2
        exact ⟨_, _, _, _, x', y', z', L2.trans l, L, px⟩
end CM
namespace ME
theorem gcd_step (a b t : Int) : Int.gcd b (a - t * b) = Int.gcd a b := by
  refine Nat.dvd_antisymm (Int.dvd_gcd ?_ ?_) (Int.dvd_gcd ?_ ?_)
  · have h1 := Int.gcd_dvd_left b (a - t * b)
    have h2 := Int.gcd_dvd_right b (a - t * b)
    have := Int.dvd_add h2 (Int.dvd_mul_of_dvd_right h1 (b := t))
    have e : a - t * b + t * b = a := by omega
    rwa [e] at this
  · exact Int.gcd_dvd_left _ _
  · exact Int.gcd_dvd_right _ _
  · exact Int.dvd_sub (Int.gcd_dvd_left a b) (Int.dvd_mul_of_dvd_right (Int.gcd_dvd_right a b))
theorem bezN (n m : Nat) : ∃ x y : Int, x * n + y * m = (Nat.gcd n m : Nat) := by
  induction n, m using Nat.gcd.induction with
  | H0 n => exact ⟨0, 1, by simp⟩
  | H1 m n hm ih =>
    obtain ⟨x, y, h⟩ := ih
    refine ⟨y - x * (n / m : Nat), x, ?_⟩
    rw [Nat.gcd_rec, ← h]
    have e := Nat.div_add_mod n m
    have e' : (n : Int) = (m : Int) * (n / m : Nat) + (n % m : Nat) := by exact_mod_cast e.symm
    generalize ((n / m : Nat) : Int) = q at *
    generalize ((n % m : Nat) : Int) = r at *
    rw [e']
    grind
theorem bez (a b : Int) : ∃ x y : Int, x * a + y * b = (Int.gcd a b : Nat) := by
  obtain ⟨x, y, h⟩ := bezN a.natAbs b.natAbs
  have e : (Int.gcd a b : Nat) = Nat.gcd a.natAbs b.natAbs := rfl
  rw [e, ← h]
  rcases Int.natAbs_eq a with ha | ha <;> rcases Int.natAbs_eq b with hb | hb
  · exact ⟨x, y, by rw [← ha, ← hb]⟩
  · refine ⟨x, -y, ?_⟩
    have : ((b.natAbs : Nat) : Int) = -b := by omega
    rw [this, ← ha]
    grind
  · refine ⟨-x, y, ?_⟩
    have : ((a.natAbs : Nat) : Int) = -a := by omega
    rw [this, ← hb]
    grind
  · refine ⟨-x, -y, ?_⟩
    have h1 : ((a.natAbs : Nat) : Int) = -a := by omega
    have h2 : ((b.natAbs : Nat) : Int) = -b := by omega
    rw [h1, h2]
    grind
theorem abs_part {x y : Int} (h : x * y ≤ 0) : x.natAbs ≤ (x - y).natAbs := by
  have h1 : ¬ (0 < x ∧ 0 < y) := fun ⟨p, q⟩ => by have := Int.mul_pos p q; omega
  have h2 : ¬ (x < 0 ∧ y < 0) := fun ⟨p, q⟩ => by have := Int.mul_pos_of_neg_of_neg p q; omega
  omega
theorem fmod_facts {a b : Int} (hb : b ≠ 0) : (a - a.fdiv b * b).natAbs < b.natAbs ∧ 0 ≤ b * (a - a.fdiv b * b) := by
  have e : a - a.fdiv b * b = a.fmod b := by
    have := Int.fmod_def a b
    rw [this, Int.mul_comm]
  rw [e]
  rcases Int.lt_or_gt_of_ne hb with h | h
  · have h1 := Int.fmod_eq_emod (a := a) (b := b)
    have h2 := Int.emod_nonneg a hb
    have h3 : a % b < -b := by
      have := Int.emod_lt_of_pos a (show 0 < -b by omega)
      rwa [Int.emod_neg] at this
    by_cases hd : b ∣ a
    · rw [if_pos (.inr hd)] at h1
      have : a % b = 0 := Int.emod_eq_zero_of_dvd hd
      rw [h1, this]
      simp
      omega
    · rw [if_neg (by
        intro z
        rcases z with z | z
        · omega
        · exact hd z)] at h1
      have hne : a % b ≠ 0 := fun z => hd (Int.dvd_of_emod_eq_zero z)
      have k1 : a.fmod b ≤ 0 := by omega
      refine ⟨by omega, ?_⟩
      exact Int.mul_nonneg_of_nonpos_of_nonpos (by omega) k1
  · have h1 := Int.fmod_nonneg_of_pos a h
    have h2 := Int.fmod_lt_of_pos a h
    exact ⟨by omega, Int.mul_nonneg (by omega) h1⟩
theorem fdiv_nonneg' {a b : Int} (hb : b ≠ 0) (h : 0 ≤ a * b)  : 0 ≤ a.fdiv b := by
  obtain ⟨h1, h2⟩ := fmod_facts (a := a) hb
  refine Int.not_lt.mp fun z => ?_
  generalize a.fdiv b = t at *
  -- t ≤ -1: a - t b has the sign of b and is at least b in size
  rcases Int.lt_or_gt_of_ne hb with hn | hp
  · have ha : a ≤ 0 := by
      refine Int.not_lt.mp fun w => ?_
      have := Int.mul_neg_of_pos_of_neg w hn
      omega
    have : b * (t + 1) ≥ 0 := Int.mul_nonneg_of_nonpos_of_nonpos (by omega) (by omega)
    grind
  · have ha : 0 ≤ a := by
      refine Int.not_lt.mp fun w => ?_
      have := Int.mul_neg_of_neg_of_pos w hp
      omega
    have : b * (-(t + 1)) ≥ 0 := Int.mul_nonneg (by omega) (by omega)
    grind
structure EG (one other dv sh rs rsh : Int) : Prop where
  lin : ∃ V W : Int, dv = sh * one + V * other ∧ rs = rsh * one + W * other
  gcd : Int.gcd dv rs = Int.gcd one other
  ph : (dv = one ∧ sh = 1 ∧ rs = other ∧ rsh = 0) ∨ (0 ≤ dv * rs ∧ sh * rsh ≤ 0 ∧ dv ≠ 0 ∧ (dv * rsh - rs * sh).natAbs = other.natAbs ∧ dv.natAbs ≤ other.natAbs ∧ rs.natAbs ≤ other.natAbs)
  b1 : sh.natAbs ≤ other.natAbs + 1
  b2 : rsh.natAbs ≤ other.natAbs + 1
theorem EG.start (one other : Int) : EG one other one 1 other 0 := ⟨⟨0, 1, by omega, by omega⟩, rfl, .inl ⟨rfl, rfl, rfl, rfl⟩, by omega, by omega⟩
theorem EG.step {one other dv sh rs rsh : Int} (h : EG one other dv sh rs rsh) (hr : rs ≠ 0) : EG one other rs rsh (dv - dv.fdiv rs * rs) (sh - dv.fdiv rs * rsh) ∧ (dv - dv.fdiv rs * rs).natAbs < rs.natAbs := by
  obtain ⟨lt, sg⟩ := fmod_facts (a := dv) hr
  refine ⟨?_, lt⟩
  obtain ⟨⟨V, W, e1, e2⟩, g, ph, b1, b2⟩ := h
  have lin : ∃ V' W' : Int, rs = rsh * one + V' * other ∧ dv - dv.fdiv rs * rs = (sh - dv.fdiv rs * rsh) * one + W' * other := by
    generalize dv.fdiv rs = t at *
    exact ⟨W, V - t * W, e2, by rw [e1, e2]; grind⟩
  have gg := (gcd_step dv rs (dv.fdiv rs)).trans g
  rcases ph with ⟨rfl, rfl, rfl, rfl⟩ | ⟨p1, p2, p3, p4, p5, p6⟩
  · refine ⟨lin, gg, .inr ⟨sg, by omega, hr, ?_, by omega, by omega⟩, by omega, by omega⟩
    generalize dv.fdiv rs = t at *
    have : rs * (1 - t * 0) - (dv - t * rs) * 0 = rs := by grind
    rw [this]
  · have t0 := fdiv_nonneg' hr p1
    generalize dv.fdiv rs = t at *
    have q2 : rsh * (sh - t * rsh) ≤ 0 := by
      have k : 0 ≤ t * (rsh * rsh) := Int.mul_nonneg t0 (by
        rcases Int.le_total 0 rsh with z | z
        · exact Int.mul_nonneg z z
        · exact Int.mul_nonneg_of_nonpos_of_nonpos z z)
      grind
    have q4 : (rs * (sh - t * rsh) - (dv - t * rs) * rsh).natAbs = other.natAbs := by
      have : rs * (sh - t * rsh) - (dv - t * rs) * rsh = -(dv * rsh - rs * sh) := by grind
      rw [this, Int.natAbs_neg, p4]
    refine ⟨lin, gg, .inr ⟨sg, q2, hr, q4, p6, by omega⟩, b2, ?_⟩
    have k1 : (rs * (sh - t * rsh)) * ((dv - t * rs) * rsh) ≤ 0 := by
      have e : (rs * (sh - t * rsh)) * ((dv - t * rs) * rsh) = (rs * (dv - t * rs)) * (rsh * (sh - t * rsh)) := by grind
      rw [e]
      have := Int.mul_nonneg sg (show 0 ≤ -(rsh * (sh - t * rsh)) by omega)
      grind
    have k2 := abs_part k1
    rw [q4, Int.natAbs_mul] at k2
    have k3 : (sh - t * rsh).natAbs ≤ rs.natAbs * (sh - t * rsh).natAbs := Nat.le_mul_of_pos_left _ (by omega)
    omega
theorem EG.fin {one other dv sh : Int} {rsh : Int} (h : EG one other dv sh 0 rsh) : ∃ V : Int, dv = sh * one + V * other ∧ dv.natAbs = Int.gcd one other := by
  obtain ⟨V, W, e1, _⟩ := h.lin
  refine ⟨V, e1, ?_⟩
  rw [← h.gcd]
  simp
end ME
namespace MJ
abbrev W (a b c x y : Int) : Int := a * x * x + b * x * y + c * y * y
abbrev S (R0 R1 R2 R3 x y u v : Int) : Int := R0 * x * u + R1 * x * v + R2 * y * u + R3 * y * v
structure Comp (a b c d e f A B C X0 X1 X2 X3 Y0 Y1 Y2 Y3 : Int) : Prop where
  prod : ∀ x y u v : Int, W a b c x y * W d e f u v = W A B C (S X0 X1 X2 X3 x y u v) (S Y0 Y1 Y2 Y3 x y u v)
  m01 : X0 * Y1 - X1 * Y0 = a
  m02 : X0 * Y2 - X2 * Y0 = d
structure Pre (a b c d e f g a' d' h' m C s t z : Int) : Prop where
  ea : a = g * a'
  ed : d = g * d'
  eb : b = m - 2 * a' * s
  ee : e = m - 2 * d' * t
  eh : m - a' * s - d' * t = g * h'
  ec : g * c = a' * s * s - s * m + d' * C
  ef : g * f = d' * t * t - t * m + a' * C
  ez : s * t - C = g * z
theorem mul_cancel {g x y : Int} (hg : g ≠ 0) (h : g * x = g * y) : x = y := Int.eq_of_mul_eq_mul_left hg h
theorem comp_of {a b c d e f g a' d' h' m C s t z : Int} (hg : g ≠ 0) (p : Pre a b c d e f g a' d' h' m C s t z) :
    Comp a b c d e f (a' * d') m C g (-t) (-s) z 0 a' d' h' := by
  obtain ⟨rfl, rfl, rfl, rfl, eh, ec, ef, ez⟩ := p
  have k1 : g * a' * f = a' * (d' * t * t - t * m + a' * C) := by rw [← ef]; grind
  have k2 : g * d' * c = d' * (a' * s * s - s * m + d' * C) := by rw [← ec]; grind
  have k3 : (m - 2 * a' * s) * f = -2 * a' * d' * t * z + m * (-t * h' + z * a') + 2 * C * a' * h' := by
    refine mul_cancel hg ?_
    have e1 : g * ((m - 2 * a' * s) * f) = (m - 2 * a' * s) * (g * f) := by grind
    have e2 : g * (-2 * a' * d' * t * z + m * (-t * h' + z * a') + 2 * C * a' * h') = -2 * a' * d' * t * (g * z) + m * (-t * (g * h') + (g * z) * a') + 2 * C * a' * (g * h') := by grind
    rw [e1, e2, ef, ← ez, ← eh]
    grind
  have k4 : c * (m - 2 * d' * t) = -2 * a' * d' * s * z + m * (-s * h' + z * d') + 2 * C * d' * h' := by
    refine mul_cancel hg ?_
    have e1 : g * (c * (m - 2 * d' * t)) = (m - 2 * d' * t) * (g * c) := by grind
    have e2 : g * (-2 * a' * d' * s * z + m * (-s * h' + z * d') + 2 * C * d' * h') = -2 * a' * d' * s * (g * z) + m * (-s * (g * h') + (g * z) * d') + 2 * C * d' * (g * h') := by grind
    rw [e1, e2, ec, ← ez, ← eh]
    grind
  have k5 : c * f = a' * d' * z * z + m * z * h' + C * h' * h' := by
    refine mul_cancel hg (mul_cancel hg ?_)
    have e1 : g * (g * (c * f)) = (g * c) * (g * f) := by grind
    have e2 : g * (g * (a' * d' * z * z + m * z * h' + C * h' * h')) = a' * d' * (g * z) * (g * z) + m * (g * z) * (g * h') + C * (g * h') * (g * h') := by grind
    rw [e1, e2, ec, ef, ← ez, ← eh]
    grind
  have k6 : (m - 2 * a' * s) * (m - 2 * d' * t) = 2 * a' * d' * (g * z + s * t) + m * (g * h' - t * d' - s * a') + 2 * C * a' * d' := by
    rw [← ez, ← eh]
    grind
  refine ⟨fun x y u v => ?_, by grind, by grind⟩
  unfold W S
  have l : (g * a' * x * x + (m - 2 * a' * s) * x * y + c * y * y) * (g * d' * u * u + (m - 2 * d' * t) * u * v + f * v * v)
      = (g * a') * (g * d') * (x * x * u * u) + (g * a') * (m - 2 * d' * t) * (x * x * u * v) + (g * a' * f) * (x * x * v * v) + (m - 2 * a' * s) * (g * d') * (x * y * u * u) + ((m - 2 * a' * s) * (m - 2 * d' * t)) * (x * y * u * v) + ((m - 2 * a' * s) * f) * (x * y * v * v)
        + (g * d' * c) * (y * y * u * u) + (c * (m - 2 * d' * t)) * (y * y * u * v) + (c * f) * (y * y * v * v) := by grind
  rw [l, k1, k2, k3, k4, k5, k6]
  grind
theorem pre_of {a b c d e f g a' d' h' u v w k : Int} (hg : g ≠ 0) (ea : a = g * a') (ed : d = g * d') (eh : b + e = 2 * (g * h')) (hD : b * b - 4 * a * c = e * e - 4 * d * f) (hs : u * a' + v * d' + w * h' = 1) :
    Pre a b c d e f g a' d' h' (b + 2 * a' * (u * (g * h' - b) - c * w) - 2 * a' * d' * k) ((u * (g * h' - b) - c * w - d' * k) * (v * (g * h' - e) - f * w - a' * k) - g * (k * h' - (u * f + v * c)))
      (u * (g * h' - b) - c * w - d' * k) (v * (g * h' - e) - f * w - a' * k) (k * h' - (u * f + v * c)) ∧
    u * a * e + v * d * b + w * (b * (g * h') - 2 * a * c) = g * (b + 2 * a' * (u * (g * h' - b) - c * w)) := by
  subst ea ed
  have ee : e = 2 * (g * h') - b := by omega
  subst ee
  -- h (h - b) = d f - a c, in parts
  have q : g * h' * (g * h' - b) = g * d' * f - g * a' * c := by grind
  have q' : h' * (g * h' - b) = d' * f - a' * c := by
    refine mul_cancel hg ?_
    grind
  have B : b + 2 * a' * (u * (g * h' - b) - c * w) = 2 * (g * h') - b + 2 * d' * (v * (g * h' - (2 * (g * h') - b)) - f * w) := by
    have z : (g * h' - b) * (u * a' + v * d' + w * h') = g * h' - b := by rw [hs]; grind
    have z2 : w * (h' * (g * h' - b)) = w * (d' * f - a' * c) := by rw [q']
    grind
  have hc : c = -((u * (g * h' - b) - c * w) * h') + d' * (u * f + v * c) := by
    have z : c * (u * a' + v * d' + w * h') = c := by rw [hs]; grind
    have z2 : u * (h' * (g * h' - b)) = u * (d' * f - a' * c) := by rw [q']
    grind
  have hf : f = -((v * (g * h' - (2 * (g * h') - b)) - f * w) * h') + a' * (u * f + v * c) := by
    have z : f * (u * a' + v * d' + w * h') = f := by rw [hs]; grind
    have z2 : v * (h' * (g * h' - b)) = v * (d' * f - a' * c) := by rw [q']
    grind
  generalize hS : u * (g * h' - b) - c * w = s0 at *
  generalize hT : v * (g * h' - (2 * (g * h') - b)) - f * w = t0 at *
  generalize hZ : u * f + v * c = z0 at *
  refine ⟨⟨rfl, rfl, by grind, by grind, by grind, ?_, ?_, by grind⟩, ?_⟩
  · -- g c
    have e1 : (b + 2 * a' * s0 - 2 * a' * d' * k) - a' * (s0 - d' * k) - d' * (t0 - a' * k) = g * h' := by grind
    grind
  · have e1 : (b + 2 * a' * s0 - 2 * a' * d' * k) - a' * (s0 - d' * k) - d' * (t0 - a' * k) = g * h' := by grind
    grind
  · subst hS
    have z : (u * a' + v * d' + w * h') * b = b := by rw [hs]; grind
    grind
theorem pre_bar {a b c d e f g a' d' h' m C s t z : Int} (p : Pre a b c d e f g a' d' h' m C s t z) : m * m - (b * b - 4 * a * c) = 4 * (a' * d') * C := by
  obtain ⟨rfl, rfl, rfl, rfl, eh, ec, ef, ez⟩ := p
  grind
theorem pre_last {a b c d e f g a' d' h' m C s t z : Int} (p : Pre a b c d e f g a' d' h' m C s t z) : g * (b * e + (b * b - 4 * a * c) - m * (b + e)) = 4 * a * d * z := by
  have h := pre_bar p
  obtain ⟨rfl, rfl, rfl, rfl, eh, ec, ef, ez⟩ := p
  grind
structure Minors (a b c d e f X0 X1 X2 X3 Y0 Y1 Y2 Y3 : Int) : Prop where
  m01 : X0 * Y1 - X1 * Y0 = a
  m02 : X0 * Y2 - X2 * Y0 = d
  m03 : (X0 * Y3 - X3 * Y0) + (X1 * Y2 - X2 * Y1) = e
  m12 : (X0 * Y3 - X3 * Y0) - (X1 * Y2 - X2 * Y1) = b
  m13 : X1 * Y3 - X3 * Y1 = f
  m23 : X2 * Y3 - X3 * Y2 = c
theorem quart {d e f E F : Int} (hd : d ≠ 0) (h : ∀ u v : Int, W d E F u v * W d E F u v = W d e f u v * W d e f u v) : E = e ∧ F = f := by
  have h1 := h 1 1
  have h2 := h 1 (-1)
  have h3 := h 0 1
  have h4 := h 2 1
  unfold W at h1 h2 h3 h4
  have k1 : d * (E - e) = 0 := by grind
  have e1 : E = e := by
    rcases Int.mul_eq_zero.mp k1 with z | z
    · exact absurd z hd
    · omega
  subst e1
  have k2 : d * (F - f) = 0 := by grind
  rcases Int.mul_eq_zero.mp k2 with z | z
  · exact absurd z hd
  · exact ⟨rfl, by omega⟩
theorem Comp.swap {a b c d e f A B C X0 X1 X2 X3 Y0 Y1 Y2 Y3 : Int} (h : Comp a b c d e f A B C X0 X1 X2 X3 Y0 Y1 Y2 Y3) : Comp d e f a b c A B C X0 X2 X1 X3 Y0 Y2 Y1 Y3 := by
  refine ⟨fun x y u v => ?_, h.m02, h.m01⟩
  have e1 : S X0 X2 X1 X3 x y u v = S X0 X1 X2 X3 u v x y := by unfold S; grind
  have e2 : S Y0 Y2 Y1 Y3 x y u v = S Y0 Y1 Y2 Y3 u v x y := by unfold S; grind
  rw [e1, e2, ← h.prod, Int.mul_comm]
theorem Comp.half {a b c d e f A B C X0 X1 X2 X3 Y0 Y1 Y2 Y3 : Int} (h : Comp a b c d e f A B C X0 X1 X2 X3 Y0 Y1 Y2 Y3) (hd : d ≠ 0) (hD : b * b - 4 * a * c ≠ 0) (e1 : B * B - 4 * A * C = b * b - 4 * a * c) :
    (X0 * Y3 - X3 * Y0) + (X1 * Y2 - X2 * Y1) = e ∧ X1 * Y3 - X3 * Y1 = f := by
  refine quart (d := d) hd fun u v => ?_
  have p1 := h.prod 1 0 u v
  have p2 := h.prod 0 1 u v
  have p3 := h.prod 1 1 u v
  generalize hg : W d e f u v = g at *
  have hm : W d (X0 * Y3 - X3 * Y0 + (X1 * Y2 - X2 * Y1)) (X1 * Y3 - X3 * Y1) u v = (X0 * u + X1 * v) * (Y2 * u + Y3 * v) - (X2 * u + X3 * v) * (Y0 * u + Y1 * v) := by
    unfold W
    rw [← h.m02]
    grind
  rw [hm]
  have a1 : S X0 X1 X2 X3 1 0 u v = X0 * u + X1 * v := by unfold S; grind
  have a2 : S Y0 Y1 Y2 Y3 1 0 u v = Y0 * u + Y1 * v := by unfold S; grind
  have a3 : S X0 X1 X2 X3 0 1 u v = X2 * u + X3 * v := by unfold S; grind
  have a4 : S Y0 Y1 Y2 Y3 0 1 u v = Y2 * u + Y3 * v := by unfold S; grind
  have a5 : S X0 X1 X2 X3 1 1 u v = (X0 * u + X1 * v) + (X2 * u + X3 * v) := by unfold S; grind
  have a6 : S Y0 Y1 Y2 Y3 1 1 u v = (Y0 * u + Y1 * v) + (Y2 * u + Y3 * v) := by unfold S; grind
  rw [a1, a2] at p1
  rw [a3, a4] at p2
  rw [a5, a6] at p3
  generalize X0 * u + X1 * v = P at *
  generalize X2 * u + X3 * v = Q at *
  generalize Y0 * u + Y1 * v = R at *
  generalize Y2 * u + Y3 * v = T at *
  refine mul_cancel hD ?_
  have f1 : a * g = W A B C P R := by rw [← p1]; unfold W; grind
  have f2 : c * g = W A B C Q T := by rw [← p2]; unfold W; grind
  have f3 : b * g = 2 * A * P * Q + B * (P * T + Q * R) + 2 * C * R * T := by
    have : (a + b + c) * g = W A B C (P + Q) (R + T) := by rw [← p3]; unfold W; grind
    unfold W at *
    grind
  have f4 : (b * b - 4 * a * c) * (g * g) = (b * g) * (b * g) - 4 * (a * g) * (c * g) := by grind
  rw [f4, f1, f2, f3, ← e1]
  unfold W
  grind
theorem Comp.minors {a b c d e f A B C X0 X1 X2 X3 Y0 Y1 Y2 Y3 : Int} (h : Comp a b c d e f A B C X0 X1 X2 X3 Y0 Y1 Y2 Y3) (ha : a ≠ 0) (hd : d ≠ 0) (hD : b * b - 4 * a * c ≠ 0) (hE : e * e - 4 * d * f = b * b - 4 * a * c) (e1 : B * B - 4 * A * C = b * b - 4 * a * c) :
    Minors a b c d e f X0 X1 X2 X3 Y0 Y1 Y2 Y3 := by
  obtain ⟨h1, h2⟩ := h.half hd hD e1
  obtain ⟨h3, h4⟩ := h.swap.half ha (by rw [hE]; exact hD) (by rw [hE]; exact e1)
  exact ⟨h.m01, h.m02, h1, by rw [← h3]; grind, h2, h4⟩
structure Led (a b c p q r s a' b' c' : Int) : Prop where
  det : p * s - q * r = 1
  e1 : a' = W a b c p r
  e2 : b' = 2 * a * p * q + b * (p * s + q * r) + 2 * c * r * s
  e3 : c' = W a b c q s
theorem Led.at {a b c p q r s a' b' c' : Int} (h : Led a b c p q r s a' b' c') (x y : Int) : W a' b' c' x y = W a b c (p * x + q * y) (r * x + s * y) := by
  rw [h.e1, h.e2, h.e3]
  unfold W
  grind
theorem Comp.pull {a b c d e f A B C X0 X1 X2 X3 Y0 Y1 Y2 Y3 p q r s a' b' c' : Int} (h : Comp a b c d e f A B C X0 X1 X2 X3 Y0 Y1 Y2 Y3) (m : Minors a b c d e f X0 X1 X2 X3 Y0 Y1 Y2 Y3) (l : Led a b c p q r s a' b' c') :
    Comp a' b' c' d e f A B C (X0 * p + X2 * r) (X1 * p + X3 * r) (X0 * q + X2 * s) (X1 * q + X3 * s) (Y0 * p + Y2 * r) (Y1 * p + Y3 * r) (Y0 * q + Y2 * s) (Y1 * q + Y3 * s) := by
  refine ⟨fun x y u v => ?_, ?_, ?_⟩
  · rw [l.at, h.prod]
    have e1 : S X0 X1 X2 X3 (p * x + q * y) (r * x + s * y) u v = S (X0 * p + X2 * r) (X1 * p + X3 * r) (X0 * q + X2 * s) (X1 * q + X3 * s) x y u v := by unfold S; grind
    have e2 : S Y0 Y1 Y2 Y3 (p * x + q * y) (r * x + s * y) u v = S (Y0 * p + Y2 * r) (Y1 * p + Y3 * r) (Y0 * q + Y2 * s) (Y1 * q + Y3 * s) x y u v := by unfold S; grind
    rw [e1, e2]
  · rw [l.e1, ← m.m01, ← m.m12, ← m.m23]
    unfold W
    grind
  · have d := l.det
    rw [← m.m02]
    grind
theorem Comp.target {a b c d e f A B C X0 X1 X2 X3 Y0 Y1 Y2 Y3 p q r s A' B' C' : Int} (h : Comp a b c d e f A B C X0 X1 X2 X3 Y0 Y1 Y2 Y3) (l : Led A B C p q r s A' B' C') :
    Comp a b c d e f A' B' C' (s * X0 + -q * Y0) (s * X1 + -q * Y1) (s * X2 + -q * Y2) (s * X3 + -q * Y3) (-r * X0 + p * Y0) (-r * X1 + p * Y1) (-r * X2 + p * Y2) (-r * X3 + p * Y3) := by
  have d := l.det
  refine ⟨fun x y u v => ?_, ?_, ?_⟩
  · rw [l.at, h.prod]
    have e1 : p * S (s * X0 + -q * Y0) (s * X1 + -q * Y1) (s * X2 + -q * Y2) (s * X3 + -q * Y3) x y u v + q * S (-r * X0 + p * Y0) (-r * X1 + p * Y1) (-r * X2 + p * Y2) (-r * X3 + p * Y3) x y u v = (p * s - q * r) * S X0 X1 X2 X3 x y u v := by unfold S; grind
    have e2 : r * S (s * X0 + -q * Y0) (s * X1 + -q * Y1) (s * X2 + -q * Y2) (s * X3 + -q * Y3) x y u v + s * S (-r * X0 + p * Y0) (-r * X1 + p * Y1) (-r * X2 + p * Y2) (-r * X3 + p * Y3) x y u v = (p * s - q * r) * S Y0 Y1 Y2 Y3 x y u v := by unfold S; grind
    rw [e1, e2, d, Int.one_mul, Int.one_mul]
  · rw [← h.m01]
    have : (s * X0 + -q * Y0) * (-r * X1 + p * Y1) - (s * X1 + -q * Y1) * (-r * X0 + p * Y0) = (p * s - q * r) * (X0 * Y1 - X1 * Y0) := by grind
    rw [this, d, Int.one_mul]
  · rw [← h.m02]
    have : (s * X0 + -q * Y0) * (-r * X2 + p * Y2) - (s * X2 + -q * Y2) * (-r * X0 + p * Y0) = (p * s - q * r) * (X0 * Y2 - X2 * Y0) := by grind
    rw [this, d, Int.one_mul]
theorem cramer {Xi Xj Xk Yi Yj Yk Xi' Xj' Xk' Yi' Yj' Yk' : Int} (h1 : Xi * Yj - Xj * Yi = Xi' * Yj' - Xj' * Yi') (h2 : Xi * Yk - Xk * Yi = Xi' * Yk' - Xk' * Yi') (h3 : Xj * Yk - Xk * Yj = Xj' * Yk' - Xk' * Yj') :
    (Xi * Yj - Xj * Yi) * Xk' = (Xi' * Yj - Xj' * Yi) * Xk + (Xi * Xj' - Xj * Xi') * Yk := by
  have e : (Xi * Yj - Xj * Yi) * Xk' - ((Xi' * Yj - Xj' * Yi) * Xk + (Xi * Xj' - Xj * Xi') * Yk) = Xk' * (Xi * Yj - Xj * Yi) - Xj' * (Xi * Yk - Xk * Yi) + Xi' * (Xj * Yk - Xk * Yj) := by grind
  rw [h1, h2, h3] at e
  grind
theorem form_zero {α β γ X0 Y0 X1 Y1 a : Int} (ha : a ≠ 0) (hm : X0 * Y1 - X1 * Y0 = a) (h0 : W α β γ X0 Y0 = 0) (h1 : W α β γ X1 Y1 = 0) (h2 : W α β γ (X0 + X1) (Y0 + Y1) = 0) : α = 0 ∧ β = 0 ∧ γ = 0 := by
  have hB : 2 * α * X0 * X1 + β * (X0 * Y1 + X1 * Y0) + 2 * γ * Y0 * Y1 = 0 := by
    unfold W at *
    grind
  have key : ∀ x y : Int, a * a * W α β γ x y = 0 := fun x y => by
    have : a * a * W α β γ x y = (x * Y1 - y * X1) * (x * Y1 - y * X1) * W α β γ X0 Y0 + (x * Y1 - y * X1) * (y * X0 - x * Y0) * (2 * α * X0 * X1 + β * (X0 * Y1 + X1 * Y0) + 2 * γ * Y0 * Y1) + (y * X0 - x * Y0) * (y * X0 - x * Y0) * W α β γ X1 Y1 := by
      rw [← hm]
      unfold W
      grind
    rw [this, h0, h1, hB]
    grind
  have z : ∀ x y : Int, W α β γ x y = 0 := fun x y => by
    rcases Int.mul_eq_zero.mp (key x y) with q | q
    · rcases Int.mul_eq_zero.mp q with q | q <;> exact absurd q ha
    · exact q
  have z1 := z 1 0
  have z2 := z 0 1
  have z3 := z 1 1
  unfold W at z1 z2 z3
  omega
theorem told {X0 X1 X2 X3 Y0 Y1 Y2 Y3 X0' X1' X2' X3' Y0' Y1' Y2' Y3' Xk Yk Xk' Yk' l1 l2 l3 : Int}
    (k01 : X0 * Y1 - X1 * Y0 = X0' * Y1' - X1' * Y0') (k03 : X0 * Y3 - X3 * Y0 = X0' * Y3' - X3' * Y0') (k12 : X1 * Y2 - X2 * Y1 = X1' * Y2' - X2' * Y1') (k23 : X2 * Y3 - X3 * Y2 = X2' * Y3' - X3' * Y2')
    (g0 : X0 * Yk - Xk * Y0 = X0' * Yk' - Xk' * Y0') (g1 : X1 * Yk - Xk * Y1 = X1' * Yk' - Xk' * Y1') (g2 : X2 * Yk - Xk * Y2 = X2' * Yk' - Xk' * Y2') (g3 : X3 * Yk - Xk * Y3 = X3' * Yk' - Xk' * Y3')
    (one : l1 * (X0 * Y1 - X1 * Y0) + l2 * (X0 * Y3 - X3 * Y0) - l2 * (X1 * Y2 - X2 * Y1) + l3 * (X2 * Y3 - X3 * Y2) = 1) :
    Xk' = (l1 * (X0' * Y1 - X1' * Y0) + l2 * (X0' * Y3 - X3' * Y0) - l2 * (X1' * Y2 - X2' * Y1) + l3 * (X2' * Y3 - X3' * Y2)) * Xk + (l1 * (X0 * X1' - X1 * X0') + l2 * (X0 * X3' - X3 * X0') - l2 * (X1 * X2' - X2 * X1') + l3 * (X2 * X3' - X3 * X2')) * Yk := by
  have c1 := cramer k01 g0 g1
  have c2 := cramer k03 g0 g3
  have c3 := cramer k12 g1 g2
  have c4 := cramer k23 g2 g3
  have e : Xk' = (l1 * (X0 * Y1 - X1 * Y0) + l2 * (X0 * Y3 - X3 * Y0) - l2 * (X1 * Y2 - X2 * Y1) + l3 * (X2 * Y3 - X3 * Y2)) * Xk' := by rw [one, Int.one_mul]
  have e2 : (l1 * (X0 * Y1 - X1 * Y0) + l2 * (X0 * Y3 - X3 * Y0) - l2 * (X1 * Y2 - X2 * Y1) + l3 * (X2 * Y3 - X3 * Y2)) * Xk' = l1 * ((X0 * Y1 - X1 * Y0) * Xk') + l2 * ((X0 * Y3 - X3 * Y0) * Xk') - l2 * ((X1 * Y2 - X2 * Y1) * Xk') + l3 * ((X2 * Y3 - X3 * Y2) * Xk') := by grind
  rw [e2, c1, c2, c3, c4] at e
  rw [e]
  grind
theorem comp_one {a b c d e f A B C X0 X1 X2 X3 Y0 Y1 Y2 Y3 A' B' C' X0' X1' X2' X3' Y0' Y1' Y2' Y3' l1 l2 l3 : Int}
    (h : Comp a b c d e f A B C X0 X1 X2 X3 Y0 Y1 Y2 Y3) (h' : Comp a b c d e f A' B' C' X0' X1' X2' X3' Y0' Y1' Y2' Y3') (m : Minors a b c d e f X0 X1 X2 X3 Y0 Y1 Y2 Y3) (m' : Minors a b c d e f X0' X1' X2' X3' Y0' Y1' Y2' Y3')
    (ha : a ≠ 0) (hl : l1 * a + l2 * b + l3 * c = 1) : ∃ p q r s : Int, Led A' B' C' p q r s A B C := by
  obtain ⟨m01, m02, m03, m12, m13, m23⟩ := m
  obtain ⟨n01, n02, n03, n12, n13, n23⟩ := m'
  have k03 : X0 * Y3 - X3 * Y0 = X0' * Y3' - X3' * Y0' := by omega
  have k12 : X1 * Y2 - X2 * Y1 = X1' * Y2' - X2' * Y1' := by omega
  have k01 := m01.trans n01.symm
  have k02 := m02.trans n02.symm
  have k13 := m13.trans n13.symm
  have k23 := m23.trans n23.symm
  have one : l1 * (X0 * Y1 - X1 * Y0) + l2 * (X0 * Y3 - X3 * Y0) - l2 * (X1 * Y2 - X2 * Y1) + l3 * (X2 * Y3 - X3 * Y2) = 1 := by rw [m01, m23, ← hl, ← m12]; grind
  have x0 := told (Xk := X0) (Yk := Y0) (Xk' := X0') (Yk' := Y0') k01 k03 k12 k23 (by omega) (by omega) (by omega) (by omega) one
  have x1 := told (Xk := X1) (Yk := Y1) (Xk' := X1') (Yk' := Y1') k01 k03 k12 k23 (by omega) (by omega) (by omega) (by omega) one
  -- the other row: by Y' and -X'
  have j01 : X0 * Y1 - X1 * Y0 = Y0' * -X1' - Y1' * -X0' := by rw [k01]; grind
  have j03 : X0 * Y3 - X3 * Y0 = Y0' * -X3' - Y3' * -X0' := by rw [k03]; grind
  have j12 : X1 * Y2 - X2 * Y1 = Y1' * -X2' - Y2' * -X1' := by rw [k12]; grind
  have j23 : X2 * Y3 - X3 * Y2 = Y2' * -X3' - Y3' * -X2' := by rw [k23]; grind
  have j02 : X0 * Y2 - X2 * Y0 = Y0' * -X2' - Y2' * -X0' := by rw [k02]; grind
  have j13 : X1 * Y3 - X3 * Y1 = Y1' * -X3' - Y3' * -X1' := by rw [k13]; grind
  have y0 := told (Xk := X0) (Yk := Y0) (Xk' := Y0') (Yk' := -X0') j01 j03 j12 j23 (by omega) (by omega) (by omega) (by omega) one
  have y1 := told (Xk := X1) (Yk := Y1) (Xk' := Y1') (Yk' := -X1') j01 j03 j12 j23 (by omega) (by omega) (by omega) (by omega) one
  generalize l1 * (X0' * Y1 - X1' * Y0) + l2 * (X0' * Y3 - X3' * Y0) - l2 * (X1' * Y2 - X2' * Y1) + l3 * (X2' * Y3 - X3' * Y2) = p at *
  generalize l1 * (X0 * X1' - X1 * X0') + l2 * (X0 * X3' - X3 * X0') - l2 * (X1 * X2' - X2 * X1') + l3 * (X2 * X3' - X3 * X2') = q at *
  generalize l1 * (Y0' * Y1 - Y1' * Y0) + l2 * (Y0' * Y3 - Y3' * Y0) - l2 * (Y1' * Y2 - Y2' * Y1) + l3 * (Y2' * Y3 - Y3' * Y2) = r at *
  generalize l1 * (X0 * Y1' - X1 * Y0') + l2 * (X0 * Y3' - X3 * Y0') - l2 * (X1 * Y2' - X2 * Y1') + l3 * (X2 * Y3' - X3 * Y2') = s at *
  have det : p * s - q * r = 1 := by
    refine mul_cancel ha ?_
    have e1 : X0' * Y1' - X1' * Y0' = (p * s - q * r) * (X0 * Y1 - X1 * Y0) := by rw [x0, x1, y0, y1]; grind
    rw [n01, m01] at e1
    grind
  -- the two forms at the rows' places
  have at_ : ∀ u v : Int, W A B C (X0 * u + X1 * v) (Y0 * u + Y1 * v) = W A' B' C' (p * (X0 * u + X1 * v) + q * (Y0 * u + Y1 * v)) (r * (X0 * u + X1 * v) + s * (Y0 * u + Y1 * v)) := fun u v => by
    have p1 := (h.prod 1 0 u v).symm.trans (h'.prod 1 0 u v)
    have a1 : S X0 X1 X2 X3 1 0 u v = X0 * u + X1 * v := by unfold S; grind
    have a2 : S Y0 Y1 Y2 Y3 1 0 u v = Y0 * u + Y1 * v := by unfold S; grind
    have a3 : S X0' X1' X2' X3' 1 0 u v = p * (X0 * u + X1 * v) + q * (Y0 * u + Y1 * v) := by unfold S; rw [x0, x1]; grind
    have a4 : S Y0' Y1' Y2' Y3' 1 0 u v = r * (X0 * u + X1 * v) + s * (Y0 * u + Y1 * v) := by unfold S; rw [y0, y1]; grind
    rw [a1, a2, a3, a4] at p1
    exact p1
  have z : ∀ x y : Int, W (A - W A' B' C' p r) (B - (2 * A' * p * q + B' * (p * s + q * r) + 2 * C' * r * s)) (C - W A' B' C' q s) x y = W A B C x y - W A' B' C' (p * x + q * y) (r * x + s * y) := fun x y => by unfold W; grind
  have z0 := at_ 1 0
  have z1 := at_ 0 1
  have z2 := at_ 1 1
  simp only [Int.mul_one, Int.mul_zero, Int.add_zero, Int.zero_add] at z0 z1 z2
  obtain ⟨e1, e2, e3⟩ := form_zero (α := A - W A' B' C' p r) (β := B - (2 * A' * p * q + B' * (p * s + q * r) + 2 * C' * r * s)) (γ := C - W A' B' C' q s) ha m01 (by rw [z]; omega) (by rw [z]; omega) (by rw [z]; omega)
  exact ⟨p, q, r, s, det, by omega, by omega, by omega⟩
theorem even_sum {b e a c d f : Int} (hD : b * b - 4 * a * c = e * e - 4 * d * f) : ∃ h, b + e = 2 * h := by
  rcases Int.emod_two_eq b with h1 | h1 <;> rcases Int.emod_two_eq e with h2 | h2
  · exact ⟨(b + e) / 2, by omega⟩
  · exfalso
    have e1 : b = 2 * (b / 2) := by omega
    have e2 : e = 2 * (e / 2) + 1 := by omega
    generalize b / 2 = x at *
    generalize e / 2 = y at *
    subst e1 e2
    have : 4 * (x * x - a * c - y * y - y + d * f) = 1 := by grind
    omega
  · exfalso
    have e1 : b = 2 * (b / 2) + 1 := by omega
    have e2 : e = 2 * (e / 2) := by omega
    generalize b / 2 = x at *
    generalize e / 2 = y at *
    subst e1 e2
    have : 4 * (y * y - d * f - x * x - x + a * c) = 1 := by grind
    omega
  · exact ⟨(b + e) / 2, by omega⟩
theorem div_of {x y z : Int} (hy : y ≠ 0) (h : x = y * z) : x / y = z := by rw [h]; exact Int.mul_ediv_cancel_left z hy
theorem j1 {g u v w a' d' h' : Int} (hs : g = u * (g * a') + v * (g * d') + w * (g * h')) : g * (u * a' + v * d' + w * h') = g * 1 := by grind
theorem j2 {b e g h' : Int} (eh : b + e = 2 * (g * h')) : b + e = 2 * g * h' := by grind
theorem j3 {b e g h' X : Int} (eh : b + e = 2 * (g * h')) : b * e + (b * b - 4 * X) = 2 * (b * (g * h') - 2 * X) := by
  have : e = 2 * (g * h') - b := by omega
  rw [this]
  grind
theorem j4 {g e m d' t : Int} (h : e = m - 2 * d' * t) : g * (e - m) = 2 * (g * d') * -t := by subst h; grind
theorem j5 (B a' d' k : Int) : B - 2 * (a' * d') * k = B - 2 * a' * d' * k := by grind
theorem joint {a b c d e f g u v w : Int} (ha : 0 < a) (hd : 0 < d) (hD : b * b - 4 * a * c = e * e - 4 * d * f) (hg : 0 < g) (ga : g ∣ a) (gd : g ∣ d) (gh : g ∣ (b + e) / 2) (hs : g = u * a + v * d + w * ((b + e) / 2)) (m first C : Int) (e1 : first = a / g * (d / g))
    (e2 : m = (u * a * e + v * d * b + w * ((b * e + (b * b - 4 * a * c)) / 2)) / g % (2 * first)) (e3 : C = (m * m - (b * b - 4 * a * c)) / (4 * first)) :
    0 < first ∧ 0 ≤ m ∧ m < 2 * first ∧ m * m - 4 * first * C = b * b - 4 * a * c ∧
    Comp a b c d e f first m C g (g * (e - m) / (2 * d)) (g * (b - m) / (2 * a)) (g * (b * e + (b * b - 4 * a * c) - m * (b + e)) / (4 * a * d)) 0 (a / g) (d / g) ((b + e) / (2 * g)) := by
  obtain ⟨h, eh⟩ := even_sum hD
  have eh2 : (b + e) / 2 = h := by omega
  rw [eh2] at gh hs
  obtain ⟨a', ea⟩ := ga
  obtain ⟨d', ed⟩ := gd
  obtain ⟨h', ehh⟩ := gh
  have g0 : g ≠ 0 := by omega
  have a1 : a / g = a' := div_of g0 ea
  have d1 : d / g = d' := div_of g0 ed
  have h1 : (b + e) / (2 * g) = h' := div_of (by omega) (j2 (by rw [eh, ehh]))
  have apos : 0 < a' := by
    refine Int.not_le.mp fun z => ?_
    have := Int.mul_nonpos_of_nonneg_of_nonpos (show 0 ≤ g by omega) z
    omega
  have dpos : 0 < d' := by
    refine Int.not_le.mp fun z => ?_
    have := Int.mul_nonpos_of_nonneg_of_nonpos (show 0 ≤ g by omega) z
    omega
  have shares : u * a' + v * d' + w * h' = 1 := by
    refine mul_cancel g0 (j1 ?_)
    rw [← ea, ← ed, ← ehh]
    exact hs
  rw [a1, d1] at e1
  have fpos : 0 < first := by rw [e1]; exact Int.mul_pos apos dpos
  have hX : (b * e + (b * b - 4 * a * c)) / 2 = b * (g * h') - 2 * a * c := by
    refine div_of (by decide) ?_
    have := j3 (X := a * c) (show b + e = 2 * (g * h') by rw [eh, ehh])
    have r1 : 4 * a * c = 4 * (a * c) := Int.mul_assoc 4 a c
    have r2 : 2 * a * c = 2 * (a * c) := Int.mul_assoc 2 a c
    rw [r1, r2]
    exact this
  obtain ⟨P, tot⟩ := pre_of (a := a) (b := b) (c := c) (d := d) (e := e) (f := f) (k := (b + 2 * a' * (u * (g * h' - b) - c * w)) / (2 * first)) g0 ea ed (by rw [eh, ehh]) hD shares
  rw [hX, div_of g0 tot] at e2
  have em : m = b + 2 * a' * (u * (g * h' - b) - c * w) - 2 * a' * d' * ((b + 2 * a' * (u * (g * h' - b) - c * w)) / (2 * first)) := by
    rw [e2, Int.emod_def]
    conv => lhs; arg 2; arg 1; rw [e1]
    exact j5 _ _ _ _
  rw [← em] at P
  generalize (u * (g * h' - b) - c * w - d' * ((b + 2 * a' * (u * (g * h' - b) - c * w)) / (2 * first))) = s at P
  generalize (v * (g * h' - e) - f * w - a' * ((b + 2 * a' * (u * (g * h' - b) - c * w)) / (2 * first))) = t at P
  generalize ((b + 2 * a' * (u * (g * h' - b) - c * w)) / (2 * first)) * h' - (u * f + v * c) = z at P
  have hbar := pre_bar P
  have eC : C = s * t - g * z := by
    rw [e3]
    refine div_of (by omega) ?_
    rw [e1, hbar]
  have hlast := pre_last P
  have x1 : g * (e - m) / (2 * d) = -t := div_of (by omega) (by rw [ed]; exact j4 P.ee)
  have x2 : g * (b - m) / (2 * a) = -s := div_of (by omega) (by rw [ea]; exact j4 P.eb)
  have x3 : g * (b * e + (b * b - 4 * a * c) - m * (b + e)) / (4 * a * d) = z := div_of (by
    have := Int.mul_pos (show 0 < 4 * a by omega) hd
    omega) hlast
  rw [x1, x2, x3, a1, d1, h1]
  have cm := comp_of g0 P
  rw [← eC, ← e1] at cm
  have m0 : 0 ≤ m := by rw [e2]; exact Int.emod_nonneg _ (by omega)
  have m1 : m < 2 * first := by rw [e2]; exact Int.emod_lt_of_pos _ (by omega)
  refine ⟨fpos, m0, m1, ?_, cm⟩
  rw [← eC, ← e1] at hbar
  omega
theorem comp_agree (a b d k : Int) : Comp a b (d * k) d b (a * k) (a * d) b k 1 0 0 (-k) 0 a d b := by
  refine ⟨fun x y u v => ?_, by grind, by grind⟩
  unfold W S
  grind
end MJ
namespace MJ
structure Fm (D a b c : Int) : Prop where
  pos : 0 < a
  bar : b * b - 4 * a * c = D
def CompE (a b c d e f A B C : Int) : Prop := ∃ X0 X1 X2 X3 Y0 Y1 Y2 Y3 : Int, Comp a b c d e f A B C X0 X1 X2 X3 Y0 Y1 Y2 Y3
theorem CompE.swap {a b c d e f A B C : Int} (h : CompE a b c d e f A B C) : CompE d e f a b c A B C := by
  obtain ⟨X0, X1, X2, X3, Y0, Y1, Y2, Y3, h⟩ := h
  exact ⟨_, _, _, _, _, _, _, _, h.swap⟩
theorem CompE.pull {D a b c d e f A B C p q r s a' b' c' : Int} (hD : D < 0) (h : CompE a b c d e f A B C) (f1 : Fm D a b c) (f2 : Fm D d e f) (f3 : Fm D A B C) (l : Led a b c p q r s a' b' c') : CompE a' b' c' d e f A B C := by
  obtain ⟨X0, X1, X2, X3, Y0, Y1, Y2, Y3, h⟩ := h
  have p1 := f1.pos
  have p2 := f2.pos
  have m := h.minors (by omega) (by omega) (by rw [f1.bar]; omega) (by rw [f1.bar, f2.bar]) (by rw [f1.bar, f3.bar])
  exact ⟨_, _, _, _, _, _, _, _, h.pull m l⟩
theorem CompE.one {D a b c d e f A B C A' B' C' l1 l2 l3 : Int} (hD : D < 0) (h : CompE a b c d e f A B C) (h' : CompE a b c d e f A' B' C') (f1 : Fm D a b c) (f2 : Fm D d e f) (f3 : Fm D A B C) (f4 : Fm D A' B' C') (hl : l1 * a + l2 * b + l3 * c = 1) :
    ∃ p q r s : Int, Led A' B' C' p q r s A B C := by
  obtain ⟨X0, X1, X2, X3, Y0, Y1, Y2, Y3, h⟩ := h
  obtain ⟨X0', X1', X2', X3', Y0', Y1', Y2', Y3', h'⟩ := h'
  have p1 := f1.pos
  have p2 := f2.pos
  have m := h.minors (by omega) (by omega) (by rw [f1.bar]; omega) (by rw [f1.bar, f2.bar]) (by rw [f1.bar, f3.bar])
  have m' := h'.minors (by omega) (by omega) (by rw [f1.bar]; omega) (by rw [f1.bar, f2.bar]) (by rw [f1.bar, f4.bar])
  exact comp_one h h' m m' (by omega) hl
theorem Led.bar {a b c p q r s a' b' c' : Int} (h : Led a b c p q r s a' b' c') : b' * b' - 4 * a' * c' = b * b - 4 * a * c := by
  obtain ⟨d, rfl, rfl, rfl⟩ := h
  unfold W
  have : (2 * a * p * q + b * (p * s + q * r) + 2 * c * r * s) * (2 * a * p * q + b * (p * s + q * r) + 2 * c * r * s) - 4 * (a * p * p + b * p * r + c * r * r) * (a * q * q + b * q * s + c * s * s) = (b * b - 4 * a * c) * ((p * s - q * r) * (p * s - q * r)) := by grind
  rw [this, d]
  omega
theorem comp_bare {a b c d e f A B C n : Int} (h : CompE a b c d e f A B C) {l1 l2 l3 m1 m2 m3 : Int} (hl : l1 * a + l2 * b + l3 * c = 1) (hm : m1 * d + m2 * e + m3 * f = 1) (hA : n ∣ A) (hB : n ∣ B) (hC : n ∣ C) : n ∣ 1 := by
  obtain ⟨X0, X1, X2, X3, Y0, Y1, Y2, Y3, h⟩ := h
  have all : ∀ x y u v : Int, n ∣ W a b c x y * W d e f u v := fun x y u v => by
    rw [h.prod]
    generalize S X0 X1 X2 X3 x y u v = X
    generalize S Y0 Y1 Y2 Y3 x y u v = Y
    unfold W
    exact Int.dvd_add (Int.dvd_add (Int.dvd_mul_of_dvd_left (Int.dvd_mul_of_dvd_left hA)) (Int.dvd_mul_of_dvd_left (Int.dvd_mul_of_dvd_left hB))) (Int.dvd_mul_of_dvd_left (Int.dvd_mul_of_dvd_left hC))
  have one : (1 : Int) = (l1 * a + l2 * b + l3 * c) * (m1 * d + m2 * e + m3 * f) := by rw [hl, hm]; rfl
  have ea : ∀ g : Int, n ∣ W a b c 1 0 * g → n ∣ W a b c 0 1 * g → n ∣ W a b c 1 1 * g → n ∣ (l1 * a + l2 * b + l3 * c) * g := fun g h1 h2 h3 => by
    have e1 : (l1 * a + l2 * b + l3 * c) * g = (l1 - l2) * (W a b c 1 0 * g) + l2 * (W a b c 1 1 * g) + (l3 - l2) * (W a b c 0 1 * g) := by unfold W; grind
    rw [e1]
    exact Int.dvd_add (Int.dvd_add (Int.dvd_mul_of_dvd_right h1) (Int.dvd_mul_of_dvd_right h3)) (Int.dvd_mul_of_dvd_right h2)
  have eb : ∀ g : Int, n ∣ g * W d e f 1 0 → n ∣ g * W d e f 0 1 → n ∣ g * W d e f 1 1 → n ∣ g * (m1 * d + m2 * e + m3 * f) := fun g h1 h2 h3 => by
    have e1 : g * (m1 * d + m2 * e + m3 * f) = (m1 - m2) * (g * W d e f 1 0) + m2 * (g * W d e f 1 1) + (m3 - m2) * (g * W d e f 0 1) := by unfold W; grind
    rw [e1]
    exact Int.dvd_add (Int.dvd_add (Int.dvd_mul_of_dvd_right h1) (Int.dvd_mul_of_dvd_right h3)) (Int.dvd_mul_of_dvd_right h2)
  rw [one]
  refine ea _ ?_ ?_ ?_
  · exact eb _ (all 1 0 1 0) (all 1 0 0 1) (all 1 0 1 1)
  · exact eb _ (all 0 1 1 0) (all 0 1 0 1) (all 0 1 1 1)
  · exact eb _ (all 1 1 1 0) (all 1 1 0 1) (all 1 1 1 1)
end MJ
namespace CM
open PySem PySem.Spec L2 FL FT
structure FormJ (a b c : Int) : Prop where
  pos : 0 < a
  bar : b * b - 4 * a * c < 0
  sa : Bd a 1450
  sb : Bd b 1450
  sc : Bd c 1450
  sd : Bd (b * b - 4 * a * c) 1200
  bare : Int.gcd (Int.gcd a b) c = 1
theorem FormJ.s {a b c : Int} (h : FormJ a b c) : FormS a b c := ⟨h.pos, h.bar, h.sa.up _ (by decide), h.sb.up _ (by decide), h.sc.up _ (by decide), h.sd⟩
theorem FormJ.n {a b c : Int} (h : FormJ a b c) : FormN a b c := h.s.n
theorem FormJ.bez {a b c : Int} (h : FormJ a b c) : ∃ l1 l2 l3 : Int, l1 * a + l2 * b + l3 * c = 1 := by
  obtain ⟨x, y, e1⟩ := ME.bez a b
  obtain ⟨z, w, e2⟩ := ME.bez (Int.gcd a b) c
  refine ⟨z * x, z * y, w, ?_⟩
  rw [h.bare, ← e1] at e2
  have : (1 : Int) = z * (x * a + y * b) + w * c := e2.symm
  rw [this]
  grind
def pre_dws (ds : List D) : Prop := ∃ one other : Int, ds = [.int one, .int other] ∧ Bd one 1460 ∧ Bd other 1460
def post_dws (ds : List D) (d : D) : Prop := ∀ one other : Int, ds = [.int one, .int other] → ∃ g u v : Int, d = .tup [.int g, .int u, .int v] ∧ g = (Int.gcd one other : Nat) ∧ g = u * one + v * other ∧ Bd u 1461 ∧ Bd v 2925
theorem fz_dws {ds : List D} {d : D} {one other : Int} (hd : ds = [.int one, .int other]) (h : post_dws ds d) : Fz d := by
  obtain ⟨g, u, v, rfl, _⟩ := h one other hd
  exact fz_ints [g, u, v]
theorem bd_succ {x y : Int} {m : Nat} (hy : Bd y m) (h : x.natAbs ≤ y.natAbs + 1) : Bd x (m + 1) := by
  refine .of_lt ?_
  have h1 := intBits_le_iff.mp hy.lt
  rw [Nat.pow_succ]
  have : 1 ≤ 2 ^ m := Nat.one_le_two_pow
  omega
theorem eg_bd {one other dv sh rs rsh : Int} (h : ME.EG one other dv sh rs rsh) (h1 : Bd one 1460) (h2 : Bd other 1460) : Bd dv 1460 ∧ Bd rs 1460 ∧ Bd sh 1461 ∧ Bd rsh 1461 := by
  refine ⟨?_, ?_, bd_succ h2 h.b1, bd_succ h2 h.b2⟩
  · rcases h.ph with ⟨e, _⟩ | ⟨_, _, _, _, e, _⟩
    · rw [e]; exact h1
    · exact h2.le e
  · rcases h.ph with ⟨_, _, e, _⟩ | ⟨_, _, _, _, _, e⟩
    · rw [e]; exact h2
    · exact h2.le e
theorem times_bd {dv rs : Int} {m : Nat} (hr : rs ≠ 0) (h : Bd dv m) : Bd (dv.fdiv rs) (m + 1) := by
  refine bd_succ h ?_
  obtain ⟨h1, _⟩ := ME.fmod_facts (a := dv) hr
  generalize dv.fdiv rs = t at *
  refine Nat.not_lt.mp fun z => ?_
  have k1 : (dv.natAbs + 2) * rs.natAbs ≤ t.natAbs * rs.natAbs := Nat.mul_le_mul_right _ z
  rw [← Int.natAbs_mul] at k1
  have k2 : dv.natAbs ≤ dv.natAbs * rs.natAbs := Nat.le_mul_of_pos_right _ (by omega)
  rw [Nat.add_mul] at k1
  omega
def pre_joined (ds : List D) : Prop := ∃ a b c d e f : Int, ds = [formD a b c, formD d e f] ∧ FormJ a b c ∧ FormJ d e f ∧ b * b - 4 * a * c = e * e - 4 * d * f
def post_joint_divisor (ds : List D) (r : D) : Prop := ∀ a b c d e f : Int, ds = [formD a b c, formD d e f] → ∃ g u v w : Int, r = .tup [.int g, .int u, .int v, .int w] ∧ 0 < g ∧ g ∣ a ∧ g ∣ d ∧ g ∣ (b + e) / 2 ∧ g = u * a + v * d + w * ((b + e) / 2) ∧ Bd g 1450 ∧ Bd u 2922 ∧ Bd v 4386 ∧ Bd w 2925
def p_joint_middle (ds : List D) (r : D) : Prop := ∃ a b c d e f g u v w : Int, ds = [formD a b c, formD d e f, .tup [.int g, .int u, .int v, .int w]] ∧ FormJ a b c ∧ FormJ d e f ∧ 0 < g ∧ Bd g 1450 ∧ Bd u 2922 ∧ Bd v 4386 ∧ Bd w 2925 ∧
  r = .int ((u * a * e + v * d * b + w * ((b * e + (b * b - 4 * a * c)) / 2)) / g)
def p_joint_rows (ds es : List D) : Prop := ∃ a b c d e f g m : Int, ds = [formD a b c, formD d e f, .int g, .int m] ∧ FormJ a b c ∧ FormJ d e f ∧ 0 < g ∧ Bd g 1450 ∧ Bd m 2901 ∧
  es = [plD g 0, plD (g * (e - m) / (2 * d)) (a / g), plD (g * (b - m) / (2 * a)) (d / g), plD (g * (b * e + (b * b - 4 * a * c) - m * (b + e)) / (4 * a * d)) ((b + e) / (2 * g))]
structure Joint (a b c d e f A B C X0 X1 X2 X3 Y0 Y1 Y2 Y3 : Int) : Prop where
  least : MT.Least A B C
  s : FormS A B C
  bar : B * B - 4 * A * C = b * b - 4 * a * c
  comp : MJ.Comp a b c d e f A B C X0 X1 X2 X3 Y0 Y1 Y2 Y3
  x0 : Bd X0 13000
  x1 : Bd X1 13000
  x2 : Bd X2 13000
  x3 : Bd X3 13000
  y0 : Bd Y0 13000
  y1 : Bd Y1 13000
  y2 : Bd Y2 13000
  y3 : Bd Y3 13000
def post_joined (ds : List D) (r : D) : Prop := ∀ a b c d e f : Int, ds = [formD a b c, formD d e f] → ∃ A B C X0 X1 X2 X3 Y0 Y1 Y2 Y3 : Int, r = .tup [formD A B C, turD X0 X1 X2 X3, turD Y0 Y1 Y2 Y3] ∧ Joint a b c d e f A B C X0 X1 X2 X3 Y0 Y1 Y2 Y3
theorem fz_joined {ds : List D} {r : D} {a b c d e f : Int} (hd : ds = [formD a b c, formD d e f]) (h : post_joined ds r) : Fz r := by
  obtain ⟨A, B, C, X0, X1, X2, X3, Y0, Y1, Y2, Y3, rfl, _⟩ := h a b c d e f hd
  exact fz_three (fz3 _ _ _) (fz_ints [_, _, _, _]) (fz_ints [_, _, _, _])
theorem fz_jd {ds : List D} {r : D} {a b c d e f : Int} (hd : ds = [formD a b c, formD d e f]) (h : post_joint_divisor ds r) : Fz r := by
  obtain ⟨g, u, v, w, rfl, _⟩ := h a b c d e f hd
  exact fz_ints [_, _, _, _]
theorem Leads.led {a b c p q r s a' b' c' : Int} (h : Leads a b c p q r s a' b' c') : MJ.Led a b c p q r s a' b' c' := ⟨h.det, h.e1, h.e2, h.e3⟩
theorem Leads.of {a b c p q r s a' b' c' : Int} (h : MJ.Led a b c p q r s a' b' c') : Leads a b c p q r s a' b' c' := ⟨h.det, h.e1, h.e2, h.e3⟩
theorem joint_S {first m C Dd : Int} (f0 : 0 < first) (m0 : 0 ≤ m) (m1 : m < 2 * first) (hb : m * m - 4 * first * C = Dd) (hD : Dd < 0) (sf : Bd first 2900) (sD : Bd Dd 1200) : FormS first m C := by
  have c0 : 0 < C := by
    refine Int.not_le.mp fun z => ?_
    have h1 := Int.mul_nonpos_of_nonneg_of_nonpos (show 0 ≤ 4 * first by omega) z
    have h2 := MT.sq_nonneg m
    omega
  have c1 : C < first - Dd := by
    refine Int.not_le.mp fun z => ?_
    have h1 := Int.mul_le_mul_of_nonneg_left z (show 0 ≤ 4 * first by omega)
    have h2 : m * m < 2 * first * (2 * first) := by
      have k1 := Int.mul_le_mul_of_nonneg_left (Int.le_of_lt m1) m0
      have k2 := Int.mul_lt_mul_of_pos_right m1 (show 0 < 2 * first by omega)
      omega
    have h3 : -Dd ≤ 4 * first * -Dd := by
      have := Int.mul_le_mul_of_nonneg_right (show (1 : Int) ≤ 4 * first by omega) (show 0 ≤ -Dd by omega)
      omega
    grind
  have sm : Bd m 2901 := by
    have : Bd (2 * first) 2902 := Bd.mul bd_2 sf _ (by decide)
    refine .of_lt ?_
    have h1 := intBits_le_iff.mp sf.lt
    have e : 2 ^ 2901 = 2 ^ 2900 * 2 := Nat.pow_succ _ _
    rw [e]
    generalize 2 ^ 2900 = N at *
    omega
  have sC : Bd C 2901 := (Bd.sub sf (sD.up 2900 (by decide)) 2901 (by decide)).le (by omega)
  exact ⟨f0, by rw [hb]; exact hD, sf.up _ (by decide), sm.up _ (by decide), sC.up _ (by decide), by rw [hb]; exact sD⟩
end CM
namespace CM
open PySem PySem.Spec L2 FL FT
def p_require_same_bar (ds : List D) (d : D) : Prop := ∃ a b c x y z : Int, ds = [formD a b c, formD x y z] ∧ FormN a b c ∧ FormN x y z ∧ b * b - 4 * a * c = y * y - 4 * x * z ∧ d = .non
def p_require_bare (ds : List D) (d : D) : Prop := ∃ a b c : Int, ds = [formD a b c] ∧ FormN a b c ∧ Int.gcd (Int.gcd a b) c = 1 ∧ d = .non
def plOf : D → Int × Int
  | .tup [.int x, .int y] => (x, y)
  | _ => (0, 0)
end CM
namespace CM
open PySem PySem.Spec L2 FL FT
end CM
namespace CM
open PySem PySem.Spec L2 FL FT
end CM
namespace CM
open PySem PySem.Spec L2 FL FT
theorem EvR.ev {X : Cx} {e : Expr} {ρ : Ro} {d : D} (h : EvR X e ρ (fun x => x = d)) : Ev X e ρ d := PE.imp h fun _ _ _ ⟨r, q⟩ => ⟨r, fun d' v H' z s i => by subst z; exact q v H' s i⟩
theorem least_1200 {a b c : Int} (ha : 0 < a) (L : MT.Least a b c) (sd : Bd (b * b - 4 * a * c) 1200) : Bd a 1200 ∧ Bd b 1200 ∧ Bd c 1200 := by
  obtain ⟨h1, h2, h3⟩ := MT.least_small ha L
  have ac := L.ac
  exact ⟨sd.le (by omega), sd.le (by omega), sd.le (by omega)⟩
theorem least_J {a b c : Int} (f : FormS a b c) (L : MT.Least a b c) (bare : Int.gcd (Int.gcd a b) c = 1) : FormJ a b c := by
  obtain ⟨h1, h2, h3⟩ := least_1200 f.pos L f.sd
  exact ⟨f.pos, f.bar, h1.up _ (by decide), h2.up _ (by decide), h3.up _ (by decide), f.sd, bare⟩
def p_is_bar (ds : List D) (d : D) : Prop := ∃ i : Int, ds = [.int i] ∧ i < 0 ∧ (i % 4 = 0 ∨ i % 4 = 1) ∧ d = .bl true
def p_require_bar (ds : List D) (d : D) : Prop := ∃ i : Int, ds = [.int i] ∧ i < 0 ∧ (i % 4 = 0 ∨ i % 4 = 1) ∧ d = .non
def p_neutral (ds : List D) (d : D) : Prop := ∃ i : Int, ds = [.int i] ∧ i < 0 ∧ (i % 4 = 0 ∨ i % 4 = 1) ∧ d = formD 1 (i % 2) ((i % 2 - i) / 4)
theorem bar_mod (a b c : Int) : (b * b - 4 * a * c) % 4 = 0 ∨ (b * b - 4 * a * c) % 4 = 1 := by
  rcases Int.emod_two_eq b with h | h
  · have e : b = 2 * (b / 2) := by omega
    generalize b / 2 = x at *
    subst e
    have : 2 * x * (2 * x) - 4 * a * c = 4 * (x * x - a * c) := by grind
    omega
  · have e : b = 2 * (b / 2) + 1 := by omega
    generalize b / 2 = x at *
    subst e
    have : (2 * x + 1) * (2 * x + 1) - 4 * a * c = 4 * (x * x + x - a * c) + 1 := by grind
    omega
theorem neutral_least {i : Int} (hi : i < 0) (h4 : i % 4 = 0 ∨ i % 4 = 1) : MT.Least 1 (i % 2) ((i % 2 - i) / 4) ∧ (i % 2) * (i % 2) - 4 * 1 * ((i % 2 - i) / 4) = i := by
  rcases Int.emod_two_eq i with h | h
  · rw [h]
    exact ⟨⟨by omega, by omega, by omega, fun _ => by omega⟩, by omega⟩
  · rw [h]
    exact ⟨⟨by omega, by omega, by omega, fun _ => by omega⟩, by omega⟩
theorem Leads.refl (a b c : Int) : Leads a b c 1 0 0 1 a b c := by
  refine ⟨by omega, ?_, ?_, ?_⟩ <;> (try unfold MT.Wo) <;> grind
theorem bez_of {a b c : Int} (h : Int.gcd (Int.gcd a b) c = 1) : ∃ l1 l2 l3 : Int, l1 * a + l2 * b + l3 * c = 1 := by
  obtain ⟨x, y, e1⟩ := ME.bez a b
  obtain ⟨z, w, e2⟩ := ME.bez (Int.gcd a b) c
  refine ⟨z * x, z * y, w, ?_⟩
  rw [h, ← e1] at e2
  have : (1 : Int) = z * (x * a + y * b) + w * c := e2.symm
  rw [this]
  grind
theorem Joint.bare {a b c d e f A B C X0 X1 X2 X3 Y0 Y1 Y2 Y3 : Int} (J : Joint a b c d e f A B C X0 X1 X2 X3 Y0 Y1 Y2 Y3) (h1 : FormJ a b c) (h2 : FormJ d e f) : Int.gcd (Int.gcd A B) C = 1 := by
  obtain ⟨l1, l2, l3, hl⟩ := h1.bez
  obtain ⟨m1, m2, m3, hm⟩ := h2.bez
  have d1 : ((Int.gcd (Int.gcd A B) C : Nat) : Int) ∣ ((Int.gcd A B : Nat) : Int) := Int.gcd_dvd_left _ _
  have := MJ.comp_bare ⟨_, _, _, _, _, _, _, _, J.comp⟩ hl hm (Int.dvd_trans d1 (Int.gcd_dvd_left A B)) (Int.dvd_trans d1 (Int.gcd_dvd_right A B)) (Int.gcd_dvd_right _ _)
  have := Int.natCast_dvd_natCast.mp (show ((Int.gcd (Int.gcd A B) C : Nat) : Int) ∣ ((1 : Nat) : Int) from this)
  exact Nat.dvd_one.mp this
theorem Joint.J {a b c d e f A B C X0 X1 X2 X3 Y0 Y1 Y2 Y3 : Int} (J : Joint a b c d e f A B C X0 X1 X2 X3 Y0 Y1 Y2 Y3) (h1 : FormJ a b c) (h2 : FormJ d e f) : FormJ A B C := least_J J.s J.least (J.bare h1 h2)
theorem least_one {a b c p q r s x y z p' q' r' s' u v w : Int} (h1 : Leads a b c p q r s x y z) (h2 : Leads a b c p' q' r' s' u v w) (L1 : MT.Least x y z) (L2 : MT.Least u v w) (hx : 0 < x) (hu : 0 < u) : u = x ∧ v = y ∧ w = z := by
  have g := h1.back.trans h2
  exact MT.least_unique hx hu L1 L2 g.det g.e1 g.e2 g.e3
end CM
namespace CM
open PySem PySem.Spec L2 FL FT
section
variable {X : Cx} {e1 e2 : Expr} {ρ : Ro} {p0 p1 p2 p3 : Pos} {m : Nat}
theorem ev_least0 {a b c p q r s x y z : Int} (Gl : FnR X.prog X.w X.K X.mg X.base 5 "least_of" pre_form post_least_of) (hr : Room 5 X.A) (h1 : Ev X e1 ρ (formD a b c)) (S : FormS a b c) (l : Leads a b c p q r s x y z) (L : MT.Least x y z) (hx : 0 < x)
    (hg : L2.Gl X "least_of" := by rfl) (he : starEach [e1] X.env = (false, eval e1 X.env) :: starEach [] X.env := by rfl) (hpl : (backTo p1 (starEach [] X.env)).any (·.1) = false := by rfl) :
    Ev X (.Subscript (.Call (.Name "least_of" p0) [e1] [] p1) (.Constant (.int 0) m p2) p3) ρ (formD x y z) := by
  refine EvR.ev (evr_ix (evr_call Gl hr (ea_cons h1 ea_nil he) ⟨a, b, c, rfl, S⟩ hg (by decide) he hpl) ev_int (fun d hd => ?_))
  obtain ⟨a', b', c', p', q', r', s', rfl, L', g, _, ld⟩ := hd _ _ _ rfl
  obtain ⟨f1, f2, f3⟩ := least_one l ld L L' hx g.pos
  exact ⟨_, _, rfl, rfl, by rw [f1, f2, f3]⟩
end
end CM
namespace MP
theorem icd {p : Nat} {z : Int} : (p : Int) ∣ z ↔ p ∣ z.natAbs := by
  rw [← Int.natCast_dvd_natCast, Int.dvd_natAbs]
def Pr (p : Nat) : Prop := 2 ≤ p ∧ ∀ d, d ∣ p → d = 1 ∨ d = p
theorem pr_ex : ∀ n : Nat, 2 ≤ n → ∃ p, Pr p ∧ p ∣ n := by
  intro n
  induction n using Nat.strongRecOn with
  | ind n ih =>
    intro hn
    by_cases h : Pr n
    · exact ⟨n, h, Nat.dvd_refl n⟩
    · have : ∃ d, d ∣ n ∧ d ≠ 1 ∧ d ≠ n := by
        refine Classical.byContradiction fun hc => h ⟨hn, fun d hd => ?_⟩
        refine Classical.byContradiction fun hd' => hc ⟨d, hd, fun e => hd' (.inl e), fun e => hd' (.inr e)⟩
      obtain ⟨d, hd, h1, h2⟩ := this
      have hle := Nat.le_of_dvd (by omega) hd
      have h0 : d ≠ 0 := fun z => by
        subst z
        have := Nat.eq_zero_of_zero_dvd hd
        omega
      obtain ⟨p, hp, hpd⟩ := ih d (by omega) (by omega)
      exact ⟨p, hp, Nat.dvd_trans hpd hd⟩
theorem Pr.cop {p a : Nat} (hp : Pr p) (h : ¬ p ∣ a) : Nat.gcd p a = 1 := by
  rcases hp.2 _ (Nat.gcd_dvd_left p a) with e | e
  · exact e
  · exact absurd (e ▸ Nat.gcd_dvd_right p a) h
theorem Pr.mul {p a b : Nat} (hp : Pr p) (h : p ∣ a * b) : p ∣ a ∨ p ∣ b := by
  by_cases ha : p ∣ a
  · exact .inl ha
  · exact .inr (Nat.Coprime.dvd_of_dvd_mul_left (hp.cop ha) h)
theorem Pr.imul {p : Nat} {a b : Int} (hp : Pr p) (h : (p : Int) ∣ a * b) : (p : Int) ∣ a ∨ (p : Int) ∣ b := by
  rw [icd, Int.natAbs_mul] at h
  rw [icd, icd]
  exact hp.mul h
theorem Pr.one {p : Nat} (hp : Pr p) (h : (p : Int) ∣ 1) : False := by
  have := icd.mp h
  have := Nat.le_of_dvd (by decide) this
  have := hp.1
  simp at *
  omega
def prodN : List Nat → Nat
  | [] => 1
  | x :: xs => x * prodN xs
theorem mem_prod {p : Nat} : ∀ {l : List Nat}, p ∈ l → p ∣ prodN l
  | x :: xs, h => by
    rcases List.mem_cons.mp h with rfl | h
    · exact Nat.dvd_mul_right _ _
    · exact Nat.dvd_trans (mem_prod h) (Nat.dvd_mul_left _ _)
theorem Pr.mem {p : Nat} (hp : Pr p) : ∀ {l : List Nat}, (∀ q ∈ l, Pr q) → p ∣ prodN l → p ∈ l
  | [], _, h => by
    have := Nat.le_of_dvd (by decide) h
    have := hp.1
    simp [prodN] at *
    omega
  | x :: xs, hl, h => by
    rcases hp.mul h with h | h
    · rcases (hl x List.mem_cons_self).2 _ h with e | e
      · have := hp.1
        omega
      · exact e ▸ List.mem_cons_self
    · exact List.mem_cons_of_mem _ (hp.mem (fun q hq => hl q (List.mem_cons_of_mem _ hq)) h)
theorem prod_pos : ∀ {l : List Nat}, (∀ q ∈ l, Pr q) → 0 < prodN l
  | [], _ => by decide
  | x :: xs, hl => Nat.mul_pos (by have := (hl x List.mem_cons_self).1; omega) (prod_pos fun q hq => hl q (List.mem_cons_of_mem _ hq))
theorem gcd_one_of {m N : Int} (hN : N ≠ 0) (h : ∀ p : Nat, Pr p → (p : Int) ∣ N → ¬ (p : Int) ∣ m) : Int.gcd m N = 1 := by
  refine Classical.byContradiction fun hg => ?_
  have h0 : Int.gcd m N ≠ 0 := fun z => hN (Int.gcd_eq_zero_iff.mp z).2
  obtain ⟨p, hp, hd⟩ := pr_ex (Int.gcd m N) (by omega)
  have hd' : (p : Int) ∣ ((Int.gcd m N : Nat) : Int) := Int.natCast_dvd_natCast.mpr hd
  exact h p hp (Int.dvd_trans hd' (Int.gcd_dvd_right m N)) (Int.dvd_trans hd' (Int.gcd_dvd_left m N))
theorem telling {a b c N x y l1 l2 l3 : Int} (hN : N ≠ 0) (hl : l1 * a + l2 * b + l3 * c = 1)
    (h1 : ∀ p : Nat, Pr p → (p : Int) ∣ N → ((p : Int) ∣ y ↔ ¬ (p : Int) ∣ a)) (h2 : ∀ p : Nat, Pr p → (p : Int) ∣ N → ((p : Int) ∣ x ↔ (p : Int) ∣ a ∧ ¬ (p : Int) ∣ c)) : Int.gcd (a * x * x + b * x * y + c * y * y) N = 1 := by
  refine gcd_one_of hN fun p hp hpN hm => ?_
  have e1 := h1 p hp hpN
  have e2 := h2 p hp hpN
  by_cases pa : (p : Int) ∣ a
  · have ny : ¬ (p : Int) ∣ y := fun z => (e1.mp z) pa
    by_cases pc : (p : Int) ∣ c
    · have nx : ¬ (p : Int) ∣ x := fun z => (e2.mp z).2 pc
      have hb : (p : Int) ∣ b * x * y := by
        have t1 : (p : Int) ∣ a * x * x := Int.dvd_mul_of_dvd_left (Int.dvd_mul_of_dvd_left pa)
        have t2 : (p : Int) ∣ c * y * y := Int.dvd_mul_of_dvd_left (Int.dvd_mul_of_dvd_left pc)
        have := Int.dvd_sub (Int.dvd_sub hm t1) t2
        have e : a * x * x + b * x * y + c * y * y - a * x * x - c * y * y = b * x * y := by omega
        rwa [e] at this
      rcases hp.imul hb with h | h
      · rcases hp.imul h with h | h
        · refine hp.one ?_
          rw [← hl]
          exact Int.dvd_add (Int.dvd_add (Int.dvd_mul_of_dvd_right pa) (Int.dvd_mul_of_dvd_right h)) (Int.dvd_mul_of_dvd_right pc)
        · exact nx h
      · exact ny h
    · have px := e2.mpr ⟨pa, pc⟩
      have hc : (p : Int) ∣ c * y * y := by
        have t1 : (p : Int) ∣ a * x * x := Int.dvd_mul_of_dvd_right px
        have t2 : (p : Int) ∣ b * x * y := Int.dvd_mul_of_dvd_left (Int.dvd_mul_of_dvd_right px)
        have := Int.dvd_sub (Int.dvd_sub hm t1) t2
        have e : a * x * x + b * x * y + c * y * y - a * x * x - b * x * y = c * y * y := by omega
        rwa [e] at this
      rcases hp.imul hc with h | h
      · rcases hp.imul h with h | h
        · exact pc h
        · exact ny h
      · exact ny h
  · have py := e1.mpr pa
    have nx : ¬ (p : Int) ∣ x := fun z => pa (e2.mp z).1
    have ha : (p : Int) ∣ a * x * x := by
      have t1 : (p : Int) ∣ c * y * y := Int.dvd_mul_of_dvd_right py
      have t2 : (p : Int) ∣ b * x * y := Int.dvd_mul_of_dvd_right py
      have := Int.dvd_sub (Int.dvd_sub hm t1) t2
      have e : a * x * x + b * x * y + c * y * y - c * y * y - b * x * y = a * x * x := by omega
      rwa [e] at this
    rcases hp.imul ha with h | h
    · rcases hp.imul h with h | h
      · exact pa h
      · exact nx h
    · exact nx h
open Classical in
theorem worth_cop {a b c N l1 l2 l3 : Int} (hN : N ≠ 0) (hl : l1 * a + l2 * b + l3 * c = 1) : ∃ x y : Int, Int.gcd x y = 1 ∧ Int.gcd (a * x * x + b * x * y + c * y * y) N = 1 := by
  let ps : List Nat := (List.range (N.natAbs + 1)).filter fun p => decide (Pr p ∧ (p : Int) ∣ N)
  have hps : ∀ p : Nat, p ∈ ps ↔ Pr p ∧ (p : Int) ∣ N := fun p => by
    simp only [ps, List.mem_filter, List.mem_range, decide_eq_true_eq]
    refine ⟨fun h => h.2, fun h => ⟨?_, h⟩⟩
    have := Nat.le_of_dvd (by omega) (icd.mp h.2)
    omega
  let ys : List Nat := ps.filter fun (p : Nat) => decide (¬ (p : Int) ∣ a)
  let xs : List Nat := ps.filter fun (p : Nat) => decide ((p : Int) ∣ a ∧ ¬ (p : Int) ∣ c)
  have pry : ∀ q ∈ ys, Pr q := fun q hq => ((hps q).mp (List.mem_filter.mp hq).1).1
  have prx : ∀ q ∈ xs, Pr q := fun q hq => ((hps q).mp (List.mem_filter.mp hq).1).1
  have hy : ∀ p : Nat, Pr p → (p : Int) ∣ N → ((p : Int) ∣ ((prodN ys : Nat) : Int) ↔ ¬ (p : Int) ∣ a) := fun p hp hpN => by
    rw [Int.natCast_dvd_natCast]
    constructor
    · intro h
      have := (List.mem_filter.mp (hp.mem pry h)).2
      simpa using this
    · intro h
      exact mem_prod (List.mem_filter.mpr ⟨(hps p).mpr ⟨hp, hpN⟩, by simpa using h⟩)
  have hx : ∀ p : Nat, Pr p → (p : Int) ∣ N → ((p : Int) ∣ ((prodN xs : Nat) : Int) ↔ (p : Int) ∣ a ∧ ¬ (p : Int) ∣ c) := fun p hp hpN => by
    rw [Int.natCast_dvd_natCast]
    constructor
    · intro h
      have := (List.mem_filter.mp (hp.mem prx h)).2
      simpa using this
    · intro h
      exact mem_prod (List.mem_filter.mpr ⟨(hps p).mpr ⟨hp, hpN⟩, by simpa using h⟩)
  refine ⟨(prodN xs : Nat), (prodN ys : Nat), ?_, telling hN hl hy hx⟩
  have py := prod_pos pry
  refine gcd_one_of (by omega) fun p hp h1 h2 => ?_
  have m1 := hp.mem pry (Int.natCast_dvd_natCast.mp h1)
  have m2 := hp.mem prx (Int.natCast_dvd_natCast.mp h2)
  have t1 := (List.mem_filter.mp m1).2
  have t2 := (List.mem_filter.mp m2).2
  simp only [decide_eq_true_eq] at t1 t2
  exact t1 t2.1
end MP
namespace MG
open MJ
structure Q where
  a : Int
  b : Int
  c : Int
deriving DecidableEq
structure Ok (D : Int) (f : Q) : Prop where
  pos : 0 < f.a
  bar : f.b * f.b - 4 * f.a * f.c = D
theorem Ok.fm {D : Int} {f : Q} (h : Ok D f) : Fm D f.a f.b f.c := ⟨h.pos, h.bar⟩
def Bare (f : Q) : Prop := ∃ l1 l2 l3 : Int, l1 * f.a + l2 * f.b + l3 * f.c = 1
def Eqv (f g : Q) : Prop := ∃ p q r s : Int, Led f.a f.b f.c p q r s g.a g.b g.c
def Cp (f g h : Q) : Prop := CompE f.a f.b f.c g.a g.b g.c h.a h.b h.c
theorem Eqv.refl (f : Q) : Eqv f f := ⟨1, 0, 0, 1, by omega, by unfold W; grind, by grind, by unfold W; grind⟩
theorem Eqv.symm {f g : Q} (h : Eqv f g) : Eqv g f := by
  obtain ⟨p, q, r, s, d, e1, e2, e3⟩ := h
  refine ⟨s, -q, -r, p, by grind, ?_, ?_, ?_⟩
  · rw [e1, e2, e3]; unfold W; grind
  · rw [e1, e2, e3]; unfold W; grind
  · rw [e1, e2, e3]; unfold W; grind
theorem Eqv.trans {f g h : Q} (h1 : Eqv f g) (h2 : Eqv g h) : Eqv f h := by
  obtain ⟨p, q, r, s, d, e1, e2, e3⟩ := h1
  obtain ⟨x, y, z, v, d', f1, f2, f3⟩ := h2
  refine ⟨p * x + q * z, p * y + q * v, r * x + s * z, r * y + s * v, by grind, ?_, ?_, ?_⟩
  · rw [f1, e1, e2, e3]; unfold W; grind
  · rw [f2, e1, e2, e3]; unfold W; grind
  · rw [f3, e1, e2, e3]; unfold W; grind
theorem Eqv.bar {f g : Q} (h : Eqv f g) : g.b * g.b - 4 * g.a * g.c = f.b * f.b - 4 * f.a * f.c := by
  obtain ⟨p, q, r, s, l⟩ := h
  exact l.bar
theorem w_pos {a b c x y : Int} (ha : 0 < a) (hd : b * b - 4 * a * c < 0) (h : x ≠ 0 ∨ y ≠ 0) : 0 < W a b c x y := by
  have sq : ∀ z : Int, 0 ≤ z * z := fun z => by
    rcases Int.le_total 0 z with h | h
    · exact Int.mul_nonneg h h
    · exact Int.mul_nonneg_of_nonpos_of_nonpos h h
  have e : 4 * a * W a b c x y = (2 * a * x + b * y) * (2 * a * x + b * y) + (-(b * b - 4 * a * c)) * (y * y) := by unfold W; grind
  have h1 := sq (2 * a * x + b * y)
  have h2 := Int.mul_nonneg (show 0 ≤ -(b * b - 4 * a * c) by omega) (sq y)
  have key : 0 < 4 * a * W a b c x y := by
    by_cases hy : y = 0
    · subst hy
      have hx : x ≠ 0 := by omega
      have : 0 < (2 * a * x + b * 0) * (2 * a * x + b * 0) := by
        have e2 : (2 * a * x + b * 0) * (2 * a * x + b * 0) = 4 * a * a * (x * x) := by grind
        rw [e2]
        refine Int.mul_pos (Int.mul_pos (by omega) ha) ?_
        rcases Int.lt_or_gt_of_ne hx with h | h
        · exact Int.mul_pos_of_neg_of_neg h h
        · exact Int.mul_pos h h
      omega
    · have : 0 < y * y := by
        rcases Int.lt_or_gt_of_ne hy with h | h
        · exact Int.mul_pos_of_neg_of_neg h h
        · exact Int.mul_pos h h
      have := Int.mul_pos (show 0 < -(b * b - 4 * a * c) by omega) this
      omega
  refine Int.not_le.mp fun z => ?_
  have := Int.mul_nonpos_of_nonneg_of_nonpos (show 0 ≤ 4 * a by omega) z
  omega
theorem Ok.eqv {D : Int} {f g : Q} (hD : D < 0) (h : Ok D f) (e : Eqv f g) : Ok D g := by
  refine ⟨?_, by rw [e.bar]; exact h.bar⟩
  obtain ⟨p, q, r, s, l⟩ := e
  rw [l.e1]
  refine w_pos h.pos (by rw [h.bar]; exact hD) ?_
  by_cases z : p = 0
  · refine .inr fun w => ?_
    have := l.det
    rw [z, w] at this
    simp at this
  · exact .inl z
theorem Bare.eqv {f g : Q} (h : Bare f) (e : Eqv f g) : Bare g := by
  obtain ⟨l1, l2, l3, hl⟩ := h
  obtain ⟨p, q, r, s, d, e1, e2, e3⟩ := e.symm
  refine ⟨l1 * (p * p) + l2 * (2 * p * q) + l3 * (q * q), l1 * (p * r) + l2 * (p * s + q * r) + l3 * (q * s), l1 * (r * r) + l2 * (2 * r * s) + l3 * (s * s), ?_⟩
  rw [← hl, e1, e2, e3]
  unfold W
  grind
theorem Cp.swap {f g h : Q} (c : Cp f g h) : Cp g f h := CompE.swap c
theorem Cp.pull {D : Int} {f f' g h : Q} (hD : D < 0) (c : Cp f g h) (o1 : Ok D f) (o2 : Ok D g) (o3 : Ok D h) (e : Eqv f f') : Cp f' g h := by
  obtain ⟨p, q, r, s, l⟩ := e
  exact CompE.pull hD c o1.fm o2.fm o3.fm l
theorem Cp.pull2 {D : Int} {f g g' h : Q} (hD : D < 0) (c : Cp f g h) (o1 : Ok D f) (o2 : Ok D g) (o3 : Ok D h) (e : Eqv g g') : Cp f g' h := (c.swap.pull hD o2 o1 o3 e).swap
theorem Cp.one {D : Int} {f g h h' : Q} (hD : D < 0) (c : Cp f g h) (c' : Cp f g h') (o1 : Ok D f) (o2 : Ok D g) (o3 : Ok D h) (o4 : Ok D h') (b : Bare f) : Eqv h h' := by
  obtain ⟨l1, l2, l3, hl⟩ := b
  obtain ⟨p, q, r, s, l⟩ := CompE.one hD c' c o1.fm o2.fm o4.fm o3.fm hl
  exact ⟨p, q, r, s, l⟩
theorem Cp.target {f g h h' : Q} (c : Cp f g h) (e : Eqv h h') : Cp f g h' := by
  obtain ⟨X0, X1, X2, X3, Y0, Y1, Y2, Y3, c⟩ := c
  obtain ⟨p, q, r, s, l⟩ := e
  exact ⟨_, _, _, _, _, _, _, _, c.target l⟩
theorem cp_agree (a b d k : Int) : Cp ⟨a, b, d * k⟩ ⟨d, b, a * k⟩ ⟨a * d, b, k⟩ := ⟨_, _, _, _, _, _, _, _, comp_agree a b d k⟩
theorem cop_rep {N : Int} {f : Q} (hN : N ≠ 0) (hb : Bare f) : ∃ g : Q, Eqv f g ∧ Int.gcd g.a N = 1 := by
  obtain ⟨l1, l2, l3, hl⟩ := hb
  obtain ⟨x, y, hxy, hw⟩ := MP.worth_cop hN hl
  obtain ⟨u, v, e⟩ := ME.bez x y
  rw [hxy] at e
  refine ⟨⟨W f.a f.b f.c x y, 2 * f.a * x * -v + f.b * (x * u + -v * y) + 2 * f.c * y * u, W f.a f.b f.c (-v) u⟩, ⟨x, -v, y, u, ?_, rfl, rfl, rfl⟩, hw⟩
  have : u * x + v * y = 1 := e
  grind
theorem shift_eqv (f : Q) (t : Int) : Eqv f ⟨f.a, f.b + 2 * f.a * t, f.c + t * (f.b + f.a * t)⟩ := by
  refine ⟨1, t, 0, 1, by omega, ?_, ?_, ?_⟩ <;> (try unfold W) <;> (dsimp only) <;> grind
theorem crt {a d x y : Int} (h : Int.gcd a d = 1) : ∃ t u : Int, x + a * t = y + d * u := by
  obtain ⟨p, q, e⟩ := ME.bez a d
  rw [h] at e
  have e' : p * a + q * d = 1 := e
  refine ⟨p * (y - x), q * (x - y), ?_⟩
  have : (p * a + q * d) * (y - x) = y - x := by rw [e']; omega
  grind
theorem bar_parity {D : Int} {f : Q} (h : Ok D f) : ∃ t : Int, f.b = D % 2 + 2 * t := by
  have := h.bar
  refine ⟨f.b / 2, ?_⟩
  have e : D % 2 = f.b % 2 := by
    rcases Int.emod_two_eq f.b with hb | hb
    · have e : f.b = 2 * (f.b / 2) := by omega
      generalize f.b / 2 = x at e
      have : D = 2 * (2 * x * x - 2 * f.a * f.c) := by rw [← h.bar, e]; grind
      omega
    · have e : f.b = 2 * (f.b / 2) + 1 := by omega
      generalize f.b / 2 = x at e
      have : D = 2 * (2 * x * x + 2 * x - 2 * f.a * f.c) + 1 := by rw [← h.bar, e]; grind
      omega
  omega
theorem cop_dvd {a d m : Int} (h : Int.gcd a d = 1) (ha : a ∣ m) (hd : d ∣ m) : a * d ∣ m := by
  obtain ⟨p, q, e⟩ := ME.bez a d
  rw [h] at e
  have e' : p * a + q * d = 1 := e
  obtain ⟨x, hx⟩ := ha
  obtain ⟨y, hy⟩ := hd
  refine ⟨p * y + q * x, ?_⟩
  have : m = (p * a + q * d) * m := by rw [e']; omega
  rw [this]
  have k1 : p * a * m = a * d * (p * y) := by rw [hy]; grind
  have k2 : q * d * m = a * d * (q * x) := by rw [hx]; grind
  grind
theorem agree2 {D : Int} {f g : Q} (o1 : Ok D f) (o2 : Ok D g) (h : Int.gcd f.a g.a = 1) : ∃ b k t : Int, b = f.b + 2 * f.a * t ∧ Eqv f ⟨f.a, b, g.a * k⟩ ∧ Eqv g ⟨g.a, b, f.a * k⟩ := by
  obtain ⟨x, ex⟩ := bar_parity o1
  obtain ⟨y, ey⟩ := bar_parity o2
  obtain ⟨t, u, e⟩ := crt (x := x) (y := y) h
  have s1 := shift_eqv f t
  have s2 := shift_eqv g u
  have eb : f.b + 2 * f.a * t = g.b + 2 * g.a * u := by rw [ex, ey]; grind
  have b1 := s1.bar
  have b2 := s2.bar
  rw [o1.bar] at b1
  rw [o2.bar] at b2
  dsimp only at b1 b2
  rw [← eb] at b2 s2
  generalize hb : f.b + 2 * f.a * t = b at *
  generalize f.c + t * (f.b + f.a * t) = c1 at *
  generalize g.c + u * (g.b + g.a * u) = c2 at *
  -- a c1 = d c2
  have q : f.a * c1 = g.a * c2 := by grind
  have hd : f.a * g.a ∣ f.a * c1 := cop_dvd h ⟨c1, rfl⟩ ⟨c2, q⟩
  obtain ⟨k, hk⟩ := hd
  have p1 := o1.pos
  have p2 := o2.pos
  have k1 : c1 = g.a * k := mul_cancel (show f.a ≠ 0 by omega) (by rw [hk]; grind)
  have k2 : c2 = f.a * k := mul_cancel (show g.a ≠ 0 by omega) (by rw [← q, hk]; grind)
  rw [k1] at s1
  rw [k2] at s2
  exact ⟨b, k, t, hb.symm, s1, s2⟩
theorem cp_ex {D : Int} {f g : Q} (hD : D < 0) (o1 : Ok D f) (o2 : Ok D g) (b1 : Bare f) (b2 : Bare g) : ∃ h : Q, Ok D h ∧ Bare h ∧ Cp f g h := by
  have p1 := o1.pos
  obtain ⟨g', e, hg⟩ := cop_rep (N := f.a) (by omega) b2
  have o2' := o2.eqv hD e
  obtain ⟨b, k, _, _, s1, s2⟩ := agree2 o1 o2' (by rw [Int.gcd_comm]; exact hg)
  have a1 := o1.eqv hD s1
  have a2 := o2'.eqv hD s2
  have c := cp_agree f.a b g'.a k
  have oh : Ok D ⟨f.a * g'.a, b, k⟩ := ⟨Int.mul_pos o1.pos o2'.pos, by have := a1.bar; dsimp only at *; rw [← this]; grind⟩
  have c1 := c.pull hD a1 a2 oh s1.symm
  have c2 := c1.pull2 hD o1 a2 oh (e.trans s2).symm
  refine ⟨_, oh, ?_, c2⟩
  -- bare
  have bf := b1.eqv s1
  have bg := (b2.eqv e).eqv s2
  obtain ⟨l1, l2, l3, hl⟩ := bf
  obtain ⟨m1, m2, m3, hm⟩ := bg
  obtain ⟨x, y, e1⟩ := ME.bez (f.a * g'.a) b
  obtain ⟨z, w, e2⟩ := ME.bez (Int.gcd (f.a * g'.a) b) k
  have hn : Int.gcd (Int.gcd (f.a * g'.a) b) k = 1 := by
    have d1 : ((Int.gcd (Int.gcd (f.a * g'.a) b) k : Nat) : Int) ∣ ((Int.gcd (f.a * g'.a) b : Nat) : Int) := Int.gcd_dvd_left _ _
    have := comp_bare c hl hm (Int.dvd_trans d1 (Int.gcd_dvd_left _ _)) (Int.dvd_trans d1 (Int.gcd_dvd_right _ _)) (Int.gcd_dvd_right _ _)
    exact Nat.dvd_one.mp (Int.natCast_dvd_natCast.mp (show ((Int.gcd (Int.gcd (f.a * g'.a) b) k : Nat) : Int) ∣ ((1 : Nat) : Int) from this))
  refine ⟨z * x, z * y, w, ?_⟩
  rw [hn] at e2
  show z * x * (f.a * g'.a) + z * y * b + w * k = 1
  have e2' : z * ((Int.gcd (f.a * g'.a) b : Nat) : Int) + w * k = 1 := e2
  rw [← e1] at e2'
  grind
theorem shift_to {D a b c b' c' t : Int} (ha : 0 < a) (h1 : b * b - 4 * a * c = D) (e : b' = b + 2 * a * t) (h2 : b' * b' - 4 * a * c' = D) : Eqv ⟨a, b, c⟩ ⟨a, b', c'⟩ := by
  have s := shift_eqv ⟨a, b, c⟩ t
  dsimp only at s
  have k : c' = c + t * (b + a * t) := by
    refine mul_cancel (show 4 * a ≠ 0 by omega) ?_
    subst e
    grind
  rw [← e, ← k] at s
  exact s
theorem agree3 {D : Int} {f g h : Q} (hD : D < 0) (o1 : Ok D f) (o2 : Ok D g) (o3 : Ok D h) (b2 : Bare g) (b3 : Bare h) : ∃ a b d e k : Int, 0 < a ∧ 0 < d ∧ 0 < e ∧ b * b - 4 * (a * d * e) * k = D ∧ Eqv f ⟨a, b, d * e * k⟩ ∧ Eqv g ⟨d, b, a * e * k⟩ ∧ Eqv h ⟨e, b, a * d * k⟩ := by
  have p1 := o1.pos
  obtain ⟨g', e1, hg⟩ := cop_rep (N := f.a) (by omega) b2
  have o2' := o2.eqv hD e1
  have p2 := o2'.pos
  have pp := Int.mul_pos p1 p2
  obtain ⟨h', e2, hh⟩ := cop_rep (N := f.a * g'.a) (by omega) b3
  have o3' := o3.eqv hD e2
  obtain ⟨b1, k1, _, _, s1, s2⟩ := agree2 o1 o2' (by rw [Int.gcd_comm]; exact hg)
  have a1 := o1.eqv hD s1
  have a2 := o2'.eqv hD s2
  have oF : Ok D ⟨f.a * g'.a, b1, k1⟩ := ⟨pp, by have := a1.bar; dsimp only at *; rw [← this]; grind⟩
  obtain ⟨b, k, t, eb, s3, s4⟩ := agree2 oF o3' (by rw [Int.gcd_comm]; exact hh)
  have a3 := oF.eqv hD s3
  dsimp only at eb a3 s3 s4
  have hb : b * b - 4 * (f.a * g'.a * h'.a) * k = D := by have := a3.bar; dsimp only at this; rw [← this]; grind
  refine ⟨f.a, b, g'.a, h'.a, k, p1, p2, o3'.pos, hb, s1.trans ?_, (e1.trans s2).trans ?_, e2.trans ?_⟩
  · have := a1.bar
    dsimp only at this
    exact shift_to (t := g'.a * t) p1 this (by rw [eb]; grind) (by rw [← hb]; grind)
  · have := a2.bar
    dsimp only at this
    exact shift_to (t := f.a * t) p2 this (by rw [eb]; grind) (by rw [← hb]; grind)
  · exact s4
theorem cp_assoc {D : Int} {f g h x y z w : Q} (hD : D < 0) (o1 : Ok D f) (o2 : Ok D g) (o3 : Ok D h) (b1 : Bare f) (b2 : Bare g) (b3 : Bare h) (ox : Ok D x) (oy : Ok D y) (oz : Ok D z) (ow : Ok D w) (bx : Bare x)
    (c1 : Cp f g x) (c2 : Cp x h y) (c3 : Cp g h z) (c4 : Cp f z w) : Eqv y w := by
  obtain ⟨a, b, d, e, k, pa, pd, pe, hb, ef, eg, eh⟩ := agree3 hD o1 o2 o3 b2 b3
  have of := o1.eqv hD ef
  have og := o2.eqv hD eg
  have oh := o3.eqv hD eh
  have pad := Int.mul_pos pa pd
  have pde := Int.mul_pos pd pe
  have ox' : Ok D ⟨a * d, b, e * k⟩ := ⟨pad, by dsimp only; rw [← hb]; grind⟩
  have oz' : Ok D ⟨d * e, b, a * k⟩ := ⟨pde, by dsimp only; rw [← hb]; grind⟩
  have oy' : Ok D ⟨a * d * e, b, k⟩ := ⟨Int.mul_pos pad pe, hb⟩
  have k1 : Cp ⟨a, b, d * e * k⟩ ⟨d, b, a * e * k⟩ ⟨a * d, b, e * k⟩ := by
    have := cp_agree a b d (e * k)
    rwa [← Int.mul_assoc, ← Int.mul_assoc] at this
  have k2 : Cp ⟨a * d, b, e * k⟩ ⟨e, b, a * d * k⟩ ⟨a * d * e, b, k⟩ := cp_agree (a * d) b e k
  have k3 : Cp ⟨d, b, a * e * k⟩ ⟨e, b, a * d * k⟩ ⟨d * e, b, a * k⟩ := by
    have := cp_agree d b e (a * k)
    have q1 : e * (a * k) = a * e * k := by grind
    have q2 : d * (a * k) = a * d * k := by grind
    rwa [q1, q2] at this
  have k4 : Cp ⟨a, b, d * e * k⟩ ⟨d * e, b, a * k⟩ ⟨a * d * e, b, k⟩ := by
    have := cp_agree a b (d * e) k
    rwa [← Int.mul_assoc] at this
  -- x is alike (ad, b, ek)
  have hx : Eqv x ⟨a * d, b, e * k⟩ := (((c1.pull hD o1 o2 ox ef).pull2 hD of o2 ox eg).one hD k1 of og ox ox' (b1.eqv ef))
  have hz : Eqv z ⟨d * e, b, a * k⟩ := (((c3.pull hD o2 o3 oz eg).pull2 hD og o3 oz eh).one hD k3 og oh oz oz' (b2.eqv eg))
  have hy : Eqv y ⟨a * d * e, b, k⟩ := (((c2.pull hD ox o3 oy hx).pull2 hD ox' o3 oy eh).one hD k2 ox' oh oy oy' (bx.eqv hx))
  have hw : Eqv w ⟨a * d * e, b, k⟩ := (((c4.pull hD o1 oz ow ef).pull2 hD of oz ow hz).one hD k4 of oz' ow oy' (b1.eqv ef))
  exact hy.trans hw.symm
end MG
namespace MG
open MJ
class AbG (G : Type) where
  mul : G → G → G
  one : G
  inv : G → G
  comm : ∀ x y, mul x y = mul y x
  assoc : ∀ x y z, mul (mul x y) z = mul x (mul y z)
  mul_one : ∀ x, mul x one = x
  mul_inv : ∀ x, mul x (inv x) = one
section
variable {G : Type} [AbG G]
open AbG
theorem one_mul (x : G) : mul one x = x := by rw [comm]; exact mul_one x
theorem mul_cancelR {x y z : G} (h : mul x z = mul y z) : x = y := by
  have : mul (mul x z) (inv z) = mul (mul y z) (inv z) := by rw [h]
  rwa [assoc, assoc, mul_inv, mul_one, mul_one] at this
def pw (x : G) : Nat → G
  | 0 => one
  | n + 1 => mul (pw x n) x
theorem pw_add (x : G) (m n : Nat) : pw x (m + n) = mul (pw x m) (pw x n) := by
  induction n with
  | zero => exact (mul_one _).symm
  | succ n ih => show mul (pw x (m + n)) x = mul (pw x m) (mul (pw x n) x); rw [ih, assoc]
theorem pw_one (x : G) : pw x 1 = x := one_mul x
end
structure Cls (D : Int) (f : Q) : Prop where
  ok : Ok D f
  bare : Bare f
  least : MT.Least f.a f.b f.c
theorem Cls.one {D : Int} {f g : Q} (h1 : Cls D f) (h2 : Cls D g) (e : Eqv f g) : f = g := by
  obtain ⟨p, q, r, s, l⟩ := e
  obtain ⟨e1, e2, e3⟩ := MT.least_unique h1.ok.pos h2.ok.pos h1.least h2.least l.det l.e1 l.e2 l.e3
  cases f; cases g
  simp_all
theorem zpos_of {x y z : Int} (hx : 0 < x) (hd : y * y - 4 * x * z < 0) : 0 < z := by
  refine Int.not_le.mp fun h => ?_
  have h1 := Int.mul_nonpos_of_nonneg_of_nonpos (show 0 ≤ 4 * x by omega) h
  have h2 := MT.sq_nonneg y
  omega
theorem least_ex' {D : Int} (hD : D < 0) : ∀ (n : Nat) (f : Q), f.a.toNat ≤ n → Ok D f → ∃ g : Q, Eqv f g ∧ MT.Least g.a g.b g.c := by
  intro n
  induction n with
  | zero => intro f h o; have := o.pos; omega
  | succ n ih =>
    intro f hn o
    have L1 := shift_eqv f ((f.a - f.b) / (2 * f.a))
    have ha := o.pos
    have h1 : (f.a - f.b) = 2 * f.a * ((f.a - f.b) / (2 * f.a)) + (f.a - f.b) % (2 * f.a) := (Int.mul_ediv_add_emod (f.a - f.b) (2 * f.a)).symm
    have h2 := Int.emod_nonneg (f.a - f.b) (show 2 * f.a ≠ 0 by omega)
    have h3 := Int.emod_lt_of_pos (f.a - f.b) (show 0 < 2 * f.a by omega)
    generalize (f.a - f.b) / (2 * f.a) = k at *
    have lo : -f.a < f.b + 2 * f.a * k := by omega
    have hi : f.b + 2 * f.a * k ≤ f.a := by omega
    have o1 := o.eqv hD L1
    generalize f.b + 2 * f.a * k = y at *
    generalize f.c + k * (f.b + f.a * k) = z at *
    have z0 := zpos_of (x := f.a) (y := y) (z := z) ha (by have := o1.bar; dsimp only at this; omega)
    by_cases h : f.a < z ∨ (f.a = z ∧ 0 ≤ y)
    · exact ⟨⟨f.a, y, z⟩, L1, ⟨lo, hi, by dsimp only; omega, fun e => by dsimp only at *; omega⟩⟩
    · have sw : Eqv ⟨f.a, y, z⟩ ⟨z, -y, f.a⟩ := by
        refine ⟨0, -1, 1, 0, by omega, ?_, ?_, ?_⟩ <;> (try unfold W) <;> dsimp only <;> grind
      have L2 := L1.trans sw
      by_cases e : f.a = z
      · exact ⟨⟨z, -y, f.a⟩, L2, ⟨by dsimp only; omega, by dsimp only; omega, by dsimp only; omega, fun _ => by dsimp only; omega⟩⟩
      · obtain ⟨g, l, L⟩ := ih ⟨z, -y, f.a⟩ (by dsimp only; omega) (o.eqv hD L2)
        exact ⟨g, L2.trans l, L⟩
theorem least_exQ {D : Int} (hD : D < 0) {f : Q} (o : Ok D f) : ∃ g : Q, Eqv f g ∧ MT.Least g.a g.b g.c := least_ex' hD f.a.toNat f (Nat.le_refl _) o
theorem cls_ex {D : Int} (hD : D < 0) {f : Q} (o : Ok D f) (b : Bare f) : ∃ g : Q, Eqv f g ∧ Cls D g := by
  obtain ⟨g, e, L⟩ := least_exQ hD o
  exact ⟨g, e, o.eqv hD e, b.eqv e, L⟩
def C (D : Int) : Type := { f : Q // Cls D f }
theorem mul_ex {D : Int} (hD : D < 0) (x y : C D) : ∃ z : C D, Cp x.1 y.1 z.1 := by
  obtain ⟨h, o, b, c⟩ := cp_ex hD x.2.ok y.2.ok x.2.bare y.2.bare
  obtain ⟨g, e, k⟩ := cls_ex hD o b
  exact ⟨⟨g, k⟩, c.target e⟩
theorem mul_one' {D : Int} (hD : D < 0) {x y z w : C D} (h1 : Cp x.1 y.1 z.1) (h2 : Cp x.1 y.1 w.1) : z = w := Subtype.ext (z.2.one w.2 (h1.one hD h2 x.2.ok y.2.ok z.2.ok w.2.ok x.2.bare))
def nt (D : Int) : Q := ⟨1, D % 2, (D % 2 - D) / 4⟩
theorem nt_cls {D : Int} (hD : D < 0) (h4 : D % 4 = 0 ∨ D % 4 = 1) : Cls D (nt D) := by
  have e : (D % 2) * (D % 2) - 4 * 1 * ((D % 2 - D) / 4) = D := by rcases Int.emod_two_eq D with h | h <;> rw [h] <;> omega
  refine ⟨⟨by unfold nt; dsimp only; omega, by unfold nt; exact e⟩, ⟨1, 0, 0, by unfold nt; dsimp only; omega⟩, ?_⟩
  unfold nt
  rcases Int.emod_two_eq D with h | h
  · rw [h]; exact ⟨by dsimp only; omega, by dsimp only; omega, by dsimp only; omega, fun _ => by dsimp only; omega⟩
  · rw [h]; exact ⟨by dsimp only; omega, by dsimp only; omega, by dsimp only; omega, fun _ => by dsimp only; omega⟩
theorem nt_eqv {D : Int} {f : Q} (hD : D < 0) (h4 : D % 4 = 0 ∨ D % 4 = 1) (o : Ok D f) : Eqv (nt D) ⟨1, f.b, f.a * f.c⟩ := by
  obtain ⟨t, e⟩ := bar_parity o
  have k := (nt_cls hD h4).ok.bar
  unfold nt at *
  dsimp only at k ⊢
  exact shift_to (t := t) (by decide) k (by rw [e]; omega) (by have := o.bar; rw [← this]; grind)
theorem cp_nt {D : Int} {f : Q} (hD : D < 0) (h4 : D % 4 = 0 ∨ D % 4 = 1) (o : Ok D f) : Cp f (nt D) f := by
  have c := cp_agree f.a f.b 1 f.c
  rw [Int.one_mul, Int.mul_one] at c
  have e := nt_eqv hD h4 o
  exact c.pull2 hD o ((nt_cls hD h4).ok.eqv hD e) o e.symm
def op (f : Q) : Q := ⟨f.a, -f.b, f.c⟩
theorem op_ok {D : Int} {f : Q} (o : Ok D f) : Ok D (op f) := ⟨o.pos, by have := o.bar; unfold op; dsimp only; rw [← this]; grind⟩
theorem op_bare {f : Q} (b : Bare f) : Bare (op f) := by
  obtain ⟨l1, l2, l3, h⟩ := b
  exact ⟨l1, -l2, l3, by unfold op; dsimp only; rw [← h]; grind⟩
theorem cp_op {D : Int} {f : Q} (hD : D < 0) (h4 : D % 4 = 0 ∨ D % 4 = 1) (o : Ok D f) : Cp f (op f) (nt D) := by
  have c0 : 0 < f.c := zpos_of o.pos (by rw [o.bar]; exact hD)
  have c := cp_agree f.a f.b f.c 1
  rw [Int.mul_one, Int.mul_one] at c
  have sw : ∀ x y z : Int, Eqv ⟨x, y, z⟩ ⟨z, -y, x⟩ := fun x y z => by
    refine ⟨0, -1, 1, 0, by omega, ?_, ?_, ?_⟩ <;> (try unfold W) <;> dsimp only <;> grind
  have o2 : Ok D ⟨f.c, f.b, f.a⟩ := ⟨c0, by have := o.bar; dsimp only; rw [← this]; grind⟩
  have o3 : Ok D ⟨f.a * f.c, f.b, 1⟩ := ⟨Int.mul_pos o.pos c0, by have := o.bar; dsimp only; rw [← this]; grind⟩
  have c1 : Cp f (op f) ⟨f.a * f.c, f.b, 1⟩ := c.pull2 hD o o2 o3 (sw f.c f.b f.a)
  refine c1.target ((sw _ _ _).trans ?_)
  have := nt_eqv hD h4 (op_ok o)
  exact this.symm
structure BarD (D : Int) : Prop where
  neg : D < 0
  four : D % 4 = 0 ∨ D % 4 = 1
noncomputable def grp {D : Int} (h : BarD D) : AbG (C D) where
  mul x y := Classical.choose (mul_ex h.neg x y)
  one := ⟨nt D, nt_cls h.neg h.four⟩
  inv x := ⟨Classical.choose (cls_ex h.neg (op_ok x.2.ok) (op_bare x.2.bare)), (Classical.choose_spec (cls_ex h.neg (op_ok x.2.ok) (op_bare x.2.bare))).2⟩
  comm x y := mul_one' h.neg (Classical.choose_spec (mul_ex h.neg x y)) (Classical.choose_spec (mul_ex h.neg y x)).swap
  assoc x y z := by
    have c1 := Classical.choose_spec (mul_ex h.neg x y)
    generalize Classical.choose (mul_ex h.neg x y) = xy at *
    have c2 := Classical.choose_spec (mul_ex h.neg xy z)
    generalize Classical.choose (mul_ex h.neg xy z) = xyz at *
    have c3 := Classical.choose_spec (mul_ex h.neg y z)
    generalize Classical.choose (mul_ex h.neg y z) = yz at *
    have c4 := Classical.choose_spec (mul_ex h.neg x yz)
    generalize Classical.choose (mul_ex h.neg x yz) = w at *
    exact Subtype.ext (xyz.2.one w.2 (cp_assoc h.neg x.2.ok y.2.ok z.2.ok x.2.bare y.2.bare z.2.bare xy.2.ok xyz.2.ok yz.2.ok w.2.ok xy.2.bare c1 c2 c3 c4))
  mul_one x := by
    have c1 := Classical.choose_spec (mul_ex h.neg x ⟨nt D, nt_cls h.neg h.four⟩)
    exact mul_one' h.neg c1 (cp_nt h.neg h.four x.2.ok)
  mul_inv x := by
    have c1 := Classical.choose_spec (mul_ex h.neg x ⟨Classical.choose (cls_ex h.neg (op_ok x.2.ok) (op_bare x.2.bare)), (Classical.choose_spec (cls_ex h.neg (op_ok x.2.ok) (op_bare x.2.bare))).2⟩)
    have e := (Classical.choose_spec (cls_ex h.neg (op_ok x.2.ok) (op_bare x.2.bare))).1
    refine mul_one' h.neg c1 ?_
    exact (cp_op h.neg h.four x.2.ok).pull2 h.neg x.2.ok (op_ok x.2.ok) (nt_cls h.neg h.four).ok e
theorem grp_mul {D : Int} (h : BarD D) (x y : C D) : Cp x.1 y.1 ((grp h).mul x y).1 := Classical.choose_spec (mul_ex h.neg x y)
theorem grp_of {D : Int} (h : BarD D) {x y z : C D} (c : Cp x.1 y.1 z.1) : (grp h).mul x y = z := mul_one' h.neg (grp_mul h x y) c
end MG
namespace CM
open PySem PySem.Spec L2 FL FT MG
abbrev qD (q : Q) : D := formD q.a q.b q.c
abbrev QJ (q : Q) : Prop := FormJ q.a q.b q.c
theorem fzQ (q : Q) : Fz (qD q) := fz3 _ _ _
theorem bare_gcd {q : Q} (h : Bare q) : Int.gcd (Int.gcd q.a q.b) q.c = 1 := by
  obtain ⟨l1, l2, l3, hl⟩ := h
  have d1 : ((Int.gcd (Int.gcd q.a q.b) q.c : Nat) : Int) ∣ ((Int.gcd q.a q.b : Nat) : Int) := Int.gcd_dvd_left _ _
  have da := Int.dvd_trans d1 (Int.gcd_dvd_left q.a q.b)
  have db := Int.dvd_trans d1 (Int.gcd_dvd_right q.a q.b)
  have dc : ((Int.gcd (Int.gcd q.a q.b) q.c : Nat) : Int) ∣ q.c := Int.gcd_dvd_right _ _
  have : ((Int.gcd (Int.gcd q.a q.b) q.c : Nat) : Int) ∣ ((1 : Nat) : Int) := by
    show _ ∣ (1 : Int)
    rw [← hl]
    exact Int.dvd_add (Int.dvd_add (Int.dvd_mul_of_dvd_right da) (Int.dvd_mul_of_dvd_right db)) (Int.dvd_mul_of_dvd_right dc)
  exact Nat.dvd_one.mp (Int.natCast_dvd_natCast.mp this)
theorem gcd_bare {q : Q} (h : Int.gcd (Int.gcd q.a q.b) q.c = 1) : Bare q := bez_of h
theorem QJ.okb {q : Q} {i : Int} (h : QJ q) (e : q.b * q.b - 4 * q.a * q.c = i) : Ok i q ∧ Bare q := ⟨⟨h.pos, e⟩, gcd_bare h.bare⟩
structure BarS (i : Int) : Prop where
  d : BarD i
  s : Bd i 1200
theorem cls_J {i : Int} (h : BarS i) (x : C i) : QJ x.1 := by
  have e := x.2.ok.bar
  refine least_J (least_bd x.2.ok.pos x.2.least ?_ ?_) x.2.least (bare_gcd x.2.bare)
  · rw [e]; exact h.d.neg
  · rw [e]; exact h.s
theorem cls_of {q : Q} (h : QJ q) {i : Int} (e : q.b * q.b - 4 * q.a * q.c = i) (hi : i < 0) : ∃ x : C i, Eqv q x.1 := by
  obtain ⟨o, b⟩ := QJ.okb h e
  obtain ⟨g, l, c⟩ := cls_ex hi o b
  exact ⟨⟨g, c⟩, l⟩
theorem eqv_leads {f g : Q} (h : Eqv f g) : ∃ p q r s : Int, Leads f.a f.b f.c p q r s g.a g.b g.c := by
  obtain ⟨p, q, r, s, l⟩ := h
  exact ⟨p, q, r, s, .of l⟩
section
variable {X : Cx} {e1 e2 : Expr} {ρ : Ro} {p0 p1 p2 p3 : Pos} {m : Nat} {i : Int}
theorem ev_joinedC {f g : Q} {x y : C i} (hi : BarS i) (Gj : FnR X.prog X.w X.K X.mg X.base 8 "joined" pre_joined post_joined) (hr : Room 8 X.A) (h1 : Ev X e1 ρ (qD f)) (h2 : Ev X e2 ρ (qD g)) (J1 : QJ f) (J2 : QJ g) (c1 : Eqv f x.1) (c2 : Eqv g y.1)
    (hg : Gl X "joined" := by rfl) (he : starEach [e1, e2] X.env = (false, eval e1 X.env) :: starEach [e2] X.env := by rfl) (he2 : starEach [e2] X.env = (false, eval e2 X.env) :: starEach [] X.env := by rfl) (hpl : (backTo p1 (starEach [e2] X.env)).any (·.1) = false := by rfl) :
    Ev X (.Subscript (.Call (.Name "joined" p0) [e1, e2] [] p1) (.Constant (.int 0) m p2) p3) ρ (qD ((grp hi.d).mul x y).1) := by
  have b1 : f.b * f.b - 4 * f.a * f.c = i := by have := c1.symm.bar; rw [this]; exact x.2.ok.bar
  have b2 : g.b * g.b - 4 * g.a * g.c = i := by have := c2.symm.bar; rw [this]; exact y.2.ok.bar
  refine EvR.ev (evr_ix (evr_call Gj hr (ea_cons h1 (ea_cons h2 ea_nil he2) he) ⟨f.a, f.b, f.c, g.a, g.b, g.c, rfl, J1, J2, by rw [b1, b2]⟩ hg (by decide) he hpl) ev_int (fun c hc => ?_))
  obtain ⟨A2, B2, C2, Z0, Z1, Z2, Z3, W0, W1, W2, W3, rfl, K2⟩ := hc _ _ _ _ _ _ rfl
  have kJ := K2.J J1 J2
  have okF : Cls i ⟨A2, B2, C2⟩ := ⟨⟨K2.s.pos, by rw [← b1]; exact K2.bar⟩, bez_of (K2.bare J1 J2), K2.least⟩
  have cp : Cp f g ⟨A2, B2, C2⟩ := ⟨_, _, _, _, _, _, _, _, K2.comp⟩
  have cp2 := (cp.pull hi.d.neg ⟨J1.pos, b1⟩ ⟨J2.pos, b2⟩ okF.ok c1).pull2 hi.d.neg x.2.ok ⟨J2.pos, b2⟩ okF.ok c2
  have e := grp_of hi.d (x := x) (y := y) (z := ⟨_, okF⟩) cp2
  exact ⟨_, _, rfl, rfl, by rw [e]⟩
theorem ev_leastC {f : Q} {x : C i} (Gl : FnR X.prog X.w X.K X.mg X.base 5 "least_of" pre_form post_least_of) (hr : Room 5 X.A) (h1 : Ev X e1 ρ (qD f)) (S : FormS f.a f.b f.c) (c1 : Eqv f x.1)
    (hg : L2.Gl X "least_of" := by rfl) (he : starEach [e1] X.env = (false, eval e1 X.env) :: starEach [] X.env := by rfl) (hpl : (backTo p1 (starEach [] X.env)).any (·.1) = false := by rfl) :
    Ev X (.Subscript (.Call (.Name "least_of" p0) [e1] [] p1) (.Constant (.int 0) m p2) p3) ρ (qD x.1) := by
  obtain ⟨p, q, r, s, l⟩ := eqv_leads c1
  exact ev_least0 Gl hr h1 S l x.2.least x.2.ok.pos hg he hpl
end
def p_require_whole (ds : List D) (d : D) : Prop := ∃ n : Int, ds = [.int n] ∧ d = .non
end CM
namespace CM
open PySem PySem.Spec L2 FL FT MG
end CM
namespace FL
open PySem PySem.Spec PyProof.Rows L2
section
variable {X : Cx} {e a b c tg : Expr} {es : List Expr} {ρ : Ro} {d : D} {ds : List D} {pos : Pos} {i j k : Int} {rest A B : List Stmt} {P : Po}
end
section
variable {X : Cx} {e a b c tg : Expr} {es : List Expr} {ρ : Ro} {d : D} {ds : List D} {pos : Pos} {i j k : Int} {rest A B : List Stmt} {P : Po}
end
end FL
namespace MP
end MP
namespace CM
open PySem PySem.Spec L2 FL FT MP
def p_require_bar_from (ds : List D) (d : D) : Prop := ∃ i l : Int, ds = [.int i, .int l] ∧ i < 0 ∧ (i % 4 = 0 ∨ i % 4 = 1) ∧ l ≤ i ∧ d = .non
end CM
namespace CM
open PySem PySem.Spec L2 FL FT MP
end CM
namespace CM
open PySem PySem.Spec L2 FL FT MG
def lfC (i a b : Int) : Bool := decide ((b * b - i) % (4 * a) = 0) && MT.leastB a b ((b * b - i) / (4 * a))
def lfQ (i a b : Int) : Q := ⟨a, b, (b * b - i) / (4 * a)⟩
def lfN (i a : Int) (n : Nat) : List Q := (((List.range n).map fun (t : Nat) => -a + (t : Int)).filter (lfC i a)).map (lfQ i a)
def lfA (i a : Int) : List Q := lfN i a (2 * a + 1).toNat
def lfs (i : Int) (n : Nat) : List Q := (List.range n).flatMap fun (t : Nat) => lfA i ((t : Int) + 1)
def LF (i : Int) : List Q := lfs i 40
theorem lfs_succ (i : Int) (n : Nat) : lfs i (n + 1) = lfs i n ++ lfA i ((n : Int) + 1) := by
  unfold lfs
  rw [List.range_succ, List.flatMap_append]
  simp
theorem least_three {a b c : Int} (ha : 0 < a) (L : MT.Least a b c) : 3 * (a * a) ≤ 4 * a * c - b * b := by
  have h1 := MT.mul_nn (show 0 ≤ a - b by have := L.hi; omega) (show 0 ≤ a + b by have := L.lo; omega)
  have h2 := MT.mul_nn (Int.le_of_lt ha) (show 0 ≤ c - a by have := L.ac; omega)
  grind
theorem mem_lfN {i a : Int} {n : Nat} {q : Q} (ha : 0 < a) (hn : n ≤ (2 * a + 1).toNat) : q ∈ lfN i a n ↔ q.a = a ∧ q.b < -a + (n : Int) ∧ q.b * q.b - 4 * q.a * q.c = i ∧ MT.Least q.a q.b q.c := by
  unfold lfN
  constructor
  · intro h
    obtain ⟨b, hb, rfl⟩ := List.mem_map.mp h
    obtain ⟨hb, hc⟩ := List.mem_filter.mp hb
    obtain ⟨t, ht, rfl⟩ := List.mem_map.mp hb
    have ht' := List.mem_range.mp ht
    unfold lfC at hc
    simp only [Bool.and_eq_true, decide_eq_true_eq] at hc
    refine ⟨rfl, by show -a + (t : Int) < _; omega, ?_, MT.leastB_iff.mp hc.2⟩
    have := Int.mul_ediv_cancel' (Int.dvd_of_emod_eq_zero hc.1)
    unfold lfQ
    dsimp only
    omega
  · rintro ⟨rfl, h2, h3, L⟩
    obtain ⟨a, b, c⟩ := q
    dsimp only at *
    have lo := L.lo
    have e : 4 * a * c = b * b - i := by omega
    have ec : (b * b - i) / (4 * a) = c := MJ.div_of (by omega) e.symm
    refine List.mem_map.mpr ⟨b, List.mem_filter.mpr ⟨List.mem_map.mpr ⟨(b + a).toNat, List.mem_range.mpr (by omega), by omega⟩, ?_⟩, by unfold lfQ; rw [ec]⟩
    unfold lfC
    rw [ec]
    simp only [Bool.and_eq_true, decide_eq_true_eq]
    exact ⟨by rw [← e]; exact Int.mul_emod_right _ _, MT.leastB_iff.mpr L⟩
theorem mem_lfA {i a : Int} {q : Q} (ha : 0 < a) : q ∈ lfA i a ↔ q.a = a ∧ q.b * q.b - 4 * q.a * q.c = i ∧ MT.Least q.a q.b q.c := by
  unfold lfA
  rw [mem_lfN ha (Nat.le_refl _)]
  constructor
  · rintro ⟨h1, _, h3, h4⟩
    exact ⟨h1, h3, h4⟩
  · rintro ⟨h1, h3, h4⟩
    have := h4.hi
    exact ⟨h1, by omega, h3, h4⟩
theorem lfA_nil {i a : Int} (ha : 0 < a) (h : -i < 3 * (a * a)) : lfA i a = [] := by
  refine List.eq_nil_iff_forall_not_mem.mpr fun q hq => ?_
  obtain ⟨e1, e2, L⟩ := (mem_lfA ha).mp hq
  have := least_three (by rw [e1]; exact ha) L
  rw [e1] at this e2
  omega
theorem sq_mono {a b : Int} (ha : 0 ≤ a) (h : a ≤ b) : a * a ≤ b * b := Int.mul_le_mul h h ha (by omega)
theorem lfs_end {i : Int} {n : Nat} (hn : n ≤ 40) (h : -i < 3 * (((n : Int) + 1) * ((n : Int) + 1))) : lfs i n = LF i := by
  have key : ∀ k, n + k ≤ 40 → lfs i (n + k) = lfs i n := fun k => by
    induction k with
    | zero => intro _; rfl
    | succ k ih =>
      intro hk
      rw [← Nat.add_assoc, lfs_succ, ih (by omega), lfA_nil (by omega), List.append_nil]
      have := sq_mono (a := (n : Int) + 1) (b := (((n + k : Nat) : Int)) + 1) (by omega) (by omega)
      omega
  have := key (40 - n) (by omega)
  rw [show n + (40 - n) = 40 by omega] at this
  exact this.symm
theorem mem_LF {i : Int} {q : Q} (hi : -4000 ≤ i) : q ∈ LF i ↔ Ok i q ∧ MT.Least q.a q.b q.c := by
  unfold LF lfs
  constructor
  · intro h
    obtain ⟨t, _, h⟩ := List.mem_flatMap.mp h
    obtain ⟨e1, e2, L⟩ := (mem_lfA (by omega)).mp h
    exact ⟨⟨by rw [e1]; omega, e2⟩, L⟩
  · rintro ⟨o, L⟩
    have h3 := least_three o.pos L
    have hb := o.bar
    have ha := o.pos
    have : q.a ≤ 40 := by
      refine Int.not_lt.mp fun z => ?_
      have := sq_mono (a := 41) (b := q.a) (by decide) (by omega)
      omega
    exact List.mem_flatMap.mpr ⟨(q.a - 1).toNat, List.mem_range.mpr (by omega), (mem_lfA (by omega)).mpr ⟨by omega, o.bar, L⟩⟩
structure BarL (i : Int) : Prop where
  d : BarD i
  low : -4000 ≤ i
theorem BarL.s {i : Int} (h : BarL i) : BarS i := by
  refine ⟨h.d, .of_lt ?_⟩
  have h1 := h.low
  have h2 := h.d.neg
  have h3 : (4001 : Nat) < 2 ^ 1200 := by decide +kernel
  generalize (2 : Nat) ^ 1200 = N at *
  omega
theorem lf_len {i a : Int} (n : Nat) : (lfN i a n).length ≤ n := by
  unfold lfN
  rw [List.length_map]
  refine Nat.le_trans (List.length_filter_le _ _) ?_
  simp
def bareB (q : Q) : Bool := decide (((Int.gcd (Int.gcd q.a q.b) q.c : Nat) : Int) = 1)
def clsL (i : Int) : List Q := (LF i).filter bareB
theorem bare_iff {q : Q} : Bare q ↔ ((Int.gcd (Int.gcd q.a q.b) q.c : Nat) : Int) = 1 := by
  constructor
  · intro h
    rw [bare_gcd h]
    rfl
  · intro h
    exact gcd_bare (by omega)
theorem bareB_iff {q : Q} : bareB q = true ↔ Bare q := by
  unfold bareB
  rw [decide_eq_true_eq]
  exact bare_iff.symm
theorem mem_cls {i : Int} (h : BarL i) {q : Q} : q ∈ clsL i ↔ Cls i q := by
  unfold clsL
  rw [List.mem_filter, mem_LF h.low, bareB_iff]
  constructor
  · rintro ⟨⟨o, L⟩, b⟩
    exact ⟨o, b, L⟩
  · intro c
    exact ⟨⟨c.ok, c.least⟩, c.bare⟩
end CM
namespace FQ
open PySem PyProof.Rows
section
variable {M : Model} {A : Around} {E : Value → Shared → Prop} {s : Shared} {κ : SortKind} {kf : Keyed → Int} {S : Keyed → Prop}
end
end FQ
namespace FQ
open PySem PyProof.Rows
section
variable {kf : Keyed → Int} {T O X X1 X2 Y Y1 Y2 : List Keyed}
end
end FQ
namespace FQ
open PySem PyProof.Rows
section
variable {M : Model} {A : Around} {E : Value → Shared → Prop} {s : Shared} {κ : SortKind} {kf : Keyed → Int} {S : Keyed → Prop}
end
end FQ
namespace FQ
open PySem PyProof.Rows
section
variable {kf : Keyed → Int} {T O X Y : List Keyed}
end
section
variable {M : Model} {A : Around} {E : Value → Shared → Prop} {s : Shared} {κ : SortKind} {kf : Keyed → Int} {S : Keyed → Prop}
end
end FQ
namespace FQ
open PySem PyProof.Rows
section
variable {kf : Keyed → Int}
end
end FQ
namespace FQ
open PySem PyProof.Rows
section
variable {M : Model} {A : Around} {E : Value → Shared → Prop} {s : Shared} {κ : SortKind} {kf : Keyed → Int} {S : Keyed → Prop}
end
end FQ
namespace FQ
open PySem PyProof.Rows
section
variable {kf : Keyed → Int} {arr : Array Keyed}
end
section
variable {prog : Program} {w : World} {A : Around} {E : Value → Shared → Prop} {s : Shared} {κ : SortKind} {kf : Keyed → Int} {S : Keyed → Prop}
end
end FQ
namespace FQ
open PySem PyProof.Rows
section
variable {prog : Program} {w : World} {A : Around} {E : Value → Shared → Prop} {s : Shared} {κ : SortKind} {kf : Keyed → Int} {S : Keyed → Prop}
end
section
variable {kf : Keyed → Int}
end
section
variable {prog : Program} {w : World} {A : Around} {E : Value → Shared → Prop} {s : Shared} {κ : SortKind} {kf : Keyed → Int} {S : Keyed → Prop}
end
end FQ
namespace FQ
open PySem PyProof.Rows
section
variable {prog : Program} {w : World} {A : Around} {E : Value → Shared → Prop} {s : Shared} {κ : SortKind} {kf : Keyed → Int} {S : Keyed → Prop}
end
end FQ
namespace FT
open PySem PySem.W PySem.Calls PyProof.Rows
section
variable {prog : Program} {w : World} {A : Around} {E : Value → Shared → Prop} {s : Shared} {vs : List Value} {r : Nat → Int} {κ : SortKind} {n : Nat}
end
end FT
namespace FT
open PySem PySem.W PySem.Spec PySem.Calls PyProof.Rows L2 FL
section
variable {X : Cx} {pins : List (Addr × Obj)} {σ : L2.St} {H : Hp} {s : Shared}
variable {e : Expr} {ρ : Ro} {d : D} {pos p : Pos} {ts : List (List Int)} {k : Nat}
end
end FT
namespace MS
end MS
namespace FL
open PySem PySem.Spec PyProof.Rows L2
section
variable {X : Cx} {e a b c : Expr} {ρ : Ro} {ds : List D} {pos : Pos} {l : Addr}
end
end FL
namespace CM
open PySem PySem.Spec L2 FL FT
end CM
namespace CM
open PySem PySem.Spec L2 FL FT
end CM
namespace CM
open PySem PySem.Spec L2 FL FT
end CM
namespace CM
open PySem PySem.Spec L2 FL FT
end CM
namespace FT
open PySem PySem.W PySem.Spec PySem.Calls PyProof.Rows L2 FL
end FT
namespace CM
open PySem PySem.Spec L2 FL FT MG
end CM
namespace MD
open MG MJ MP
end MD
namespace MD
open MG MJ MP
end MD
namespace MD
open MG MJ MP CM
end MD
namespace MD
open MG MJ MP CM
def sm (N : Nat) (g : Nat → Int) : Int := match N with
  | 0 => 0
  | N + 1 => sm N g + g (N + 1)
end MD
namespace FL
open PySem PySem.Spec PyProof.Rows L2
section
variable {X : Cx} {e a b c : Expr} {es : List Expr} {ρ : Ro} {d x f : D} {ds gs : List D} {pos : Pos} {i j : Int} {k k' : Bool}
end
end FL
namespace CM
open PySem PySem.Spec L2 FL FT FU MG MD MP
theorem sm_le {g : Nat → Int} (h : ∀ k, -1 ≤ g k ∧ g k ≤ 1) : ∀ n : Nat, -(n : Int) ≤ sm n g ∧ sm n g ≤ (n : Int)
  | 0 => ⟨by show -(0 : Int) ≤ 0; decide, by show (0 : Int) ≤ 0; decide⟩
  | n + 1 => by
    have h1 := sm_le h n
    have h2 := h (n + 1)
    show -((n + 1 : Nat) : Int) ≤ sm n g + g (n + 1) ∧ sm n g + g (n + 1) ≤ ((n + 1 : Nat) : Int)
    omega
theorem lfs_len2 {i : Int} : ∀ n : Nat, (lfs i n).length ≤ n * n + 2 * n
  | 0 => by simp [lfs]
  | n + 1 => by
    have h1 := lfs_len2 (i := i) n
    have h2 : (lfA i ((n : Int) + 1)).length ≤ (2 * ((n : Int) + 1) + 1).toNat := lf_len _
    have e : (n + 1) * (n + 1) = n * n + 2 * n + 1 := by grind
    rw [lfs_succ, List.length_append]
    omega
theorem cls_len2 {i : Int} (h : BarL i) : (clsL i).length ≤ 1368 := by
  have h1 := lfs_len2 (i := i) 36
  have h2 := h.low
  have e : lfs i 36 = LF i := lfs_end (by decide) (by omega)
  rw [e] at h1
  exact Nat.le_trans (List.length_filter_le _ _) h1
end CM
namespace L2
open PySem PySem.Spec PyProof.Rows
section
variable {κ : Type} [DecidableEq κ]
end
section
variable {P : Program} {w : World} {H : Hp} {h : Heap} {a : Addr}
end
section
variable {X : Cx} {pins : List (Addr × Obj)} {σ : St} {H : Hp} {s : Shared} {a : Addr} {y v : V} {u r : Value} {o : Option V} {A : Around} {E : Value → Shared → Prop}
end
section
variable {X : Cx} {pins : List (Addr × Obj)} {σ : St} {H : Hp} {s : Shared} {a : Addr} {kvs : List (Key × V)} {k : Key} {u : Value} {A : Around} {E : Value → Shared → Prop}
end
section
variable {X : Cx} {o i e value : Expr} {pos pos' tpos : Pos} {td ty tv : TE}
end
section
variable {X : Cx} {pos : Pos}
end
section
variable {X : Cx} {pins : List (Addr × Obj)} {σ : St} {H : Hp} {s : Shared} {a : Addr} {y d : V} {u r : Value} {o : Option V} {A : Around} {E : Value → Shared → Prop}
end
section
variable {X : Cx} {o e f : Expr} {apos cpos : Pos} {td ty tx : TE}
end
section
variable {X : Cx} {pins : List (Addr × Obj)} {σ : St} {H : Hp} {s : Shared} {a : Addr} {kvs : List (Key × V)} {A : Around} {E : Value → Shared → Prop}
end
section
variable {X : Cx} {pins : List (Addr × Obj)} {σ : St} {H : Hp} {s : Shared} {a : Addr} {y : V} {u : Value} {A : Around} {E : Value → Shared → Prop}
end
end L2
namespace L2
open PySem PySem.Spec PyProof.Rows
section
variable {X : Cx}
end
end L2
namespace L2
open PySem PySem.Spec PyProof.Rows
section
variable {κ : Type} [DecidableEq κ]
end
end L2
namespace FL
open PySem PySem.Spec PyProof.Rows L2
section
variable {X : Cx} {pins : List (Addr × Obj)} {σ : L2.St} {H : Hp} {s : Shared}
theorem ObjOk.obj {P : Program} {w : World} {h : Heap} {a : Addr} {u : HO} (x : ObjOk P w H h a u) {xs : List V} (mu : u = .lst xs ∨ (dOf u).isSome = true) : ∃ o, h.get? a = some o := by
  cases u with
  | lst ys => obtain ⟨_, _, _, _, e⟩ := x; exact ⟨_, e⟩
  | dK kvs => obtain ⟨_, _, _, _, o, _, _, e, _⟩ := x; exact ⟨_, e⟩
  | dT kvs => obtain ⟨_, _, _, _, o, _, _, e, _⟩ := x; exact ⟨_, e⟩
  | _ => rcases mu with z | z <;> cases z
theorem upd_keep {a : Addr} {u o : HO} (hH : H a = some u) (hu : ∀ ys, u ≠ .tup ys) (hf : ∀ ob v, u ≠ .frz ob v) : KT H (upd H a o) :=
  ⟨fun b ys h => by rw [upd_ne (fun z => by subst z; rw [hH] at h; cases h; exact hu _ rfl)]; exact h, fun b ob v h => by rw [upd_ne (fun z => by subst z; rw [hH] at h; cases h; exact hf _ _ rfl)]; exact h⟩
theorem Inv.freeze (I : L2.Inv X pins σ H s) {a : Addr} {u : HO} {xs : List V} (hH : H a = some u) (mu : u = .lst xs ∨ (dOf u).isSome = true) : ∃ o, L2.Inv X pins σ (upd H a (.frz o u)) s := by
  have ok := I.hok a u hH
  obtain ⟨o, ho⟩ := ObjOk.obj ok mu
  have nt : ∀ ys, u ≠ .tup ys := fun ys z => by subst z; rcases mu with z | z <;> cases z
  have nf : ∀ ob v, u ≠ .frz ob v := fun ob v z => by subst z; rcases mu with z | z <;> cases z
  have no : ∀ y, u ≠ .own y := fun ob z => by subst z; rcases mu with z | z <;> cases z
  have kt : KT H (upd H a (.frz o u)) := upd_keep hH nt nf
  have m : Mut (H a) := by
    rw [hH]
    cases u with
    | lst ys => trivial
    | dK kvs => trivial
    | dT kvs => trivial
    | _ => rcases mu with z | z <;> cases z
  refine ⟨o, I.write (x := a) (e := a) (o := .frz o u) (h' := s.heap) (t' := s.toks) m (.inl rfl) (fun b v _ h => h) ⟨o, ho⟩ ⟨ho, ?_⟩⟩
  exact ok.stay (fun b v _ h => h) (fun b h => by rw [upd_ne (fun z => by subst z; rw [hH] at h; cases h; exact no _ rfl)]; exact h) kt.1
end
section
variable {X : Cx} {e a b c : Expr} {es : List Expr} {ρ : Ro} {d : D} {ds : List D} {pos : Pos} {rest : List Stmt} {P : Po}
theorem ev_frz (h : EvN X e ρ ds) (hz : ∀ d ∈ ds, Fz d) : Ev X e ρ (.fl ds) := by
  intro pins s σ H Q I ⟨r, q⟩
  refine thn (h pins s σ H (fun x H' => ∃ a vs, x = .ref a ∧ H a = none ∧ Same H H' ∧ H' a = some (.lst vs) ∧ IsAll X.K H' vs ds) I ⟨r, fun a vs H' h1 h2 h3 h4 => ⟨a, vs, rfl, h1, h2, h3, h4⟩⟩) ?_
  rintro v s' ⟨x, H', I', rx, a, vs, rfl, h1, h2, h3, h4⟩
  obtain ⟨o, I2⟩ := Inv.freeze I' h3 (.inl rfl)
  have kt : KT H' (upd H' a (.frz o (.lst vs))) := upd_keep h3 (fun _ z => by cases z) (fun _ _ z => by cases z)
  exact ⟨.ref a, _, I2, rx, q _ _ (fun b u hb => by rw [upd_ne (ne_of_none hb h1)]; exact h2 b u hb) (.fl upd_same (h4.keep kt hz))⟩
theorem ev_lsF (h : Ev X e ρ (.fl ds)) : Ev X e ρ (.ls ds) := PE.imp h fun σ H Q ⟨r, q⟩ => ⟨r, fun v H' s h1 => by
  obtain ⟨l, o, xs, rfl, h3, h4⟩ := h1.fl_inv
  exact q _ H' s (.ls (.inl (.inr ⟨o, h3⟩)) h4)⟩
variable {ks vs : List D} {t : Bool}
end
section
variable {X : Cx} {e a b c : Expr} {es : List Expr} {ρ : Ro} {d f kd : D} {ds ks vs : List D} {t : Bool} {pos : Pos} {rest : List Stmt} {P : Po}
end
section
variable {X : Cx} {e : Expr} {es : List Expr} {ρ : Ro} {ds ks vs : List D} {t : Bool} {pos : Pos}
end
section
variable {P : Program} {w : World} {K : PySem.W.Frag} {mg : Str → Option Value} {base : Heap}
end
end FL
namespace FO
open PySem PySem.Spec PyProof.Rows
set_option maxRecDepth 100000
section
variable {prog : Program} {w : World} {A : Around} {E : Value → Shared → Prop} {s : Shared}
end
end FO
namespace FL
open PySem PySem.Spec PyProof.Rows L2
section
variable {X : Cx} {e a b c tg : Expr} {es : List Expr} {ρ : Ro} {d d' : D} {ds : List D} {pos : Pos} {i j : Int} {rest A B : List Stmt} {P : Po}
end
end FL
namespace FO
open PySem PySem.Spec PyProof.Rows
set_option maxRecDepth 100000
section
variable {prog : Program} {w : World} {A : Around} {E : Value → Shared → Prop} {s : Shared} {d : Addr} {es : Array DictEntry} {ep : Nat}
end
end FO
namespace FL
open PySem PySem.Spec PyProof.Rows L2
section
variable {X : Cx} {e a b c tg : Expr} {es : List Expr} {ρ : Ro} {d d' : D} {ds ks vs : List D} {t : Bool} {pos : Pos} {rest A B : List Stmt} {P : Po}
end
end FL
namespace FO
open PySem PySem.Spec PyProof.Rows
set_option maxRecDepth 100000
section
variable {prog : Program} {w : World} {A : Around} {E : Value → Shared → Prop} {s : Shared} {d : Addr} {es : Array DictEntry} {ep : Nat}
end
end FO
namespace FL
open PySem PySem.Spec PyProof.Rows L2
section
variable {X : Cx} {e : Expr} {ρ : Ro} {ks vs : List D} {t : Bool} {pos : Pos} {x : Str} {px : Pos}
end
end FL
namespace FT
open PySem PySem.W PySem.Spec PySem.Calls PyProof.Rows L2 FL
section
variable {X : Cx} {pins : List (Addr × Obj)} {σ : L2.St} {H : Hp} {s : Shared}
variable {e : Expr} {ρ : Ro} {d : D} {pos p : Pos} {ns : List Int}
end
end FT
namespace FL
open PySem PySem.W PySem.Spec PySem.Calls PyProof.Rows L2 FT
section
variable {X : Cx}
variable {a b : Expr} {ρ : Ro} {f : D} {ns : List Int} {k : Int}
end
section
variable {X : Cx} {a : Expr} {ρ : Ro} {t k : Bool} {ks vs ds : List D} {pos : Pos}
end
section
variable {X : Cx} {e tg : Expr} {ρ : Ro} {ds : List D}
theorem wk_fl (h : Ev X e ρ (.fl ds)) (hz : ∀ d ∈ ds, Fz d) : Wk X (fun _ => True) tg e ρ ds := by
  refine PI.imp (pi_list h) ?_
  rintro σ H R ⟨r, q⟩
  refine ⟨r.e, fun v H1 s1 h1 => ?_⟩
  obtain ⟨p, ob, xs, rfl, hT, hA⟩ := h1.fl_inv
  refine ⟨p, rfl, ⟨xs, .inl (.inr ⟨ob, hT⟩)⟩, q _ H1 s1 (srcS_L fun ρ' H3 σ3 g r3 _ => ?_)⟩
  have kt := g.kt (r.mono s1)
  exact ⟨xs, .inl (.inr ⟨ob, kt.2 _ _ _ hT⟩), hA.keep kt hz⟩
end
end FL
namespace CM
open PySem MG
end CM
namespace MG
theorem nodup_le {α : Type} : ∀ {l m : List α}, l.Nodup → (∀ x ∈ l, x ∈ m) → l.length ≤ m.length
  | [], _, _, _ => Nat.zero_le _
  | x :: l, m, hl, h => by
    obtain ⟨n1, n2⟩ := List.nodup_cons.mp hl
    obtain ⟨s, t, e⟩ := List.append_of_mem (h x List.mem_cons_self)
    have := nodup_le (m := s ++ t) n2 fun y hy => by
      have h1 := h y (List.mem_cons_of_mem _ hy)
      rw [e] at h1
      rcases List.mem_append.mp h1 with z | z
      · exact List.mem_append.mpr (.inl z)
      · rcases List.mem_cons.mp z with rfl | z
        · exact absurd hy n1
        · exact List.mem_append.mpr (.inr z)
    rw [e]
    simp only [List.length_append, List.length_cons] at this ⊢
    omega
theorem least_nat {P : Nat → Prop} : ∀ n : Nat, P n → ∃ m, P m ∧ ∀ k, k < m → ¬ P k := by
  intro n
  induction n using Nat.strongRecOn with
  | _ n ih =>
    intro h
    by_cases e : ∃ k, k < n ∧ P k
    · obtain ⟨k, hk, pk⟩ := e
      exact ih k hk pk
    · exact ⟨n, h, fun k hk pk => e ⟨k, hk, pk⟩⟩
section
variable {G : Type} [AbG G]
open AbG
theorem mul_cancelL {x y z : G} (h : mul z x = mul z y) : x = y := by
  rw [comm z x, comm z y] at h
  exact mul_cancelR h
theorem pw_rep {L : List G} (h : ∀ x : G, x ∈ L) (x : G) : ∃ n, 0 < n ∧ n ≤ L.length ∧ pw x n = one := by
  by_cases e : ∃ i j, i < j ∧ j ≤ L.length ∧ pw x i = pw x j
  · obtain ⟨i, j, hij, hj, e⟩ := e
    refine ⟨j - i, by omega, by omega, ?_⟩
    have e2 : pw x j = mul (pw x i) (pw x (j - i)) := by rw [← pw_add]; congr 1; omega
    have e3 : mul (pw x i) (pw x (j - i)) = mul (pw x i) one := by rw [← e2, ← e, mul_one]
    exact mul_cancelL e3
  · exfalso
    have nd : ((List.range (L.length + 1)).map (pw x)).Nodup := by
      rw [List.nodup_iff_pairwise_ne, List.pairwise_map]
      have r := List.pairwise_lt_range (n := L.length + 1)
      refine r.imp_of_mem fun {a b} ha hb hab z => e ⟨a, b, hab, ?_, z⟩
      have := List.mem_range.mp hb
      omega
    have := nodup_le nd fun y _ => h y
    rw [List.length_map, List.length_range] at this
    omega
class FinG (G : Type) [AbG G] where
  all : List G
  mem : ∀ x : G, x ∈ all
variable [FinG G]
theorem ord_ex (x : G) : ∃ n, (0 < n ∧ pw x n = one) ∧ ∀ k, k < n → ¬ (0 < k ∧ pw x k = one) := by
  obtain ⟨n, h1, _, h2⟩ := pw_rep (FinG.mem (G := G)) x
  exact least_nat n ⟨h1, h2⟩
noncomputable def ord (x : G) : Nat := Classical.choose (ord_ex x)
theorem ord_pos (x : G) : 0 < ord x := (Classical.choose_spec (ord_ex x)).1.1
theorem pw_ord (x : G) : pw x (ord x) = one := (Classical.choose_spec (ord_ex x)).1.2
theorem ord_min {x : G} {k : Nat} (h0 : 0 < k) (h : pw x k = one) : ord x ≤ k :=
  Nat.not_lt.mp fun z => (Classical.choose_spec (ord_ex x)).2 k z ⟨h0, h⟩
theorem ord_le (x : G) : ord x ≤ (FinG.all (G := G)).length := by
  obtain ⟨n, h1, h2, h3⟩ := pw_rep (FinG.mem (G := G)) x
  exact Nat.le_trans (ord_min h1 h3) h2
noncomputable def rnd (x : G) : List G := (List.range (ord x)).map fun k => pw x (k + 1)
end
end MG
namespace CM
open PySem PySem.Spec L2 FL FT MG
def clsC {i : Int} (h : BarL i) : List (C i) := (clsL i).pmap (fun q hq => (⟨q, (mem_cls h).mp hq⟩ : C i)) fun _ hq => hq
theorem pmap_val {i : Int} (h : BarL i) : ∀ (l : List Q) (hl : ∀ q ∈ l, q ∈ clsL i), ((l.pmap (fun q hq => (⟨q, (mem_cls h).mp hq⟩ : C i)) hl).map fun x : C i => x.1) = l
  | [], _ => rfl
  | q :: l, hl => congrArg (q :: ·) (pmap_val h l fun p hp => hl p (List.mem_cons_of_mem _ hp))
theorem clsC_val {i : Int} (h : BarL i) : ((clsC h).map fun x : C i => x.1) = clsL i := pmap_val h _ _
theorem mem_clsC {i : Int} (h : BarL i) (x : C i) : x ∈ clsC h := List.mem_pmap.mpr ⟨x.1, (mem_cls h).mpr x.2, rfl⟩
@[reducible] def finC {i : Int} (h : BarL i) : @FinG (C i) (grp h.d) := @FinG.mk (C i) (grp h.d) (clsC h) (mem_clsC h)
section
variable {i : Int} (h : BarL i)
noncomputable def od (x : C i) : Nat := @ord (C i) (grp h.d) (finC h) x
noncomputable def rd (x : C i) : List (C i) := @rnd (C i) (grp h.d) (finC h) x
abbrev cD {i : Int} (x : C i) : D := qD x.1
noncomputable abbrev pwC (x : C i) (n : Nat) : C i := @pw (C i) (grp h.d) x n
noncomputable abbrev oneC : C i := (grp h.d).one
noncomputable def rdD (x : C i) : List D := (rd h x).map cD
noncomputable def rdN (x : C i) (n : Nat) : List D := (List.range n).map fun k => cD (pwC h x (k + 1))
theorem rdD_eq (x : C i) : rdD h x = rdN h x (od h x) := by unfold rdD rd rnd rdN; rw [List.map_map]; rfl
theorem rdN_len (x : C i) (n : Nat) : (rdN h x n).length = n := by unfold rdN; rw [List.length_map, List.length_range]
theorem rdD_len (x : C i) : (rdD h x).length = od h x := by rw [rdD_eq, rdN_len]
theorem rdN_succ (x : C i) (n : Nat) : rdN h x (n + 1) = rdN h x n ++ [cD (pwC h x (n + 1))] := by unfold rdN; rw [List.range_succ, List.map_append]; rfl
theorem od_pos (x : C i) : 0 < od h x := @ord_pos (C i) (grp h.d) (finC h) x
theorem od_le (x : C i) : od h x ≤ 1368 := by
  have := @ord_le (C i) (grp h.d) (finC h) x
  have e : (clsC h).length = (clsL i).length := by rw [← clsC_val h, List.length_map]
  have l := cls_len2 h
  exact Nat.le_trans this (by show (clsC h).length ≤ _; omega)
theorem rdN_get (x : C i) {n k : Nat} (hk : k < n) : (rdN h x n)[k]? = some (cD (pwC h x (k + 1))) := by
  unfold rdN
  rw [List.getElem?_map, List.getElem?_range hk]
  rfl
theorem cD_inj {i : Int} {x y : C i} (e : cD x = cD y) : x = y := by
  have e' : qD x.1 = qD y.1 := e
  unfold qD formD at e'
  simp only [D.tup.injEq, List.cons.injEq, D.int.injEq, and_true] at e'
  refine Subtype.ext ?_
  obtain ⟨a, b, c⟩ := e'
  cases hx : x.1
  cases hy : y.1
  rw [hx, hy] at a b c
  simp only at a b c
  subst a b c
  rfl
theorem fzC {i : Int} (x : C i) : Fz (cD x) := fzQ _
theorem fzN (x : C i) (n : Nat) : ∀ d ∈ rdN h x n, Fz d := fun d hd => by unfold rdN at hd; obtain ⟨k, _, rfl⟩ := List.mem_map.mp hd; exact fzC _
theorem fzR (x : C i) : ∀ d ∈ rdD h x, Fz d := by rw [rdD_eq]; exact fzN h x _
theorem pw_ne {x : C i} {n : Nat} (h0 : 0 < n) (hn : n < od h x) : pwC h x n ≠ oneC h := fun z => by
  have := @ord_min (C i) (grp h.d) (finC h) x n h0 z
  unfold od at hn
  omega
theorem pw_od (x : C i) : pwC h x (od h x) = oneC h := @pw_ord (C i) (grp h.d) (finC h) x
theorem lastN (x : C i) {n : Nat} (h0 : 0 < n) : atI (rdN h x n) (-1) = some (cD (pwC h x n)) := by
  unfold atI ixN
  rw [rdN_len]
  have := rdN_get h x (n := n) (k := n - 1) (by omega)
  have e : n - 1 + 1 = n := by omega
  rw [e] at this
  rw [if_neg (by omega), if_pos (by omega)]
  have e2 : ((n : Int) + -1).toNat = n - 1 := by omega
  have e3 : ((-1 : Int) + (n : Int)).toNat = n - 1 := by omega
  first | (show (rdN h x n)[((n : Int) + -1).toNat]? = _; rw [e2]; exact this) | (show (rdN h x n)[((-1 : Int) + (n : Int)).toNat]? = _; rw [e3]; exact this)
def lenAt (ρ : Ro) (k : Nat) : Nat := match ρ[k]? with
  | some (some (.lst _ ds)) => ds.length
  | _ => 0
end
def p_round_of_class (ds es : List D) : Prop := ∃ (i : Int) (h : BarL i) (x : C i), ds = [cD x] ∧ es = rdD h x
def p_round_of (ds es : List D) : Prop := ∃ (i : Int) (h : BarL i) (x : C i) (q : Q), ds = [qD q] ∧ QJ q ∧ Eqv q x.1 ∧ es = rdD h x
section
variable {i : Int} (h : BarL i)
end
section
variable {i : Int} (h : BarL i)
end
section
variable {i : Int} (h : BarL i)
end
theorem sqLe {a b : Int} (h0 : -a ≤ b) (h1 : b ≤ a) : b * b ≤ a * a := by
  have h := Int.mul_nonneg (show 0 ≤ a - b by omega) (show 0 ≤ a + b by omega)
  have e : (a - b) * (a + b) = a * a - b * b := by grind
  omega
section
variable {i : Int} (h : BarL i)
include h in
theorem cls_sz (x : C i) : Bd x.1.a 11 ∧ Bd x.1.b 11 ∧ Bd x.1.c 11 := by
  have pa := x.2.ok.pos
  have L := x.2.least
  have bx : x.1.b * x.1.b - 4 * x.1.a * x.1.c = i := x.2.ok.bar
  have t := least_three pa L
  have lo := h.low
  have l1 := L.lo
  have l2 := L.hi
  have l3 := L.ac
  generalize x.1.a = a at *
  generalize x.1.b = b at *
  generalize x.1.c = c at *
  have a36 : a ≤ 36 := by
    refine Int.not_lt.mp fun z => ?_
    have := sq_mono (a := 37) (b := a) (by decide) (by omega)
    omega
  have s1 : b * b ≤ a * a := sqLe (by omega) l2
  have s2 : a * a ≤ 36 * 36 := sq_mono (by omega) a36
  have s3 : 4 * c ≤ 4 * a * c := by
    have : c ≤ a * c := by
      have := Int.mul_le_mul_of_nonneg_right (show 1 ≤ a by omega) (show 0 ≤ c by omega)
      omega
    have e : 4 * a * c = 4 * (a * c) := by grind
    omega
  exact ⟨.of_lt (by omega), .of_lt (by omega), .of_lt (by omega)⟩
theorem at_rd (x : C i) {k : Nat} (hk : k < od h x) : atI (rdD h x) (k : Int) = some (cD (pwC h x (k + 1))) := by rw [rdD_eq]; exact L2.atI_nat (rdN_get h x hk)
theorem first_rd (x : C i) : atI (rdD h x) 0 = some (cD x) := by
  have := at_rd h x (od_pos h x)
  rw [show pwC h x (0 + 1) = x from @MG.pw_one (C i) (grp h.d) x] at this
  exact this
end
section
variable {i : Int} (h : BarL i)
end
end CM
namespace FO
open PySem PySem.Spec PyProof.Rows
section
variable {prog : Program} {w : World} {A : Around} {E : Value → Shared → Prop} {s : Shared} {d : Addr} {es : Array DictEntry} {ep : Nat}
end
end FO
namespace FL
open PySem PySem.Spec PyProof.Rows L2
section
variable {X : Cx} {a b : Expr} {ρ : Ro} {t : Bool} {ks vs ds : List D} {d kd : D} {pos : Pos}
end
end FL
namespace MG
section
variable {G : Type} [AbG G]
open AbG
variable [FinG G]
end
end MG
namespace FL
open PySem PySem.Spec PyProof.Rows L2
end FL
namespace CM
open PySem PySem.Spec L2 FL FT MG
section
variable {i : Int} (h : BarL i)
end
section
variable {i : Int} (h : BarL i)
end
end CM
namespace FK
open PySem
end FK
namespace FK
open PySem
end FK
namespace FK
open PySem PySem.Spec PyProof.Rows
section
variable {prog : Program} {w : World} {A : Around} {E : Value → Shared → Prop} {s : Shared} {a : Addr} {S : Int → Prop} {n : Nat}
end
end FK
namespace FK
open PySem PySem.Spec PyProof.Rows
section
variable {prog : Program} {w : World} {A : Around} {R : Result → Shared → Prop} {I : Addr} {fp wr : List Addr} {G : Array GenState → Array GenState → Prop} {n : Nat} {P : Nat → Value → Prop} {St : Nat → Shared → Prop}
end
section
variable {prog : Program} {w : World} {A : Around} {E : Value → Shared → Prop} {s : Shared}
end
end FK
namespace FK
open PySem PySem.Spec PyProof.Rows
set_option maxRecDepth 100000
section
variable {prog : Program} {w : World} {A : Around} {E : Value → Shared → Prop} {s : Shared}
end
end FK
namespace FK
open PySem PySem.Spec PyProof.Rows
section
variable {prog : Program} {w : World} {A : Around} {E : Value → Shared → Prop} {s : Shared}
end
end FK
namespace FK
open PySem PySem.Spec PyProof.Rows
set_option maxRecDepth 100000
end FK
namespace FK
open PySem PySem.Spec PyProof.Rows
set_option maxRecDepth 100000
section
variable {prog : Program} {w : World} {A : Around} {E : Value → Shared → Prop} {s : Shared} {a : Addr} {o : Obj} {es : Array (Int × Value)} {ep : Nat} {t : SetTable}
end
end FK
namespace FK
open PySem PySem.Spec PyProof.Rows
set_option maxRecDepth 100000
section
variable {prog : Program} {w : World} {A : Around} {E : Value → Shared → Prop} {s : Shared} {a it : Addr} {o : Obj} {es : Array (Int × Value)} {ep i slot : Nat} {t : SetTable}
end
end FK
namespace FK
open PySem PySem.Spec PyProof.Rows
set_option maxRecDepth 100000
section
variable {prog : Program} {w : World} {A : Around} {E : Value → Shared → Prop} {s : Shared} {a : Addr} {o : Obj} {es : Array (Int × Value)} {ep : Nat} {t : SetTable}
end
end FK
namespace FK
open PySem PySem.Spec PyProof.Rows
set_option maxRecDepth 100000
section
variable {prog : Program} {w : World} {A : Around} {a it : Addr} {o : Obj} {es : Array (Int × Value)} {ep : Nat} {t : SetTable}
end
end FK
namespace FK
open PySem PySem.Spec PyProof.Rows
set_option maxRecDepth 100000
section
variable {prog : Program} {w : World} {A : Around} {E : Value → Shared → Prop} {s : Shared} {a : Addr} {o : Obj} {es : Array (Int × Value)} {ep : Nat} {t : SetTable}
end
end FK
namespace FK
open PySem PySem.Spec PyProof.Rows
set_option maxRecDepth 100000
section
variable {prog : Program} {w : World} {A : Around} {E : Value → Shared → Prop} {s : Shared} {a it T : Addr} {o : Obj} {es : Array (Int × Value)} {ep i : Nat} {t : SetTable} {ps : List Nat}
end
end FK
namespace FK
open PySem PySem.Spec PyProof.Rows
set_option maxRecDepth 100000
section
variable {prog : Program} {w : World} {A : Around} {E : Value → Shared → Prop} {s : Shared} {a : Addr} {o : Obj} {es : Array (Int × Value)} {ep : Nat} {t : SetTable}
end
section
variable {prog : Program} {w : World} {A : Around} {a it T : Addr} {o : Obj} {es : Array (Int × Value)} {ep : Nat} {t : SetTable} {ps : List Nat}
end
end FK
namespace FK
open PySem PySem.Spec PyProof.Rows
set_option maxRecDepth 100000
section
variable {prog : Program} {w : World} {A : Around} {E : Value → Shared → Prop} {s : Shared} {a : Addr} {o : Obj} {es : Array (Int × Value)} {ep : Nat} {t : SetTable}
end
end FK
namespace FK
open PySem PySem.W PySem.Spec PySem.Calls PyProof.Rows L2 FT
set_option maxRecDepth 100000
section
variable {prog : Program} {w : World} {A : Around} {E : Value → Shared → Prop} {s : Shared} {a : Addr} {S : Int → Prop} {n : Nat}
end
end FK
namespace FK
open PySem PySem.W PySem.Spec PySem.Calls PyProof.Rows L2 FT
set_option maxRecDepth 100000
section
variable {prog : Program} {w : World} {A : Around} {E : Value → Shared → Prop} {s : Shared} {a : Addr} {S : Int → Prop} {n : Nat}
end
end FK
namespace FK
open PySem PySem.W PySem.Spec PySem.Calls PyProof.Rows L2 FL FT
set_option maxRecDepth 100000
section
variable {X : Cx}
end
end FK
namespace FK
open PySem PySem.W PySem.Spec PySem.Calls PyProof.Rows L2 FL FT
set_option maxRecDepth 100000
section
variable {X : Cx} {e : Expr} {ρ : FL.Ro} {d : D} {ns ms : List Int} {pos pos2 p p2 : Pos}
end
end FK
namespace CM
open PySem PySem.Spec L2 FL FT MG
end CM
namespace FL
open PySem PySem.Spec PyProof.Rows L2
section
variable {X : Cx} {a tg : Expr} {ρ : Ro} {ds : List D} {pos p : Pos}
end
end FL
namespace FM
open PySem PySem.Spec PyProof.Rows L2 FL
section
variable {M : Model} {A : Around} {E : Value → Shared → Prop} {s : Shared} {name qualname : Str} {params : Arguments} {body : List Stmt} {sc : Scope} {env : Env} {mg : Str → Option Value} {c Pl : Addr} {ps : Array Value} {pos : Pos} {firstLine : Nat} {cl : List (Str × Addr)} {Q : Value → Shared → Prop}
end
section
variable {X : Cx} {pins : List (Addr × Obj)} {σ : L2.St} {H : Hp} {s : Shared} {E : Value → Shared → Prop} {M : Model} {A : Around}
end
end FM
namespace FM
open PySem PySem.Spec PyProof.Rows L2 FL
section
variable {P : Program} {w : World} {K : PySem.W.Frag} {mg : Str → Option Value} {base : Heap}
end
section
variable {P : Program} {w : World} {K : PySem.W.Frag} {mg : Str → Option Value} {base : Heap}
end
end FM
namespace FM
open PySem PySem.Spec PyProof.Rows L2 FL
section
variable {X : Cx} {Pl : Addr} {dp : Pos} {qn : Str} {e a b : Expr} {ρ : Ro} {d : D} {pos : Pos}
end
section
variable {P : Program} {w : World} {K : PySem.W.Frag} {mg : Str → Option Value} {base : Heap}
end
end FM
namespace MZ
open MP MJ MG
end MZ
namespace MY
open MP MJ MG MZ
end MY
namespace CM
open PySem PySem.Spec L2 FL FT FU MG MP MZ MY
end CM
namespace MG
section
variable {G : Type} [AbG G]
open AbG
end
end MG
namespace MZ
open MP MJ MG
end MZ
namespace MZ
open MP MJ MG
end MZ
namespace MZ
end MZ
namespace MZ
open MP MJ MG
end MZ
namespace CM
open PySem PySem.Spec L2 FL FT FU MG MP MZ MY
end CM
namespace FL
open PySem PySem.Spec PyProof.Rows L2
abbrev sI (i : Int) : Str := Str.ofString (toString i)
section
variable {X : Cx} {a b : Expr} {ρ : Ro} {pos p1 p2 : Pos} {i : Int} {x y : Str} {d1 d2 d : D}
theorem ev_strI {p : Pos} (hm : X.mg "str" = none) (ha : Ev X a ρ (.int i)) (hz : i.natAbs.log2 < 1920) (hg : Gl X "str" := by rfl) (he : starEach [a] X.env = [(false, eval a X.env)] := by rfl) : Ev X (.Call (.Name "str" p) [a] [] pos) ρ (.str (sI i)) :=
  PE.imp (pe_callTy call_str_int hg hm bo_str (ea_cons ha ea_nil he) (by decide) (by decide) he rfl) fun σ H Q ⟨r, q⟩ => ⟨r, fun vs H1 s1 h1 => by
    obtain ⟨v, rfl, hv⟩ := one_inv h1
    exact ⟨i, by rw [hv.int_inv], hz, q _ H1 s1 (.str _)⟩⟩
theorem ev_catS (ha : Ev X a ρ (.str x)) (hb : Ev X b ρ (.str y)) (hz : x.length + y.length ≤ sizeLine) : Ev X (.BinOp a .Add b pos) ρ (.str (x ++ y)) :=
  ev_op op_add_str ha hb fun _ _ H _ h1 h2 q => ⟨x, y, h1.str_inv, h2.str_inv, hz, q _ H (Same.refl H) (.str _)⟩
theorem dec_S {x y : Str} : decide (V.str x = V.str y) = decide (x = y) := by
  by_cases h : x = y
  · subst h; simp
  · rw [decide_eq_false h, decide_eq_false (fun z => h (V.str.inj z))]
theorem rNeS_of : ∀ v1 v2 H Q, Is X.K H v1 (.str x) → Is X.K H v2 (.str y) → (∀ v H', Same H H' → Is X.K H' v (.bl (!decide (x = y))) → Q v H') → rNe v1 v2 H Q := fun v1 v2 H Q h1 h2 q => by
  cases h1.str_inv; cases h2.str_inv
  exact ⟨rfl, by rw [dec_S]; exact q _ H (Same.refl H) (.bl _)⟩
theorem rEqS_of : ∀ v1 v2 H Q, Is X.K H v1 (.str x) → Is X.K H v2 (.str y) → (∀ v H', Same H H' → Is X.K H' v (.bl (decide (x = y))) → Q v H') → rEq v1 v2 H Q := fun v1 v2 H Q h1 h2 q => by
  cases h1.str_inv; cases h2.str_inv
  exact ⟨rfl, by rw [dec_S]; exact q _ H (Same.refl H) (.bl _)⟩
theorem et_neS (ha : Ev X a ρ (.str x)) (hb : Ev X b ρ (.str y)) : Et X (.Compare a [.NotEq] [b] pos) ρ (!decide (x = y)) := et_cmp op_ne ha hb (nomark _) rNeS_of
theorem ev_eqS (ha : Ev X a ρ (.str x)) (hb : Ev X b ρ (.str y)) : Ev X (.Compare a [.Eq] [b] pos) ρ (.bl (decide (x = y))) := ev_cmp op_eq ha hb (nomark _) rEqS_of
theorem ev_rjust (ha : Ev X a ρ (.str x)) (hb : Ev X b ρ (.int i)) (hp : PadOk i = true) (hbase : attributeBase a "rjust" X.env (eval a X.env) = eval a X.env := by rfl) (hs : starEach [b] X.env = [(false, eval b X.env)] := by rfl) (hline : (p1.endLine == p2.line) = true := by rfl) :
    Ev X (.Call (.Attribute a "rjust" p1) [b] [] p2) ρ (.str (Txt.rjust x i)) := by
  intro pins s σ H Q I ⟨r, q⟩
  refine Call_method1 hbase hs hline (thn (ha pins s σ H (fun v H1 => v = V.str x ∧ Same H H1) I ⟨r, fun v H1 s1 h1 => ⟨h1.str_inv, s1⟩⟩) fun u s1 hu => ?_)
  obtain ⟨v, H1, I1, rv, rfl, sm⟩ := hu
  obtain ⟨t, rfl⟩ := rv
  refine SB.rjust (thn (hb pins s1 σ H1 (fun v H2 => v = V.int i ∧ Same H1 H2) I1 ⟨r.mono sm, fun v H2 s2 h2 => ⟨h2.int_inv, s2⟩⟩) fun u2 s2 hu => ?_)
  obtain ⟨v2, H2, I2, rv2, rfl, sm2⟩ := hu
  obtain ⟨t2, rfl⟩ := rv2
  exact ⟨i, t2, rfl, hp, fun t' k => ⟨.str _, H2, I2.tok _, ⟨_, rfl⟩, q _ H2 (sm.trans sm2) (.str _)⟩⟩
theorem vals_strs {K : PySem.W.Frag} {H : Hp} : ∀ {xs : List Str} {vs : List V} {us : List Value}, IsAll K H vs (xs.map D.str) → Vals vs us → ∃ l : List (Str × Tok), us = strValues l ∧ l.map (·.1) = xs
  | [], _, _, h, r => by
    cases h
    cases r
    exact ⟨[], rfl, rfl⟩
  | x :: xs, _, _, h, r => by
    cases h with
    | cons h1 h2 =>
      cases r with
      | cons r1 r2 =>
        obtain ⟨l, e1, e2⟩ := vals_strs h2 r2
        cases h1.str_inv
        obtain ⟨t, rfl⟩ := r1
        exact ⟨(x, t) :: l, by rw [e1]; rfl, by rw [List.map_cons, e2]⟩
theorem ev_join {xs : List Str} (ha : Ev X a ρ (.str x)) (hb : EvN X b ρ (xs.map D.str)) (hp : JoinOk x xs = true) (hbase : attributeBase a "join" X.env (eval a X.env) = eval a X.env := by rfl) (hs : starEach [b] X.env = [(false, eval b X.env)] := by rfl) (hline : (p1.endLine == p2.line) = true := by rfl) :
    Ev X (.Call (.Attribute a "join" p1) [b] [] p2) ρ (.str (Txt.join x xs)) := by
  intro pins s σ H Q I ⟨r, q⟩
  refine Call_method1 hbase hs hline (thn (ha pins s σ H (fun v H1 => v = V.str x ∧ Same H H1) I ⟨r, fun v H1 s1 h1 => ⟨h1.str_inv, s1⟩⟩) fun u s1 hu => ?_)
  obtain ⟨v, H1, I1, rv, rfl, sm⟩ := hu
  obtain ⟨t, rfl⟩ := rv
  refine SB.join (thn (hb pins s1 σ H1 (fun v H2 => ∃ l vs, v = V.ref l ∧ Same H1 H2 ∧ H2 l = some (.lst vs) ∧ IsAll X.K H2 vs (xs.map D.str)) I1 ⟨r.mono sm, fun l vs H2 _ s2 h2 h3 => ⟨l, vs, rfl, s2, h2, h3⟩⟩) fun u2 s2 hu => ?_)
  obtain ⟨v2, H2, I2, rv2, l, vs, rfl, sm2, hl, hA⟩ := hu
  obtain rfl : u2 = Value.ref l := rv2
  obtain ⟨its, rvs, pl, hz⟩ := I2.list (.of hl : SqL X.K H2 l vs)
  obtain ⟨ts, rfl, e2⟩ := vals_strs hA rvs
  exact ⟨l, ts, rfl, pl.isList, xs, e2, hp, fun t' k => ⟨.str _, H2, I2.tok _, ⟨_, rfl⟩, q _ H2 (sm.trans sm2) (.str _)⟩⟩
end
def pad (c j : Nat) (x : Str) : Str := ⟨(List.replicate j c ++ x.cps.toList).toArray⟩
theorem pad_zero (c : Nat) (x : Str) : pad c 0 x = x := by unfold pad; simp
theorem pad_len (c j : Nat) (x : Str) : (pad c j x).length = j + x.length := by
  unfold pad
  simp [Str.length]
theorem str_ext {x y : Str} (h : x.cps.toList = y.cps.toList) : x = y := by
  obtain ⟨⟨a⟩⟩ := x
  obtain ⟨⟨b⟩⟩ := y
  simp at h
  subst h
  rfl
theorem pad_cons {z : Str} {c : Nat} (hz : z.cps.toList = [c]) (j : Nat) (x : Str) : z ++ pad c j x = pad c (j + 1) x := by
  refine str_ext ?_
  show (z.cps ++ (pad c j x).cps).toList = _
  rw [Array.toList_append, hz]
  unfold pad
  simp [List.replicate_succ]
theorem rjust_pad (x : Str) (n : Nat) : Txt.rjust x (n : Int) = pad 32 (n - x.length) x := by
  unfold Txt.rjust
  split
  · rename_i h
    have : n - x.length = 0 := by omega
    rw [this, pad_zero]
  · refine str_ext ?_
    unfold Builtin.Str.padded pad
    simp
end FL
namespace FL
open PySem PySem.Spec PyProof.Rows L2
section
variable {P : Program} {w : World} {K : PySem.W.Frag} {mg : Str → Option Value} {base : Heap}
end
section
variable {X : Cx} {e : Expr} {es : List Expr} {ρ : Ro} {ds fs : List D} {pos p : Pos}
end
end FL
namespace CM
open PySem PySem.Spec L2 FL FT FU MG MP MZ MY
theorem sI_len {i : Int} (h : i.natAbs < 4096) : (sI i).length ≤ 5 := by
  by_cases h0 : 0 ≤ i
  · exact Nat.le_trans (PyProof.Rows.toString_length_le h0 (k := 4) (by decide) (by omega)) (by decide)
  · obtain ⟨m, rfl⟩ : ∃ m : Nat, i = Int.negSucc m := by
      cases i with
      | ofNat n => exact absurd (Int.natCast_nonneg n) h0
      | negSucc m => exact ⟨m, rfl⟩
    have e : toString (Int.negSucc m) = "-" ++ toString ((m + 1 : Nat) : Int) := rfl
    have l := PyProof.Rows.toString_length_le (v := ((m + 1 : Nat) : Int)) (Int.natCast_nonneg _) (k := 4) (by decide) (by simp at h; omega)
    unfold sI
    rw [e, ofString_length, String.length_append]
    rw [ofString_length] at l
    have : ("-" : String).length = 1 := rfl
    omega
theorem log_small {i : Int} (h : i.natAbs < 4096) : i.natAbs.log2 < 1920 := by
  by_cases z : i.natAbs = 0
  · rw [z]; decide
  · have := (Nat.log2_lt z (k := 12)).mpr (by omega)
    omega
theorem padOk {w : Int} (h0 : 0 ≤ w) (h1 : w ≤ 100) : PadOk w = true := by
  have : ∀ n : Nat, n ≤ 100 → PadOk (n : Int) = true := by decide
  have := this w.toNat (by omega)
  rwa [Int.toNat_of_nonneg h0] at this
theorem cls_small' {i : Int} (hi : BarL i) (y : C i) : y.1.a.natAbs < 4096 ∧ y.1.b.natAbs < 4096 ∧ y.1.c.natAbs < 4096 := by
  obtain ⟨h1, h2, h3⟩ := cls_sz hi y
  have k : ∀ {z : Int}, Bd z 11 → z.natAbs < 4096 := fun h => by
    have := intBits_le_iff.mp h.lt
    omega
  exact ⟨k h1, k h2, k h3⟩
theorem app_len (x y : Str) : (x ++ y).length = x.length + y.length := Str.length_append x y
def slen (ρ : Ro) (k : Nat) : Nat := match ρ[k]? with
  | some (some (.str x)) => x.length
  | _ => 0
theorem lenS {x : Str} (h : x.length ≤ 100000) : lenD (.str x) = some x.length := if_pos (by omega)
theorem fitL {n : Nat} (h : n ≤ 100000) : n ≤ sizeLine := by rw [sizeLine_eq]; omega
end CM
namespace FL
open PySem PySem.Spec PyProof.Rows L2
set_option maxRecDepth 100000
theorem nolen_lri : typeLookup (.type "list_reverseiterator") "__len__" = pure none := by rw [typeLookup_type, builtinLookup_eq_fast]; kernel_rfl
theorem hint_lri : typeLookup (.type "list_reverseiterator") "__length_hint__" = pure (some (.builtin "list_reverseiterator.__length_hint__")) := by rw [typeLookup_type, builtinLookup_eq_fast]; kernel_rfl
section
variable {prog : Program} {w : World} {A : Around} {E : Value → Shared → Prop} {s : Shared} {I l : Addr} {items : Array Value}
theorem collect_rev {Q : List Value → Shared → Prop} (hh : A.handled = none) (hne : l ≠ I) (hit : s.heap.IsRevIter I l ((items.size : Int) - 1)) (hl : s.heap.IsList l items) (hsz : items.size ≤ sizeLine)
    (hQ : ∀ s', (∀ b o, b ≠ I → s.heap.get? b = some o → s'.heap.get? b = some o) → s'.gens = s.gens → s'.drawn = s.drawn → s'.os = s.os → Q items.toList.reverse s') : wpAny (model prog w) A (collect (.ref I)) Q E s := by
  have W := (Walks.listRev (prog := prog) (w := w) (A := A.in1) (by simp [hh]) I l hne items).toS
  have hIl : I < s.heap.objs.size := by obtain ⟨_, e, _⟩ := hit; exact Heap.lt_size e
  have hll : l < s.heap.objs.size := by obtain ⟨_, e, _⟩ := hl; exact Heap.lt_size e
  have hSf : s.heap.objs.size ∉ [I, l] := fun z => by
    rcases List.mem_cons.mp z with z | z
    · exact absurd z (Nat.ne_of_gt hIl)
    · exact absurd (List.mem_singleton.mp z) (Nat.ne_of_gt hll)
  have hSI : s.heap.objs.size ≠ I := Nat.ne_of_gt hIl
  have hst : (0 : Nat) ≤ items.size ∧ s.heap.IsRevIter I l ((items.size : Int) - 1 - ((0 : Nat) : Int)) ∧ s.heap.IsList l items := ⟨Nat.zero_le _, by simpa using hit, hl⟩
  unfold collect
  refine wpAny_bind (wpAny_runValue (codeAny_builtin PySem.F.entry_proto_collect ?_))
  rw [Around.under_plainId PySem.F.plain_proto_collect _]
  show wpAny _ A.in1 (newList [] >>= fun l => again (.builtin "list.__iadd__" ⟨[l, .ref I], []⟩)) _ _ s
  refine wpAny_bind (wpAny_newObj_type ?_)
  refine wpAny_pure ⟨plainId_quiet PySem.F.plain_list_iadd _, codeAny_builtin PySem.F.entry_list_iadd ?_⟩
  rw [Around.under_plainId PySem.F.plain_list_iadd _]
  have hst₁ := W.frame 0 s (s.heap.push { cls := .type "list", data := .seq ([] : List Value).toArray }) s.toks hst (Nat.le_refl _) fun b _ o e => Heap.get?_push_of_some _ e
  have hT₁ : Shared.TypeIs { s with heap := s.heap.push { cls := .type "list", data := .seq ([] : List Value).toArray }, toks := s.toks } (.ref I) "list_reverseiterator" := Heap.IsRevIter.typeIs hst₁.2.1
  have hS₁ : (s.heap.push { cls := .type "list", data := .seq ([] : List Value).toArray }).get? s.heap.objs.size = some { cls := .type "list", data := .seq ([] : List Value).toArray } := Heap.get?_push_size _ rfl
  have h1 : Builtin.List.listSameRef (.ref s.heap.objs.size) (.ref I) = false := by simp [Builtin.List.listSameRef, hSI]
  show wpAny _ A.in1 (Builtin.List.listExtendWith (.ref s.heap.objs.size) (.ref I) (.ref s.heap.objs.size)) _ _ _
  unfold Builtin.List.listExtendWith
  refine wpAny_bind (wpAny_typeOf hT₁ ?_)
  rw [if_neg (by rw [h1]; decide)]
  refine wpAny_bind (W.self 0 _ _ _ hst₁ ?_)
  refine wpAny_bind (wpAny_holding ?_)
  unfold Builtin.List.listLengthHint
  refine wpAny_bind (wpAny_specialOf hT₁ nolen_lri ?_)
  show wpAny _ A.in1 (specialOf (Value.ref I) (Str.ofString "__length_hint__") >>= _) _ _ _
  refine wpAny_bind (wpAny_specialOf hT₁ hint_lri ?_)
  generalize hid : ("list_reverseiterator.__length_hint__" : String) = id0; (fail_if_success (clear hid id0)); wp_delta; rw [show splitId id0 = some ("list_reverseiterator", "__length_hint__") from by subst hid; decide +kernel]; subst hid
  refine wpAny_bind (wpAny_isInstance (b := true) hT₁ (by rw [isSubtype_type]; kernel_rfl) ?_)
  refine wpAny_pure ?_
  rw [if_neg (by decide)]
  refine wpAny_pure ⟨plainId_quiet PySem.F.plain_extend_loop _, codeAny_extend_loopS W hsz _ hSf _ items.size 0 _ _ _ rfl (Nat.zero_le _) hst₁ hS₁ (ItemsOf.nil _) fun s' acc' c' hm hS' hacc => ?_⟩
  show wpAny _ A (load s.heap.objs.size >>= _) _ _ s'
  refine wpAny_bind (wpAny_load hS' ?_)
  have mv := Moved.drop_new (o := { cls := .type "list", data := .seq ([] : List Value).toArray }) (tk := s.toks) hm (Nat.le_refl _)
  have el : acc'.toList = items.toList.reverse := by
    refine List.ext_getElem (by simp [hacc.1]) fun j p q => ?_
    have hj : j < acc'.size := by simpa using p
    have hj2 : j < items.size := by simpa using q
    have h := hacc.2 j acc'[j] (Array.getElem?_eq_getElem hj)
    have h3 : items[items.size - 1 - j]? = some acc'[j] := h
    rw [Array.getElem?_eq_getElem (by omega)] at h3
    rw [List.getElem_reverse]
    simp only [Array.getElem_toList, Array.length_toList]
    exact (Option.some.inj h3).symm
  have fin := hQ s' (fun b o hb e => mv.heap b o (by simpa using hb) e) mv.gens mv.drawn mv.os
  rw [← el] at fin
  exact wpAny_pure fin
theorem join_rev {x : Str} {t : Tok} {ts : List (Str × Tok)} : MeetsIn prog w (Builtin.«str.join» ⟨[.str x t, .ref I], []⟩) (fun A R s => A.handled = none ∧ l ≠ I ∧ s.heap.IsRevIter I l (((strValues ts).toArray.size : Int) - 1) ∧ s.heap.IsList l (strValues ts).toArray ∧ ts.length ≤ sizeLine ∧ JoinOk x ((ts.map (·.1)).reverse) = true ∧
    ∀ (s' : Shared) (t' : Tok) (k : Nat), (∀ b o, b ≠ I → s.heap.get? b = some o → s'.heap.get? b = some o) → s'.gens = s.gens → s'.drawn = s.drawn → s'.os = s.os → R (.ok (.ret (.str (Txt.join x ((ts.map (·.1)).reverse)) t'))) { s' with toks := k }) := by
  intro A R s ⟨hh, hne, hit, hl, hsz, ok, hQ⟩
  rw [join_tree_other]
  refine wpAny_bind (wpAny_typeOf hit.typeIs ?_)
  show wpAny _ A.in1 ((pyIter (.ref I)).tryCatch _ >>= fun it => collect it >>= fun items => joinTail x items) _ _ s
  refine wpAny_bind (wpAny_tryCatch (wpAny_pyIter_revIter hit ?_))
  refine wpAny_bind (collect_rev (by simp [hh]) hne hit hl (by simpa [strValues] using hsz) fun s' hk hg hd ho => ?_)
  have er : (strValues ts).toArray.toList.reverse = strValues ts.reverse := by simp [strValues]
  rw [er]
  have em : (ts.map (·.1)).reverse = ts.reverse.map (·.1) := by rw [List.map_reverse]
  rw [em] at ok hQ
  unfold JoinOk at ok
  rw [Bool.not_eq_true'] at ok
  have gj : ∀ l : List (Str × Tok), Builtin.Str.tooLong ((l.map (·.1)).toArray.foldl (· + ·.length + x.length) 0) = false → Gives (joinTail x (strValues l)) (joinMade x l) := fun l h => by
    have g0 := gives_joinTail x l h
    cases l with
    | nil => exact g0
    | cons p r => cases r with
      | nil => exact g0
      | cons q r' => exact g0
  have g := gj _ ok
  exact g prog w A R s' (post_join (Q := fun v s => R (.ok (.ret v)) s) ts.reverse ⟨joinFit_length ok, fun t' k => hQ s' t' k hk hg hd ho⟩)
end
section
variable {X : Cx} {a b : Expr} {ρ : Ro} {p1 p2 p3 p4 : Pos} {x : Str} {xs : List Str} {d : D}
theorem ev_joinRev (hc : X.calm = true) (hm : X.mg "reversed" = none) (ha : Ev X a ρ (.str x)) (hb : Ev X b ρ d) (hd : lsD d = some (xs.map D.str)) (hsz : xs.length ≤ 1000) (ok : JoinOk x xs.reverse = true) (hg : Gl X "reversed" := by rfl)
    (hbase : attributeBase a "join" X.env (eval a X.env) = eval a X.env := by rfl) (hs : starEach [Expr.Call (.Name "reversed" p3) [b] [] p4] X.env = [(false, eval (Expr.Call (.Name "reversed" p3) [b] [] p4) X.env)] := by rfl) (hs2 : starEach [b] X.env = [(false, eval b X.env)] := by rfl) (hline : (p1.endLine == p2.line) = true := by rfl) :
    Ev X (.Call (.Attribute a "join" p1) [.Call (.Name "reversed" p3) [b] [] p4] [] p2) ρ (.str (Txt.join x xs.reverse)) := by
  intro pins s σ H Q I ⟨r, q⟩
  refine Call_method1 hbase hs hline (thn (ha pins s σ H (fun v H1 => v = V.str x ∧ Same H H1) I ⟨r, fun v H1 s1 h1 => ⟨h1.str_inv, s1⟩⟩) fun u s1 hu => ?_)
  obtain ⟨v, H1, I1, rv, rfl, sm⟩ := hu
  obtain ⟨t, rfl⟩ := rv
  refine ⟨"str", _, PySem.F.plainAttrs_str, PySem.F.slot_str_join, PySem.F.type_str_join, typeIs_str _ _ _, (fun _ e => nomatch e), method1_meetsIn PySem.F.slot_str_join PySem.F.entry_str_join ?_⟩
  refine Call_ (ld_blt (u := .type "reversed") I1 hg hm (by decide +kernel) (PyProof.Rows.callWith_type1 (thn ((ea_cons hb ea_nil hs2) p4 pins s1 σ H1 (fun vs H2 => ∃ v, vs = [v] ∧ Same H1 H2 ∧ Is X.K H2 v d) I1 ⟨r.mono sm, fun vs H2 s2 h2 => by obtain ⟨v, rfl, hv⟩ := one_inv h2; exact ⟨v, rfl, s2, hv⟩⟩) fun us s2 hu => ?_) hs2 rfl))
  obtain ⟨vs, H2, I2, rvs, v, rfl, sm2, hv⟩ := hu
  obtain ⟨l, vs, rfl, hl, hA⟩ := hv.lsD_inv hd
  obtain ⟨u2, rfl, ru2⟩ := vals1 rvs
  obtain rfl : u2 = Value.ref l := ru2
  obtain ⟨its, rv2, pl, hz⟩ := I2.list hl
  obtain ⟨ts, rfl, e2⟩ := vals_strs hA rv2
  refine call_reversed_list pl.isList ?_
  have hll : l < s2.heap.objs.size := by obtain ⟨_, e, _⟩ := pl.isList; exact Heap.lt_size e
  have fp := I2.fpOk (H' := H2) (Nat.le_refl _) (I2.hok.fresh (Nat.le_refl _))
  obtain ⟨f0, f1, f2, f3, f4, f5⟩ := fp
  have I3 : L2.Inv X pins σ H2 { s2 with heap := s2.heap.push (revObj l (((strValues ts).toArray.size : Int) - 1)) } := I2.kept (t' := s2.toks) fun b o z => Heap.get?_push_of_some _ z
  have lt : ts.length = xs.length := by rw [← e2, List.length_map]
  refine ⟨typeIs_str _ _ _, PySem.F.args_str_join_2 _ _, _, join_rev (I := s2.heap.objs.size) (l := l) (ts := ts), I.ok.hd hc, Nat.ne_of_lt hll, ⟨_, Heap.get?_push_size _ rfl, rfl, rfl⟩, (let ⟨o, ho, rr⟩ := pl.isList; ⟨o, Heap.get?_push_of_some _ ho, rr⟩), (by rw [lt, sizeLine_eq]; omega), (by rw [e2]; exact ok), fun s' t' k hk hg' hd' ho' => ?_⟩
  rw [e2]
  obtain ⟨h', g', d', tk', o'⟩ := s'
  simp only at hk hg' hd' ho'
  subst hg' hd' ho'
  have I4 := I3.turned (h' := h') (t' := k) (it := s2.heap.objs.size) (fun b o hb e => hk b o hb e) f0 f1 f3 f4 f5
  exact ⟨.str _, H2, I4, ⟨_, rfl⟩, q _ H2 (sm.trans sm2) (.str _)⟩
def Pt (X : Cx) (e : Expr) (ρ : Ro) (x : Str) : Prop := ∀ (pins : List (Addr × Obj)) (s : Shared) (σ : L2.St) (H : Hp) (Q : VK), L2.Inv X pins σ H s → RelE X H σ ρ → (∀ H', Same H H' → Q (.str x) H') → wpAny (model X.prog X.w) X.A (eval e X.env) (EP X pins σ Q) X.xe s
theorem pt_of (h : Ev X a ρ (.str x)) : Pt X a ρ x := fun pins s σ H Q I r q => h pins s σ H Q I ⟨r, fun v H' sm hv => by rw [hv.str_inv]; exact q H' sm⟩
theorem pt_str (h : Ev X a ρ (.str x)) (hz : x.length ≤ 100000) : Pt X (.FormattedValue a (-1) none p1) ρ x := fun pins s σ H Q I r q => by
  refine FormattedValue_plain (thn (h pins s σ H (fun v H' => v = V.str x ∧ Same H H') I ⟨r, fun v H' sm hv => ⟨hv.str_inv, sm⟩⟩) fun u s1 hu => ?_)
  obtain ⟨v, H1, I1, rv, rfl, sm⟩ := hu
  obtain ⟨t, rfl⟩ := rv
  exact formatField_str (fun t' tk => ⟨.str x, H1, I1.tok _, ⟨_, rfl⟩, q H1 sm⟩) (by rw [sizeLine_eq]; omega)
end
end FL
namespace FL
open PySem PySem.Spec PyProof.Rows L2
section
variable {X : Cx} {a : Expr} {ρ : Ro} {p1 pos : Pos} {x : Str} {i : Int}
theorem pt_int (h : Ev X a ρ (.int i)) (hz : i.natAbs.log2 < 1920) : Pt X (.FormattedValue a (-1) none p1) ρ (sI i) := fun pins s σ H Q I r q => by
  refine FormattedValue_plain (thn (h pins s σ H (fun v H' => v = V.int i ∧ Same H H') I ⟨r, fun v H' sm hv => ⟨hv.int_inv, sm⟩⟩) fun u s1 hu => ?_)
  obtain ⟨v, H1, I1, rv, rfl, sm⟩ := hu
  obtain ⟨t, rfl⟩ := rv
  exact formatField_int_small hz ⟨.str (sI i), H1, I1.tok _, ⟨_, rfl⟩, q H1 sm⟩
inductive Pts (X : Cx) (ρ : Ro) : List Expr → List Str → Prop
  | nil : Pts X ρ [] []
  | cons {e : Expr} {es : List Expr} {x : Str} {xs : List Str} (h : Pt X e ρ x) (r : Pts X ρ es xs) : Pts X ρ (e :: es) (x :: xs)
def catL (out : Str) (xs : List Str) : Str := xs.foldl (· ++ ·) out
theorem parts_ok {es : List Expr} {xs : List Str} (h : Pts X ρ es xs) : ∀ (out : Str) (pins : List (Addr × Obj)) (s : Shared) (σ : L2.St) (H : Hp) (Q : VK), L2.Inv X pins σ H s → RelE X H σ ρ → out.length + (xs.map (·.length)).sum ≤ 100000 → (∀ H', Same H H' → Q (.str (catL out xs)) H') →
    wpAny (model X.prog X.w) X.A (joinParts out (evalEach es X.env)) (EP X pins σ Q) X.xe s := by
  induction h with
  | nil =>
    intro out pins s σ H Q I r hz q
    simp only [List.map_nil, List.sum_nil] at hz
    exact joinParts_nil ⟨.str out, H, I.tok _, ⟨_, rfl⟩, q H (Same.refl H)⟩ (by rw [sizeLine_eq]; omega)
  | cons h hr ih =>
    rename_i e es x xs
    intro out pins s σ H Q I r hz q
    simp only [List.map_cons, List.sum_cons] at hz
    refine joinParts_cons (thn (h pins s σ H (fun v H' => v = V.str x ∧ Same H H') I r fun H' sm => ⟨rfl, sm⟩) fun u s1 hu => ?_)
    obtain ⟨v, H1, I1, rv, rfl, sm⟩ := hu
    obtain ⟨t, rfl⟩ := rv
    have la : (out ++ x).length = out.length + x.length := Str.length_append out x
    refine ⟨by rw [la, sizeLine_eq]; omega, ih (out ++ x) pins s1 σ H1 Q I1 (r.mono sm) (by rw [la]; omega) fun H' sm' => q H' (sm.trans sm')⟩
theorem ev_fstr {e1 e2 : Expr} {es : List Expr} {xs : List Str} (h : Pts X ρ (e1 :: e2 :: es) xs) (hz : (xs.map (·.length)).sum ≤ 100000) : Ev X (.JoinedStr (e1 :: e2 :: es) pos) ρ (.str (catL Str.empty xs)) := by
  intro pins s σ H Q I ⟨r, q⟩
  refine JoinedStr_many ?_
  have := parts_ok h Str.empty pins s σ H Q I r (by rw [show Str.empty.length = 0 from rfl]; omega) fun H' sm => q _ H' sm (.str _)
  exact this
end
end FL
namespace CM
open PySem PySem.Spec L2 FL FT FU MG
theorem ofS_app (s t : String) : Str.ofString (s ++ t) = Str.ofString s ++ Str.ofString t := by
  refine str_ext ?_
  show _ = ((Str.ofString s).cps ++ (Str.ofString t).cps).toList
  rw [Array.toList_append]
  simp only [Str.ofString_eq_toList, String.toList_append, List.map_append]
theorem sI_neg {n : Nat} : sI (-((n + 1 : Nat) : Int)) = Str.ofString "-" ++ sI ((n + 1 : Nat) : Int) := by
  have e : toString (-((n + 1 : Nat) : Int)) = "-" ++ toString ((n + 1 : Nat) : Int) := rfl
  unfold sI
  rw [e, ofS_app]
def formS (a b c : Int) : Str := Str.ofString "[" ++ sI a ++ Str.ofString ", " ++ sI b ++ Str.ofString ", " ++ sI c ++ Str.ofString "]"
def p_num (ds : List D) (d : D) : Prop := ∃ i : Int, ds = [.int i] ∧ i.natAbs < 10 ^ 60 ∧ d = .str (sI i)
structure FormW (a b c : Int) : Prop where
  n : FormN a b c
  a : a.natAbs < 10 ^ 60
  b : b.natAbs < 10 ^ 60
  c : c.natAbs < 10 ^ 60
def p_written (ds : List D) (d : D) : Prop := ∃ a b c : Int, ds = [formD a b c] ∧ FormW a b c ∧ d = .str (formS a b c)
theorem sI_len60 {i : Int} (h : i.natAbs < 10 ^ 60) : (sI i).length ≤ 61 := by
  by_cases h0 : 0 ≤ i
  · exact Nat.le_trans (PyProof.Rows.toString_length_le h0 (k := 60) (by decide) (by omega)) (by decide)
  · obtain ⟨m, rfl⟩ : ∃ m : Nat, i = -((m + 1 : Nat) : Int) := ⟨i.natAbs - 1, by omega⟩
    have l := PyProof.Rows.toString_length_le (v := ((m + 1 : Nat) : Int)) (Int.natCast_nonneg _) (k := 60) (by decide) (by omega)
    rw [sI_neg, Str.length_append]
    have : (Str.ofString "-").length = 1 := rfl
    unfold sI
    omega
theorem log60 {i : Int} (h : i.natAbs < 10 ^ 60) : i.natAbs.log2 < 1920 := by
  by_cases z : i.natAbs = 0
  · rw [z]; decide
  · have h2 : (10 : Nat) ^ 60 < 2 ^ 200 := by decide
    have := (Nat.log2_lt z (k := 200)).mpr (by omega)
    omega
theorem join1 (x y : Str) : Txt.join x [y] = y := by
  have e : Txt.join x [y] = Str.join x [y] := StrLaws.glued_eq_join _ _
  rw [e]
  rfl
theorem join2 (x y z : Str) : Txt.join x [y, z] = y ++ x ++ z := by
  have e : Txt.join x [y, z] = Str.join x [y, z] := StrLaws.glued_eq_join _ _
  rw [e]
  rfl
theorem join3 (x y z u : Str) : Txt.join x [y, z, u] = y ++ x ++ (z ++ x ++ u) := by
  have e : Txt.join x [y, z, u] = Str.join x [y, z, u] := StrLaws.glued_eq_join _ _
  rw [e]
  rfl
theorem app_assoc (x y z : Str) : x ++ y ++ z = x ++ (y ++ z) := by
  refine str_ext ?_
  show ((x.cps ++ y.cps) ++ z.cps).toList = (x.cps ++ (y.cps ++ z.cps)).toList
  simp
theorem app_emp (x : Str) : x ++ Str.ofString "" = x := by
  refine str_ext ?_
  show (x.cps ++ (Str.ofString "").cps).toList = _
  rw [Array.toList_append, show (Str.ofString "").cps.toList = [] from rfl, List.append_nil]
theorem emp_app (x : Str) : Str.empty ++ x = x := by
  refine str_ext ?_
  show (Str.empty.cps ++ x.cps).toList = _
  rw [Array.toList_append, show Str.empty.cps.toList = [] from rfl, List.nil_append]
theorem joinOk_small {x : Str} {xs : List Str} (h : (xs.map (·.length)).sum + xs.length * x.length ≤ 100000) : JoinOk x xs = true := by
  unfold JoinOk Builtin.Str.tooLong
  rw [StrLaws.joinTotal, sizeLine_eq]
  simp only [Bool.not_eq_true', decide_eq_false_iff_not]
  omega
end CM
namespace FL
open PySem PySem.Spec PyProof.Rows L2
section
variable {X : Cx} {e a b c : Expr} {es : List Expr} {ρ : Ro} {d d' : D} {ds gs : List D} {pos : Pos} {i j : Int} {k : Bool} {rest : List Stmt} {P : Po}
theorem evn_listOf {p : Pos} (hm : X.mg "list" = none) (ha : Ev X a ρ d') (hl : lsD d' = some ds) (hg : Gl X "list" := by rfl) (he : starEach [a] X.env = [(false, eval a X.env)] := by rfl) : EvN X (.Call (.Name "list" p) [a] [] pos) ρ ds :=
  PE.imp (pe_callTy call_list_of hg hm bo_list (ea_cons ha ea_nil he) (by decide) (by decide) he rfl) fun σ H Q ⟨r, q⟩ => ⟨r, fun vs H1 s1 h1 => by
    obtain ⟨v, rfl, h⟩ := one_inv h1
    obtain ⟨a, xs, rfl, h3, h4⟩ := h.lsD_inv hl
    exact ⟨a, xs, rfl, .inl h3, fun l hl => q l xs _ (s1.free hl) (s1.trans (same_new hl)) upd_same (h4.mono (same_new hl))⟩⟩
end
section
variable {P : Program} {w : World} {K : PySem.W.Frag} {mg : Str → Option Value} {base : Heap}
end
end FL
namespace FL
open PySem PySem.Spec PyProof.Rows L2
section
variable {P : Program} {w : World} {H : Hp} {h : Heap} {a C dx : Addr} {fs : List (Str × V)} {o : Obj}
theorem ins_getF (hok : HOk P w H h) (e : H a = some (.frz o (.ins C dx fs))) : ∃ mA, ObjM h a dx C mA ∧ (∀ f, RelO (fs.lookup f) (mA f)) := by
  obtain ⟨_, d, z, ne, ob, mA, n, r, q⟩ := (show ObjOk P w H h a (.frz o (.ins C dx fs)) from hok a _ e)
  exact ⟨mA, ⟨ob, n, ne⟩, r⟩
end
theorem look_forms (v : V) : List.lookup ("forms" : Str) [(("forms" : Str), v)] = some v := by simp [List.lookup]
theorem look_other {m : Str} (hm : (m == ("forms" : Str)) = false) (v : V) : List.lookup m [(("forms" : Str), v)] = none := by simp [List.lookup, hm]
section
variable {X : Cx} {e a b c o : Expr} {es : List Expr} {ρ : Ro} {d : D} {ds : List D} {pos apos : Pos} {C : Addr}
theorem ev_forms (h : Ev X e ρ (.qi C ds)) (c : Cls X.K C) (n : NoAttr X.K C "forms") (hb : attributeBase e "forms" X.env (eval e X.env) = eval e X.env := by rfl) : Ev X (.Attribute e "forms" pos) ρ (.fl ds) := by
  intro pins s σ H Q I ⟨r, q⟩
  refine attr_of hb (thn (h pins s σ H (fun x H1 => Same H H1 ∧ Is X.K H1 x (.qi C ds)) I ⟨r, fun v H' s1 h1 => ⟨s1, h1⟩⟩) fun u s1 ⟨x, H1, I1, rx, sm, hx⟩ => ?_)
  obtain ⟨a, l, dx, o, o', xs, rfl, e1, e2, e3⟩ := hx.qi_inv
  obtain rfl : u = Value.ref a := rx
  obtain ⟨mA, O, rl⟩ := ins_getF I1.hok e1
  obtain ⟨u, hu, ru⟩ := RelO.some_of (v := .ref l) (o := mA "forms") (by rw [← look_forms (V.ref l)]; exact rl "forms")
  exact get_map I1.kIn O (c.get _) c.hd n hu (handed_of ru) ⟨.ref l, H1, I1.tok _, ru, q _ H1 sm (.fl e2 e3)⟩
def Mt (P : Program) (w : World) (K : PySem.W.Frag) (mg : Str → Option Value) (base : Heap) (k : Nat) (C : Addr) (m : Str) (Pf : List D → D → Prop) : Prop :=
  Cls K C ∧ ∃ f fd ps, Meth K C m f ∧ FnOk P w K mg base CX0 k f fd ps (SpD K Pf) ∧ Binds K fd ps []
theorem ev_meth {k : Nat} {m : Str} {Pf : List D → D → Prop} {fs gs : List D} {pl : Sem Bool} (G : Mt X.prog X.w X.K X.mg X.base k C m Pf) (ho : Ev X o ρ (.qi C fs)) (hr : Room k X.A) (ha : EvA X (e :: es) ρ gs) (hp : Pf (.qi C fs :: gs) d) (hm : (m == ("forms" : Str)) = false := by decide)
    (hst : starEach (e :: es) X.env = (false, eval e X.env) :: starEach es X.env := by rfl) (hpl : (backTo pos (starEach es X.env)).any (·.1) = false := by rfl)
    (ht : eval (.Call (.Attribute o m apos) (e :: es) [] pos) X.env = (do
      let ov ← eval o X.env
      standAt apos.atName
      let (f, first) ← holding [ov] (getMethod ov m pl)
      callWith pos f first (backTo pos (starEach (e :: es) X.env)) (backToKw pos (keywordEach [] X.env))) := by rfl) :
    Ev X (.Call (.Attribute o m apos) (e :: es) [] pos) ρ d := by
  intro pins s σ H Q I ⟨r, q⟩
  obtain ⟨c, f, fd, ps, hM, F, hb⟩ := G
  refine PySem.W.methodCall_KW (pl := pl) (thn (ho pins s σ H (fun x H1 => Same H H1 ∧ Is X.K H1 x (.qi C fs)) I ⟨r, fun v H' s1 h1 => ⟨s1, h1⟩⟩) fun u s1 ⟨x, H1, I1, rx, sm, hx⟩ => ?_) ht
  obtain ⟨a, l, dx, ob, o', xs, rfl, e1, e2, e3⟩ := id hx.qi_inv
  obtain rfl : u = Value.ref a := rx
  obtain ⟨mA, O, rl⟩ := ins_getF I1.hok e1
  have hn : mA m = none := RelO.none_of (by rw [← look_other hm (V.ref l)]; exact rl m)
  refine get_meth I1.kIn O (c.get m) hM.at_ hM.fn hn ?_
  refine PySem.W.callWith_K (first := [.ref a]) (h₀ := X.base) I.ok.mod.kin hM.kp (thn (ha pos pins s1 σ H1 (fun vs H2 => Same H1 H2 ∧ IsAll X.K H2 vs gs) I1 ⟨r.mono sm, fun vs H' s1 h1 => ⟨s1, h1⟩⟩) fun us s2 ⟨vs, H2, I2, rr, sm2, hv⟩ => ⟨I2.kIn, ?_⟩) hst hpl
  refine run_fn (us := .ref a :: us) (vs := .ref a :: vs) F hr hb .nil pass0 I2 (.cons rfl rr) ?_
  refine ⟨.qi C fs :: gs, d, ?_, hp, fun v H' s' h' => q v H' (sm.trans (sm2.trans s')) h'⟩
  rw [List.append_nil]
  exact .cons (hx.mono sm2) hv
theorem ev_meth0 {k : Nat} {m : Str} {Pf : List D → D → Prop} {fs : List D} {pl : Sem Bool} (G : Mt X.prog X.w X.K X.mg X.base k C m Pf) (ho : Ev X o ρ (.qi C fs)) (hr : Room k X.A) (hp : Pf [.qi C fs] d) (hm : (m == ("forms" : Str)) = false := by decide)
    (ht : eval (.Call (.Attribute o m apos) [] [] pos) X.env = (do
      let ov ← eval o X.env
      standAt apos.atName
      let (f, first) ← holding [ov] (getMethod ov m pl)
      callWith pos f first (backTo pos (starEach [] X.env)) (backToKw pos (keywordEach [] X.env))) := by rfl) :
    Ev X (.Call (.Attribute o m apos) [] [] pos) ρ d := by
  intro pins s σ H Q I ⟨r, q⟩
  obtain ⟨c, f, fd, ps, hM, F, hb⟩ := G
  refine PySem.W.methodCall_KW (pl := pl) (thn (ho pins s σ H (fun x H1 => Same H H1 ∧ Is X.K H1 x (.qi C fs)) I ⟨r, fun v H' s1 h1 => ⟨s1, h1⟩⟩) fun u s1 ⟨x, H1, I1, rx, sm, hx⟩ => ?_) ht
  obtain ⟨a, l, dx, ob, o', xs, rfl, e1, e2, e3⟩ := id hx.qi_inv
  obtain rfl : u = Value.ref a := rx
  obtain ⟨mA, O, rl⟩ := ins_getF I1.hok e1
  have hn : mA m = none := RelO.none_of (by rw [← look_other hm (V.ref l)]; exact rl m)
  refine get_meth I1.kIn O (c.get m) hM.at_ hM.fn hn ?_
  refine PySem.W.callWith_K0 (first := [.ref a]) I1.kIn hM.kp (run_fn (us := [.ref a]) (vs := [.ref a]) F hr hb .nil pass0 I1 (.cons rfl .nil) ?_)
  refine ⟨[.qi C fs], d, ?_, hp, fun v H' s' h' => q v H' (sm.trans s') h'⟩
  exact .cons hx .nil
def SpI (K : PySem.W.Frag) (Pf : Addr → List D → Prop) : Sp := fun vs H Q _ => ∃ a dx C ds x, vs = [.ref a, x] ∧ H a = some (.ins C dx []) ∧ Is K H x (.ls ds) ∧ Pf C ds ∧ ∀ H', (∀ b u, b ≠ a → H b = some u → H' b = some u) → Is K H' (.ref a) (.qi C ds) → Q .non H'
def MkC (P : Program) (w : World) (K : PySem.W.Frag) (mg : Str → Option Value) (base : Heap) (k : Nat) (x : Str) (C : Addr) (Pf : Addr → List D → Prop) : Prop :=
  ∃ f fd ps, Mk K C f ∧ FnOk P w K mg base CX0 k f fd ps (SpI K Pf) ∧ mg x = some (.ref C) ∧ Binds K fd ps []
theorem ev_make {k : Nat} {x : Str} {Pf : Addr → List D → Prop} {p : Pos} (M : MkC X.prog X.w X.K X.mg X.base k x C Pf) (hr : Room (k + 1) X.A) (ha : Ev X e ρ (.ls ds)) (hp : Pf C ds) (hg : Gl X x := by rfl) (hdb : (x == ("__debug__" : Str)) = false := by decide)
    (he : starEach [e] X.env = (false, eval e X.env) :: starEach [] X.env := by rfl) (hpl : (backTo pos (starEach [] X.env)).any (·.1) = false := by rfl) : Ev X (.Call (.Name x p) [e] [] pos) ρ (.qi C ds) := by
  obtain ⟨f, fd, ps, hM, F, hm, hb⟩ := M
  refine PE.imp (pe_make hM F hr hg hm hb .nil pass0 (ea_cons ha ea_nil he : EvA X [e] ρ [.ls ds]) hdb he hpl) ?_
  rintro σ H Q ⟨r, q⟩
  refine ⟨r, fun vs H1 s1 h1 y dx hy hdx hne => ?_⟩
  obtain ⟨v, rfl, hv⟩ : ∃ v, vs = [v] ∧ Is X.K H1 v (.ls ds) := by
    cases h1 with
    | cons a b => cases b; exact ⟨_, rfl, a⟩
  have sm : Same H1 (upd (upd H1 dx (.own y)) y (.ins C dx [])) := fun b u hb => by
    rw [upd_ne (ne_of_none hb hy), upd_ne (ne_of_none hb hdx)]
    exact hb
  refine ⟨y, dx, C, ds, v, rfl, upd_same, hv.mono sm, hp, fun H' hk hi => ⟨rfl, q _ H' (fun b u hb => ?_) hi⟩⟩
  have hb1 := s1 b u hb
  exact hk b u (ne_of_none hb1 hy) (sm b u hb1)
end
section
variable {X : Cx} {pins : List (Addr × Obj)} {σ : L2.St} {H : Hp} {s : Shared}
theorem Inv.freezeI (I : L2.Inv X pins σ H s) {a C dx : Addr} {fs : List (Str × V)} (hH : H a = some (.ins C dx fs)) : ∃ o, L2.Inv X pins σ (upd H a (.frz o (.ins C dx fs))) s := by
  have ok := I.hok a _ hH
  obtain ⟨_, _, _, ho, _⟩ := id (show ObjOk X.prog X.w H s.heap a (.ins C dx fs) from ok)
  have kt : KT H (upd H a (.frz (PySem.W.instObj C dx) (.ins C dx fs))) := upd_keep hH (fun _ z => by cases z) (fun _ _ z => by cases z)
  refine ⟨_, I.write (x := a) (e := a) (o := .frz (PySem.W.instObj C dx) (.ins C dx fs)) (h' := s.heap) (t' := s.toks) (by rw [hH]; trivial) (.inl rfl) (fun b v _ h => h) ⟨_, ho⟩ ⟨ho, ?_⟩⟩
  exact ok.stay (fun b v _ h => h) (fun b h => by rw [upd_ne (fun z => by subst z; rw [hH] at h; cases h)]; exact h) kt.1
abbrev Cx.from (X : Cx) (H : Hp) : Cx := { X with H₀ := H }
theorem Inv.from (I : L2.Inv X pins σ H s) (hk : ∀ b, H b = none → X.H₀ b = none) : L2.Inv (Cx.from X H) pins σ H s where
  ok := ⟨I.ok.mod, I.ok.kind, I.ok.glob, I.ok.blt, I.ok.above, I.ok.inj, I.ok.has, I.ok.cab, I.ok.hd, I.ok.frames, I.ok.stk, I.ok.exf, fun b o e => ⟨(I.ok.bs b o e).1, (I.bs b o e).2⟩, I.ok.bsz, I.ok.noex, I.ok.exfs, I.ok.funs, fun b hb => by
    obtain ⟨_, o, ho, _⟩ := I.ok.funs.mem hb
    exact I.base.free b o ho (I.ok.frf b hb) fun z => I.ok.exfs b z hb⟩
  os := I.os
  bare := I.bare
  base := ⟨fun b o e n => I.base.keep b o e (hk b n), fun b o e n => I.base.slot b o e (hk b n), fun b o e n _ => n, I.base.there, fun _ _ h => h, fun _ _ _ h => h, fun b ps h => ⟨#[], by have h' : H b = some (.tbl ps) := h; rw [h']; simp⟩⟩
  loc := I.loc
  cell := I.cell
  free := I.free
  freeC := I.freeC
  pin := I.pin
  hok := I.hok
  len := I.len
theorem Inv.back {pins' : List (Addr × Obj)} {σ' : L2.St} {H' : Hp} {s' : Shared} (I : L2.Inv X pins σ H s) (J : L2.Inv (Cx.from X H) pins' σ' H' s') : L2.Inv X pins' σ' H' s' where
  ok := I.ok
  os := J.os
  bare := J.bare
  base := ⟨fun b o e n h1 h2 => J.base.keep b o e (I.base.free b o e n h2) h1 h2, fun b o e n h1 h2 => J.base.slot b o e (I.base.free b o e n h2) h1 h2, fun b o e n h2 => J.base.free b o e (I.base.free b o e n h2) h2, J.base.there, fun b xs h => J.base.tups b xs (I.base.tups b xs h), fun b o u h => J.base.frzs b o u (I.base.frzs b o u h), fun b ps h => by
    obtain ⟨m1, h1⟩ := I.base.tbls b ps h
    obtain ⟨m2, h2⟩ := J.base.tbls b _ h1
    exact ⟨m1 ++ m2, by rw [h2, Array.append_assoc]⟩⟩
  loc := J.loc
  cell := J.cell
  free := J.free
  freeC := J.freeC
  pin := J.pin
  hok := J.hok
  len := J.len
end
section
variable {P : Program} {w : World} {K : PySem.W.Frag} {mg : Str → Option Value} {base : Heap}
theorem init_ok {qual : Str} {st : Stmt} {f : Addr} {fd : FuncData} {k : Nat} {Pf : Addr → List D → Prop} {p1 p2 p3 : Pos} {e : Expr} {rest : List Stmt} (F : Fun K "__init__" qual st f fd) (S : FnScope ["self", "forms", "form"] ["self", "forms"] (defScope st))
    (hst : defBody st = .Assign [.Attribute (.Name "self" p1) "forms" p2] e p3 :: rest)
    (hsw : ∀ env, swapsWith e (some (.Attribute (.Name "self" p1) "forms" p2)) p3.line env = pure false)
    (hv : Vis (defScope st) "self")
    (hc : ∀ C ds, Pf C ds → Cls K C ∧ NoAttr K C "forms" ∧ ∀ d ∈ ds, Fz d)
    (h1 : ∀ (cdv : Value) (A : Around) (outer : List Env) (s : Shared) (H : Hp) (E : XK) (a : Addr), Room k (A.deeper (envOfC qual (defScope st) s.heap.objs.size f cdv)) → ∀ C ds, Pf C ds →
      EvN (cxD P w K mg base ["self", "forms", "form"] qual st f cdv A outer s H E) e [some (.ob a), some (.ls ds), none] ds)
    (h2 : ∀ (cdv : Value) (A : Around) (outer : List Env) (s : Shared) (H H4 : Hp) (E : XK), Room k (A.deeper (envOfC qual (defScope st) s.heap.objs.size f cdv)) → ∀ C ds, Pf C ds →
      Do (Cx.from (cxD P w K mg base ["self", "forms", "form"] qual st f cdv A outer s H E) H4) rest [some (.qi C ds), none, none] { nx := fun _ => True, rt := fun _ => False }) : FnOk P w K mg base CX0 (k + 1) f fd ["self", "forms"] (SpI K Pf) := by
  refine F.ok S (fun vs H Q E h => ?_) (fun cdv A outer s H vs Q E hr h => ?_)
  · obtain ⟨a, dx, C, ds, x, rfl, _⟩ := h
    rfl
  obtain ⟨a, dx, C, ds, x, rfl, ea, hx, hp, q⟩ := h
  obtain ⟨cl, na, fz⟩ := hc C ds hp
  have e1 := h1 cdv A outer s H E a hr C ds hp
  have e2 := fun H4 => h2 cdv A outer s H H4 E hr C ds hp
  rw [hst]
  have hv' : Ev (cxD P w K mg base ["self", "forms", "form"] qual st f cdv A outer s H E) (.Name "self" p1) [some (.ob a), some (.ls ds), none] (.ob a) := ev_v 0 rfl rfl hv
  refine ⟨_, pss_cons (u := fun D σ H2 => σ = L2.start ["self", "forms", "form"] [.ref a, x] ∧ ∃ l xs, H2 a = some (.ins C dx [("forms", .ref l)]) ∧ H2 l = some (.lst xs) ∧ IsAll K H2 xs ds ∧ (∀ b u, b ≠ a → H b = some u → H2 b = some u) ∧ H l = none ∧ ∀ σ' H', (∀ b u, b ≠ a → b ≠ l → H2 b = some u → H' b = some u) → Is K H' (.ref a) (.qi C ds) → D.nx σ' H') (ps_fld hv' e1 (hsw _)) ?_, ?_⟩
  · rintro pins s2 σ H2 D I ⟨rfl, l, xs, ha, hl, hA, hk, hln, hq⟩
    have nla : l ≠ a := fun z => by subst z; rw [ha] at hl; cases hl
    obtain ⟨ol, I3⟩ := Inv.freeze I hl (.inl rfl)
    have kt3 : KT H2 (upd H2 l (.frz ol (.lst xs))) := upd_keep hl (fun _ z => by cases z) (fun _ _ z => by cases z)
    have ha3 : upd H2 l (.frz ol (.lst xs)) a = some (.ins C dx [("forms", .ref l)]) := by rw [upd_ne nla.symm]; exact ha
    obtain ⟨oa, I4⟩ := Inv.freezeI I3 ha3
    have kt4 := upd_keep (o := .frz oa (.ins C dx [("forms", .ref l)])) ha3 (fun _ z => by cases z) (fun _ _ z => by cases z)
    generalize h4 : upd (upd H2 l (.frz ol (.lst xs))) a (.frz oa (.ins C dx [("forms", .ref l)])) = H4 at I4 kt4
    have g1 : H4 a = some (.frz oa (.ins C dx [("forms", .ref l)])) := by rw [← h4]; exact upd_same
    have g2 : H4 l = some (.frz ol (.lst xs)) := by rw [← h4, upd_ne nla]; exact upd_same
    have g3 : ∀ b u, b ≠ a → b ≠ l → H2 b = some u → H4 b = some u := fun b u n1 n2 z => by rw [← h4, upd_ne n1, upd_ne n2]; exact z
    have hi : Is K H4 (.ref a) (.qi C ds) := .qi g1 g2 (hA.keep (kt3.trans kt4) fz)
    have J := Inv.from I4 (fun b z => by
      show H b = none
      cases hb : H b with
      | none => rfl
      | some u =>
        exfalso
        by_cases n1 : b = a
        · subst n1; rw [g1] at z; cases z
        · by_cases n2 : b = l
          · subst n2; rw [g2] at z; cases z
          · rw [g3 b u n1 n2 (hk b u n1 hb)] at z; cases z)
    refine wpAny_mono (e2 H4 pins s2 _ H4 { nx := fun _ H' => Same H4 H', rt := fun _ _ => False, bk := fun _ _ => False, ct := fun _ _ => False } J ⟨⟨Same.refl _, rfl, fun i d hd => ?_, fun b ⟨i, d, hd, hz⟩ => ?_⟩, fun σ' H' ρ' _ r' _ => r'.same, fun _ _ _ _ _ _ z => z.elim, fun _ _ _ _ _ z => z.elim, fun _ _ _ _ _ z => z.elim⟩) ?_ (fun _ _ z => z)
    · match i, hd with
      | 0, hd => cases hd; exact ⟨.ref a, rfl, hi, .inr (.inl hi)⟩
      | 1, hd => cases hd
      | 2, hd => cases hd
      | n + 3, hd => cases hd
    · match i, hd with
      | 0, hd => cases hd; cases hz
      | 1, hd => cases hd
      | 2, hd => cases hd
      | n + 3, hd => cases hd
    · intro fl s' z
      cases fl with
      | next =>
        obtain ⟨σ', H', J', sm⟩ := z
        exact ⟨σ', H', Inv.back I4 J', hq σ' H' (fun b u n1 n2 z => sm b u (g3 b u n1 n2 z)) (hi.mono sm)⟩
      | brk => obtain ⟨_, _, _, z⟩ := z; exact z.elim
      | cont => obtain ⟨_, _, _, z⟩ := z; exact z.elim
      | ret u => obtain ⟨_, _, _, _, _, z⟩ := z; exact z.elim
  · have r0 : RelE (cxD P w K mg base ["self", "forms", "form"] qual st f cdv A outer s H E) H (L2.start ["self", "forms", "form"] [.ref a, x]) [some (.ob a), some (.ls ds), none] := ⟨rfl, fun i d hd => by
      match i, hd with
      | 0, hd => cases hd; exact ⟨.ref a, rfl, .ob a⟩
      | 1, hd => cases hd; exact ⟨x, rfl, hx⟩
      | 2, hd => cases hd
      | n + 3, hd => cases hd⟩
    refine ⟨r0, fun l xs H1 n1 s1 hl hA => ⟨r0.mono s1, fun v H2 s2 hv => ?_⟩⟩
    obtain rfl := hv.ob_inv
    refine ⟨a, C, dx, [], rfl, s2 _ _ (s1 _ _ ea), cl, na, Nat.zero_lt_succ _, rfl, l, xs, upd_same, ?_, ?_, fun b u n z => ?_, n1, fun σ' H' hk hi => ?_⟩
    · have : l ≠ a := fun z => by subst z; rw [ea] at n1; cases n1
      rw [upd_ne this]
      exact s2 _ _ hl
    · exact (hA.mono s2).keep (upd_keep (s2 _ _ (s1 _ _ ea)) (fun _ z => by cases z) (fun _ _ z => by cases z)) fz
    · rw [upd_ne n]
      exact s2 _ _ (s1 _ _ z)
    · refine q H' (fun b u n z => hk b u n (ne_of_none z n1) ?_) hi
      rw [upd_ne n]
      exact s2 _ _ (s1 _ _ z)
end
structure Isi (K : PySem.W.Frag) (C : Addr) : Prop where
  ha : PySem.W.findIn K (.ref C) "__class__" = some (some (.builtin "object.__class__"))
  hn : PySem.W.specialIn K (.builtin "object.__class__") "__get__" = some (some (.builtin "getset_descriptor.__get__"))
  htk : PySem.W.takesIn K (.builtin "object.__class__") = some true
  hm : PySem.W.mroIn K C (.type "object") = some true
theorem call_isiQ {X : Cx} {C C' : Addr} {ds : List D} {k : Bool} (cl : Cls X.K C) (c : Isi X.K C) (hk : PySem.W.kitOne X.K (.ref C) (.ref C') = some k) :
    CallR X (.builtin "isinstance") (fun vs H Q => ∃ v, vs = [v, .ref C'] ∧ Is X.K H v (.qi C ds) ∧ Q (.bl k) H) := by
  intro pins s σ H xs us Q I r h
  obtain ⟨v, rfl, h, q⟩ := h
  obtain ⟨u, w', rfl, rx, ry⟩ := vals2 r
  obtain rfl : w' = Value.ref C' := ry
  obtain ⟨a, l, dx, ob, o', xs, rfl, e1, e2, e3⟩ := h.qi_inv
  obtain rfl : u = Value.ref a := rx
  obtain ⟨mA, O, rl⟩ := ins_getF I.hok e1
  obtain ⟨od, J, _⟩ := O.look
  exact PySem.W.kia_one (PySem.W.kitx_own (cl.get _) cl.hd c.ha c.hn c.htk c.hm) I.kIn J hk (fun z => nomatch z) fun tk => ⟨.bl k, H, I.tok tk, rfl, q⟩
section
variable {X : Cx} {a : Expr} {ρ : Ro} {ds : List D} {pos : Pos} {C C' : Addr} {k : Bool}
theorem ev_isiQ {x : Str} {p p2 : Pos} (hm : X.mg "isinstance" = none) (ha : Ev X a ρ (.qi C ds)) (hmC : X.mg x = some (.ref C')) (cl : Cls X.K C) (c : Isi X.K C) (hk : PySem.W.kitOne X.K (.ref C) (.ref C') = some k)
    (hg : Gl X "isinstance" := by rfl) (hgT : Gl X x := by rfl) (hd : (x == ("__debug__" : Str)) = false := by decide)
    (he : starEach [a, .Name x p2] X.env = [(false, eval a X.env), (false, eval (.Name x p2) X.env)] := by rfl) (hb : (backTo pos (starEach [.Name x p2] X.env)).any (·.1) = false := by rfl) :
    Ev X (.Call (.Name "isinstance" p) [a, .Name x p2] [] pos) ρ (.bl k) :=
  ev_callB (call_isiQ cl c hk) hm (by decide +kernel) (ea_cons ha (ea_cons (d := .ob C') (PE.imp (pe_glob hgT hmC (v := .ref C') rfl hd) fun _ H _ ⟨_, q⟩ => q _ H (Same.refl H) (.ob C')) ea_nil) he) (fun vs H Q h q => by
    obtain ⟨v, v', rfl, h1, h2⟩ := two_inv h
    cases h2.ob_inv
    exact ⟨v, rfl, h1, q _ H (Same.refl H) (.bl k)⟩) hg (by decide) (by decide) he hb
end
end FL
namespace CM
open PySem PySem.Spec L2 FL FT FU MG
def inCls (st : Stmt) (j : Nat) : Stmt := match st with
  | .ClassDef _ _ _ b _ _ _ _ _ _ _ => b.getD j (.Pass ⟨0, 0, 0, 0⟩)
  | _ => st
structure QCl (K : PySem.W.Frag) (C : Addr) : Prop where
  cl : Cls K C
  na : NoAttr K C "forms"
def Cq (fs : List D) (t : Str) : Prop := fs.length ≤ 3 ∧ t = sI ((fs.length : Nat) : Int)
def Lq (fs : List D) (t : Str) : Prop := ∃ (i : Int) (_ : BarL i) (x : C i) (q : Q) (r : List D), fs = qD q :: r ∧ r.length ≤ 3 ∧ QJ q ∧ Eqv q x.1 ∧ t = formS x.1.a x.1.b x.1.c
def Rq (fs : List D) (t : Str) : Prop := ∃ (i : Int) (h : BarL i) (x : C i) (q : Q) (r : List D), fs = qD q :: r ∧ r.length ≤ 3 ∧ QJ q ∧ Eqv q x.1 ∧ t = formS x.1.a x.1.b x.1.c ++ Str.ofString " " ++ sI ((od h x : Nat) : Int)
def p_toldQ (K : PySem.W.Frag) (R : List D → Str → Prop) (ds : List D) (d : D) : Prop := ∃ (C : Addr) (fs : List D) (t : Str), ds = [.qi C fs] ∧ QCl K C ∧ R fs t ∧ d = .str t
def TQ (K : PySem.W.Frag) (C0 C1 C2 C : Addr) (fs : List D) (t : Str) : Prop := QCl K C ∧ ((C = C0 ∧ Cq fs t) ∨ (C = C1 ∧ Lq fs t) ∨ (C = C2 ∧ Rq fs t))
def p_line (K : PySem.W.Frag) (C0 C1 C2 : Addr) (ds : List D) (d : D) : Prop := ∃ (C : Addr) (fs : List D) (t : Str) (n : Int), ds = [.qi C fs, .int n] ∧ TQ K C0 C1 C2 C fs t ∧ 0 ≤ n ∧ n ≤ 100 ∧ d = .str (Txt.rjust t n)
def p_wide (ds : List D) (d : D) : Prop := ∃ (t : Str) (n : Int), ds = [.str t, .int n] ∧ t.length ≤ 100 ∧ 0 ≤ n ∧ n ≤ 100 ∧ d = .str (Txt.rjust t n)
def p_says (K : PySem.W.Frag) (C0 C1 C2 : Addr) (ds : List D) (d : D) : Prop := ∃ (C : Addr) (fs : List D) (t : Str) (n : Int), ds = [.qi C fs, .str t, .int n] ∧ TQ K C0 C1 C2 C fs t ∧ 0 ≤ n ∧ n ≤ 100 ∧ d = .bl true
def p_require_so_many (ds : List D) (d : D) : Prop := ∃ (fs : List D) (n : Int), ds = [.fl fs, .int n] ∧ n ≤ fs.length ∧ fs.length ≤ 1000 ∧ d = .non
def p_init (K : PySem.W.Frag) (C : Addr) (ds : List D) : Prop := QCl K C ∧ ds.length ≤ 3 ∧ ∀ d ∈ ds, ∃ q : Q, d = qD q ∧ FormN q.a q.b q.c
structure Tds (P : Program) (w : World) (K : PySem.W.Frag) (mg : Str → Option Value) (base : Heap) (C0 C1 C2 : Addr) : Prop where
  g0 : Mt P w K mg base 1 C0 "told" (p_toldQ K Cq)
  g1 : Mt P w K mg base 6 C1 "told" (p_toldQ K Lq)
  g2 : Mt P w K mg base 11 C2 "told" (p_toldQ K Rq)
def Lns (P : Program) (w : World) (K : PySem.W.Frag) (mg : Str → Option Value) (base : Heap) (C0 C1 C2 : Addr) : Prop :=
  ∀ C, C = C0 ∨ C = C1 ∨ C = C2 → Mt P w K mg base 12 C "line" (p_line K C0 C1 C2)
theorem formS_len {a b c : Int} (ha : a.natAbs < 4096) (hb : b.natAbs < 4096) (hc : c.natAbs < 4096) : (formS a b c).length ≤ 21 := by
  have h1 := sI_len ha
  have h2 := sI_len hb
  have h3 := sI_len hc
  have e1 : (Str.ofString "[").length = 1 := rfl
  have e2 : (Str.ofString ", ").length = 2 := rfl
  have e3 : (Str.ofString "]").length = 1 := rfl
  unfold formS
  simp only [Str.length_append, e1, e2, e3]
  omega
theorem clsS_len {i : Int} (hi : BarL i) (x : C i) : (formS x.1.a x.1.b x.1.c).length ≤ 21 := by
  obtain ⟨h1, h2, h3⟩ := cls_small' hi x
  exact formS_len h1 h2 h3
theorem od_small {i : Int} (hi : BarL i) (x : C i) : (((od hi x : Nat) : Int)).natAbs < 4096 := by
  have := od_le hi x
  omega
theorem tq_len {K : PySem.W.Frag} {C0 C1 C2 C : Addr} {fs : List D} {t : Str} (h : TQ K C0 C1 C2 C fs t) : t.length ≤ 40 := by
  rcases h.2 with ⟨_, l, rfl⟩ | ⟨_, i, hi, x, q, r, _, _, _, _, rfl⟩ | ⟨_, i, hi, x, q, r, _, _, _, _, rfl⟩
  · have := sI_len (i := ((fs.length : Nat) : Int)) (by omega)
    omega
  · have := clsS_len hi x
    omega
  · have h1 := clsS_len hi x
    have h2 := sI_len (od_small hi x)
    have e1 : (Str.ofString " ").length = 1 := rfl
    simp only [Str.length_append, e1]
    omega
theorem rj_zero (t : Str) : Txt.rjust t 0 = t := by
  have h := rjust_pad t 0
  rw [Nat.zero_sub, pad_zero] at h
  exact h
section
variable {X : Cx} {o : Expr} {ρ : Ro} {pos apos : Pos} {C0 C1 C2 C : Addr} {fs : List D} {t : Str}
theorem ev_told {pl : Sem Bool} (T : Tds X.prog X.w X.K X.mg X.base C0 C1 C2) (ho : Ev X o ρ (.qi C fs)) (hr : Room 11 X.A) (h : TQ X.K C0 C1 C2 C fs t)
    (ht : eval (.Call (.Attribute o "told" apos) [] [] pos) X.env = (do
      let ov ← eval o X.env
      standAt apos.atName
      let (f, first) ← holding [ov] (getMethod ov "told" pl)
      callWith pos f first (backTo pos (starEach [] X.env)) (backToKw pos (keywordEach [] X.env))) := by rfl) :
    Ev X (.Call (.Attribute o "told" apos) [] [] pos) ρ (.str t) := by
  obtain ⟨c, ⟨rfl, h⟩ | ⟨rfl, h⟩ | ⟨rfl, h⟩⟩ := h
  · exact ev_meth0 T.g0 ho (hr.mono (by decide)) ⟨_, _, _, rfl, c, h, rfl⟩ (by decide) ht
  · exact ev_meth0 T.g1 ho (hr.mono (by decide)) ⟨_, _, _, rfl, c, h, rfl⟩ (by decide) ht
  · exact ev_meth0 T.g2 ho hr ⟨_, _, _, rfl, c, h, rfl⟩ (by decide) ht
theorem TQ.one {K : PySem.W.Frag} (h : TQ K C0 C1 C2 C fs t) : C = C0 ∨ C = C1 ∨ C = C2 := by
  rcases h.2 with ⟨z, _⟩ | ⟨z, _⟩ | ⟨z, _⟩
  · exact .inl z
  · exact .inr (.inl z)
  · exact .inr (.inr z)
end
theorem ev_lst7 {X : Cx} {e : Expr} {ρ : Ro} {l : Addr} {ds : List D} (h : Ev X e ρ (.lst l ds)) : Ev X e ρ (.ls ds) := PE.imp h fun σ H Q ⟨r, q⟩ => ⟨r, fun v H' s h1 => by
  obtain ⟨rfl, xs, h3, h4⟩ := h1.lst_inv
  exact q _ H' s (.ls (.of h3) h4)⟩
theorem evn_to {X : Cx} {e : Expr} {ρ : Ro} {ds es : List D} (h : EvN X e ρ ds) (z : ds = es) : EvN X e ρ es := z ▸ h
theorem at0 (d : D) (r : List D) : L2.atI (d :: r) 0 = some d := L2.atI_nat (j := 0) rfl
theorem cms_rep {n : Nat} {d : D} (h : Cm n d d) : ∀ m, Cms n (List.replicate m d) (List.replicate m d)
  | 0 => .nil
  | m + 1 => .cons h (cms_rep h m)
theorem rep_eq {d : D} (n : Nat) : ((((List.range n).map fun (t : Nat) => D.int (0 + t)).filter fun _ => true).map fun _ => d) = List.replicate n d := by
  refine List.eq_replicate_iff.mpr ⟨by rw [List.length_map, List.filter_eq_self.mpr (fun _ _ => rfl), List.length_map, List.length_range], fun b hb => ?_⟩
  obtain ⟨_, _, rfl⟩ := List.mem_map.mp hb
  rfl
theorem next_one {g : Nat} (hg : 0 < g) (c : Int) : ∃ c1 : Int, c ≤ c1 ∧ c1 < c + g ∧ Int.gcd (g : Int) c1 = 1 := by
  have h0 := Int.emod_nonneg (1 - c) (show (g : Int) ≠ 0 by omega)
  have h1 := Int.emod_lt_of_pos (1 - c) (show 0 < (g : Int) by omega)
  have h2 := Int.emod_add_mul_ediv (1 - c) g
  refine ⟨c + (1 - c) % g, by omega, by omega, ?_⟩
  have d1 : ((Int.gcd (g : Int) (c + (1 - c) % g) : Nat) : Int) ∣ (g : Int) := Int.gcd_dvd_left _ _
  have d2 : ((Int.gcd (g : Int) (c + (1 - c) % g) : Nat) : Int) ∣ c + (1 - c) % g := Int.gcd_dvd_right _ _
  have d3 : ((Int.gcd (g : Int) (c + (1 - c) % g) : Nat) : Int) ∣ 1 := by
    have e : (c + (1 - c) % g) + g * ((1 - c) / g) = 1 := by omega
    have h := Int.dvd_add d2 (Int.dvd_trans d1 (Int.dvd_mul_right _ ((1 - c) / g)))
    rwa [e] at h
  exact Nat.dvd_one.mp (Int.natCast_dvd_natCast.mp d3)
theorem k24_form {a b c : Int} (a0 : 0 < a) (a1 : a ≤ 12) (b0 : -12 ≤ b) (b1 : b ≤ 12) (c0 : b * b / (4 * a) + 1 ≤ c) (c1 : c ≤ 80) (g : Int.gcd (Int.gcd a b) c = 1) : ∃ h : BarL (b * b - 4 * a * c), QJ ⟨a, b, c⟩ := by
  have sq : 0 ≤ b * b := MT.sq_nonneg b
  have den : 0 < 4 * a := by omega
  have q0 : 0 ≤ b * b / (4 * a) := Int.ediv_nonneg sq (by omega)
  have lt : b * b < (b * b / (4 * a) + 1) * (4 * a) := Int.lt_ediv_add_one_mul_self _ den
  have le : (b * b / (4 * a) + 1) * (4 * a) ≤ c * (4 * a) := Int.mul_le_mul_of_nonneg_right c0 (by omega)
  have e : 4 * a * c = c * (4 * a) := Int.mul_comm _ _
  have up : c * (4 * a) ≤ 80 * (4 * a) := Int.mul_le_mul_of_nonneg_right c1 (by omega)
  have neg : b * b - 4 * a * c < 0 := by omega
  have low : -4000 ≤ b * b - 4 * a * c := by omega
  have ba : Bd a 4 := .of_lt (by omega)
  have bb : Bd b 4 := .of_lt (by omega)
  have bc : Bd c 7 := .of_lt (by omega)
  have bd : Bd (b * b - 4 * a * c) 12 := .of_lt (by omega)
  exact ⟨⟨⟨neg, bar_mod a b c⟩, low⟩, a0, neg, ba.up _ (by decide), bb.up _ (by decide), bc.up _ (by decide), bd.up _ (by decide), g⟩
section
variable {K : PySem.W.Frag} {C C' : Addr}
theorem cls_some (o : PySem.W.mroIn K C' (.type "object") = some true) : (PySem.W.clsIn K C').isSome = true := by
  unfold PySem.W.mroIn at o
  cases q : PySem.W.clsIn K C' with
  | none => rw [q] at o; cases o
  | some _ => rfl
theorem kit_cls (o : PySem.W.mroIn K C' (.type "object") = some true) (t : PySem.W.typeIn K (.ref C') = some (.type "type")) : PySem.W.kitCls K (.ref C) (.ref C') = PySem.W.mroIn K C (.ref C') := by
  show (if ((PySem.W.clsIn K C').isSome && PySem.W.typeIn K (.ref C') == some (.type "type")) = true then PySem.W.subIn K (.ref C) (.ref C') else none) = _
  rw [cls_some o, t, if_pos (by decide)]
  rfl
theorem kit_t (h : PySem.W.mroIn K C (.ref C') = some true) (o : PySem.W.mroIn K C' (.type "object") = some true) (t : PySem.W.typeIn K (.ref C') = some (.type "type")) : PySem.W.kitOne K (.ref C) (.ref C') = some true := by
  unfold PySem.W.kitOne
  split
  · rfl
  · rw [kit_cls o t]; exact h
theorem kit_f (s : PySem.W.mroIn K C (.ref C) = some true) (h : PySem.W.mroIn K C (.ref C') = some false) (o : PySem.W.mroIn K C' (.type "object") = some true) (t : PySem.W.typeIn K (.ref C') = some (.type "type")) : PySem.W.kitOne K (.ref C) (.ref C') = some false := by
  unfold PySem.W.kitOne
  split
  · rename_i z
    have e : Value.ref C = Value.ref C' := eq_of_beq z
    cases e
    rw [s] at h
    cases h
  · rw [kit_cls o t]; exact h
end
end CM
namespace K24
open PySem PySem.Spec L2 FL FT FU CM MG
def top (i : Nat) : Stmt := PySem.Challenge.pw_formturn_k24_questions.main.body.getD i (.Pass ⟨0, 0, 0, 0⟩)
abbrev s_is_whole : Stmt := top 10
abbrev s_is_whole_tuple : Stmt := top 11
abbrev s_is_bar : Stmt := top 12
abbrev s_require_bar : Stmt := top 13
abbrev s_require_bar_from : Stmt := top 14
abbrev s_require_whole : Stmt := top 15
abbrev s_common_divisor : Stmt := top 16
abbrev s_divisor_with_shares : Stmt := top 17
abbrev s_bar_of_numbers : Stmt := top 19
abbrev s_is_form : Stmt := top 20
abbrev s_require_form : Stmt := top 21
abbrev s_bar_of : Stmt := top 22
abbrev s_is_bare : Stmt := top 23
abbrev s_is_turning : Stmt := top 25
abbrev s_require_turning : Stmt := top 26
abbrev s_sent : Stmt := top 27
abbrev s_way_back : Stmt := top 28
abbrev s_stepped : Stmt := top 31
abbrev s_behind_step : Stmt := top 32
abbrev s_swapped : Stmt := top 33
abbrev s_behind_swap : Stmt := top 34
abbrev s_step_to_middle : Stmt := top 35
abbrev s_least_of : Stmt := top 36
abbrev s_require_bare : Stmt := top 38
abbrev s_require_same_bar : Stmt := top 39
abbrev s_joint_divisor : Stmt := top 40
abbrev s_joint_middle : Stmt := top 41
abbrev s_joint_rows : Stmt := top 42
abbrev s_joined_whole : Stmt := top 43
abbrev s_joined : Stmt := top 44
abbrev s_neutral : Stmt := top 45
abbrev s_round_of_class : Stmt := top 47
abbrev s_round_of : Stmt := top 48
abbrev s_number_written : Stmt := top 51
abbrev s_written : Stmt := top 52
abbrev s_require_so_many : Stmt := top 54
abbrev s_law_cell_at : Stmt := top 59
abbrev s_law_divisor : Stmt := top 60
abbrev s_law_wide : Stmt := top 61
abbrev s_law_says : Stmt := top 62
abbrev s_law : Stmt := top 63
abbrev s_Question_init : Stmt := inCls (top 55) 0
abbrev s_Question_told : Stmt := inCls (top 55) 1
abbrev s_Question_line : Stmt := inCls (top 55) 2
abbrev s_LeastQuestion_told : Stmt := inCls (top 56) 0
abbrev s_RoundQuestion_told : Stmt := inCls (top 57) 0
theorem sc_is_whole : FnScope ["value"] ["value"] (defScope s_is_whole) := ⟨rfl, rfl, rfl, by decide +kernel, rfl, by decide +kernel, by decide +kernel⟩
theorem sc_is_whole_tuple : FnScope ["value", "length"] ["value", "length"] (defScope s_is_whole_tuple) := ⟨rfl, rfl, rfl, by decide +kernel, rfl, by decide +kernel, by decide +kernel⟩
theorem sc_is_bar : FnScope ["value"] ["value"] (defScope s_is_bar) := ⟨rfl, rfl, rfl, by decide +kernel, rfl, by decide +kernel, by decide +kernel⟩
theorem sc_require_bar : FnScope ["value"] ["value"] (defScope s_require_bar) := ⟨rfl, rfl, rfl, by decide +kernel, rfl, by decide +kernel, by decide +kernel⟩
theorem sc_require_bar_from : FnScope ["value", "lowest"] ["value", "lowest"] (defScope s_require_bar_from) := ⟨rfl, rfl, rfl, by decide +kernel, rfl, by decide +kernel, by decide +kernel⟩
theorem sc_require_whole : FnScope ["value"] ["value"] (defScope s_require_whole) := ⟨rfl, rfl, rfl, by decide +kernel, rfl, by decide +kernel, by decide +kernel⟩
theorem sc_common_divisor : FnScope ["one", "other", "greater", "lesser", "rest"] ["one", "other"] (defScope s_common_divisor) := ⟨rfl, rfl, rfl, by decide +kernel, rfl, by decide +kernel, by decide +kernel⟩
theorem sc_divisor_with_shares : FnScope ["one", "other", "divisor", "share", "rest", "rest_share", "times", "after", "after_share"] ["one", "other"] (defScope s_divisor_with_shares) := ⟨rfl, rfl, rfl, by decide +kernel, rfl, by decide +kernel, by decide +kernel⟩
theorem sc_bar_of_numbers : FnScope ["a", "b", "c"] ["a", "b", "c"] (defScope s_bar_of_numbers) := ⟨rfl, rfl, rfl, by decide +kernel, rfl, by decide +kernel, by decide +kernel⟩
theorem sc_is_form : FnScope ["value"] ["value"] (defScope s_is_form) := ⟨rfl, rfl, rfl, by decide +kernel, rfl, by decide +kernel, by decide +kernel⟩
theorem sc_require_form : FnScope ["value"] ["value"] (defScope s_require_form) := ⟨rfl, rfl, rfl, by decide +kernel, rfl, by decide +kernel, by decide +kernel⟩
theorem sc_bar_of : FnScope ["form"] ["form"] (defScope s_bar_of) := ⟨rfl, rfl, rfl, by decide +kernel, rfl, by decide +kernel, by decide +kernel⟩
theorem sc_is_bare : FnScope ["form"] ["form"] (defScope s_is_bare) := ⟨rfl, rfl, rfl, by decide +kernel, rfl, by decide +kernel, by decide +kernel⟩
theorem sc_is_turning : FnScope ["value"] ["value"] (defScope s_is_turning) := ⟨rfl, rfl, rfl, by decide +kernel, rfl, by decide +kernel, by decide +kernel⟩
theorem sc_require_turning : FnScope ["value"] ["value"] (defScope s_require_turning) := ⟨rfl, rfl, rfl, by decide +kernel, rfl, by decide +kernel, by decide +kernel⟩
theorem sc_sent : FnScope ["turning", "place", "x", "y"] ["turning", "place"] (defScope s_sent) := ⟨rfl, rfl, rfl, by decide +kernel, rfl, by decide +kernel, by decide +kernel⟩
theorem sc_way_back : FnScope ["turning"] ["turning"] (defScope s_way_back) := ⟨rfl, rfl, rfl, by decide +kernel, rfl, by decide +kernel, by decide +kernel⟩
theorem sc_stepped : FnScope ["form", "step", "a", "b"] ["form", "step"] (defScope s_stepped) := ⟨rfl, rfl, rfl, by decide +kernel, rfl, by decide +kernel, by decide +kernel⟩
theorem sc_behind_step : FnScope ["turning", "step", "p", "r"] ["turning", "step"] (defScope s_behind_step) := ⟨rfl, rfl, rfl, by decide +kernel, rfl, by decide +kernel, by decide +kernel⟩
theorem sc_swapped : FnScope ["form"] ["form"] (defScope s_swapped) := ⟨rfl, rfl, rfl, by decide +kernel, rfl, by decide +kernel, by decide +kernel⟩
theorem sc_behind_swap : FnScope ["turning"] ["turning"] (defScope s_behind_swap) := ⟨rfl, rfl, rfl, by decide +kernel, rfl, by decide +kernel, by decide +kernel⟩
theorem sc_step_to_middle : FnScope ["form"] ["form"] (defScope s_step_to_middle) := ⟨rfl, rfl, rfl, by decide +kernel, rfl, by decide +kernel, by decide +kernel⟩
theorem sc_least_of : FnScope ["form", "step", "found", "turning"] ["form"] (defScope s_least_of) := ⟨rfl, rfl, rfl, by decide +kernel, rfl, by decide +kernel, by decide +kernel⟩
theorem sc_require_bare : FnScope ["form"] ["form"] (defScope s_require_bare) := ⟨rfl, rfl, rfl, by decide +kernel, rfl, by decide +kernel, by decide +kernel⟩
theorem sc_require_same_bar : FnScope ["one", "other"] ["one", "other"] (defScope s_require_same_bar) := ⟨rfl, rfl, rfl, by decide +kernel, rfl, by decide +kernel, by decide +kernel⟩
theorem sc_joint_divisor : FnScope ["one", "other", "first", "second"] ["one", "other"] (defScope s_joint_divisor) := ⟨rfl, rfl, rfl, by decide +kernel, rfl, by decide +kernel, by decide +kernel⟩
theorem sc_joint_middle : FnScope ["one", "other", "shares", "half", "total"] ["one", "other", "shares"] (defScope s_joint_middle) := ⟨rfl, rfl, rfl, by decide +kernel, rfl, by decide +kernel, by decide +kernel⟩
theorem sc_joint_rows : FnScope ["one", "other", "divisor", "middle", "a", "b", "d", "e", "last"] ["one", "other", "divisor", "middle"] (defScope s_joint_rows) := ⟨rfl, rfl, rfl, by decide +kernel, rfl, by decide +kernel, by decide +kernel⟩
theorem sc_joined_whole : FnScope ["one", "other", "bar", "shares", "divisor", "first", "middle", "least", "back", "pairs"] ["one", "other"] (defScope s_joined_whole) := ⟨rfl, rfl, rfl, by decide +kernel, rfl, by decide +kernel, by decide +kernel⟩
theorem sc_joined : FnScope ["one", "other"] ["one", "other"] (defScope s_joined) := ⟨rfl, rfl, rfl, by decide +kernel, rfl, by decide +kernel, by decide +kernel⟩
theorem sc_neutral : FnScope ["bar", "middle"] ["bar"] (defScope s_neutral) := ⟨rfl, rfl, rfl, by decide +kernel, rfl, by decide +kernel, by decide +kernel⟩
theorem sc_round_of_class : FnScope ["form", "last", "found"] ["form"] (defScope s_round_of_class) := ⟨rfl, rfl, rfl, by decide +kernel, rfl, by decide +kernel, by decide +kernel⟩
theorem sc_round_of : FnScope ["form"] ["form"] (defScope s_round_of) := ⟨rfl, rfl, rfl, by decide +kernel, rfl, by decide +kernel, by decide +kernel⟩
theorem sc_number_written : FnScope ["number", "rest", "pieces"] ["number"] (defScope s_number_written) := ⟨rfl, rfl, rfl, by decide +kernel, rfl, by decide +kernel, by decide +kernel⟩
theorem sc_written : FnScope ["form", "numbers"] ["form"] (defScope s_written) := ⟨rfl, rfl, rfl, by decide +kernel, rfl, by decide +kernel, by decide +kernel⟩
theorem sc_require_so_many : FnScope ["forms", "least"] ["forms", "least"] (defScope s_require_so_many) := ⟨rfl, rfl, rfl, by decide +kernel, rfl, by decide +kernel, by decide +kernel⟩
theorem sc_law_cell_at : FnScope ["_law_script", "_law_k"] ["_law_script", "_law_k"] (defScope s_law_cell_at) := ⟨rfl, rfl, rfl, by decide +kernel, rfl, by decide +kernel, by decide +kernel⟩
theorem sc_law_divisor : FnScope ["_law_one", "_law_other", "_law_rest"] ["_law_one", "_law_other"] (defScope s_law_divisor) := ⟨rfl, rfl, rfl, by decide +kernel, rfl, by decide +kernel, by decide +kernel⟩
theorem sc_law_wide : FnScope ["_law_text", "_law_width"] ["_law_text", "_law_width"] (defScope s_law_wide) := ⟨rfl, rfl, rfl, by decide +kernel, rfl, by decide +kernel, by decide +kernel⟩
theorem sc_law_says : FnScope ["_law_question", "_law_due", "_law_width", "_law_told", "_law_line"] ["_law_question", "_law_due", "_law_width"] (defScope s_law_says) := ⟨rfl, rfl, rfl, by decide +kernel, rfl, by decide +kernel, by decide +kernel⟩
theorem sc_law : FnScope ["_law_script", "_law_a", "_law_b", "_law_c", "_law_form", "_law_many", "_law_width", "_law_forms", "_law_least", "_law_text", "_law_handed", "_law_plain", "_law_round_about", "_law_longer"] ["_law_script"] (defScope s_law) := ⟨rfl, rfl, rfl, by decide +kernel, rfl, by decide +kernel, by decide +kernel⟩
theorem sc_Question_init : FnScope ["self", "forms", "form"] ["self", "forms"] (defScope s_Question_init) := ⟨rfl, rfl, rfl, by decide +kernel, rfl, by decide +kernel, by decide +kernel⟩
theorem sc_Question_told : FnScope ["self"] ["self"] (defScope s_Question_told) := ⟨rfl, rfl, rfl, by decide +kernel, rfl, by decide +kernel, by decide +kernel⟩
theorem sc_Question_line : FnScope ["self", "width"] ["self", "width"] (defScope s_Question_line) := ⟨rfl, rfl, rfl, by decide +kernel, rfl, by decide +kernel, by decide +kernel⟩
theorem sc_LeastQuestion_told : FnScope ["self"] ["self"] (defScope s_LeastQuestion_told) := ⟨rfl, rfl, rfl, by decide +kernel, rfl, by decide +kernel, by decide +kernel⟩
theorem sc_RoundQuestion_told : FnScope ["self", "way", "first", "length"] ["self"] (defScope s_RoundQuestion_told) := ⟨rfl, rfl, rfl, by decide +kernel, rfl, by decide +kernel, by decide +kernel⟩
section
variable {P : Program} {w : World} {K : PySem.W.Frag} {mg : Str → Option Value} {base : Heap}
theorem ok_is_whole {f : Addr} {fd : FuncData} (T : Tx mg) (F : Fun K "is_whole" "is_whole" s_is_whole f fd) (hm : mg "is_whole" = some (.ref f)) (hb : Binds K fd ["value"] []) : Fn P w K mg base 1 "is_whole" p_is_whole := by
  refine fn_mk F sc_is_whole hm hb (fun ds d h => ?_) (fun cdv A outer s H E hr ds d h => ?_)
  · obtain ⟨i, rfl, rfl⟩ := h
    exact ⟨rfl, by simp⟩
  · obtain ⟨i, rfl, rfl⟩ := h
    exact do_ret (ev_andT (ev_isi T.isi (ev_v 0) T.int bo_int rfl kit_s) (ev_one (ev_notF (ev_isi T.isi (ev_v 0) T.bool bo_bool rfl kit_int_bool)))) rfl
theorem ok_is_whole_tuple {f : Addr} {fd : FuncData} (T : Tx mg) (G1 : Fn P w K mg base 1 "is_whole" p_is_whole) (F : Fun K "is_whole_tuple" "is_whole_tuple" s_is_whole_tuple f fd) (hm : mg "is_whole_tuple" = some (.ref f)) (hb : Binds K fd ["value", "length"] []) :
    Fn P w K mg base 2 "is_whole_tuple" p_is_whole_tuple := by
  refine fn_mk F sc_is_whole_tuple hm hb (fun ds d h => ?_) (fun cdv A outer s H E hr ds d h => ?_)
  · obtain ⟨ns, rfl, _, rfl⟩ := h
    exact ⟨rfl, by simp⟩
  · obtain ⟨ns, rfl, hl, rfl⟩ := h
    have e1 : lenD (.tup (ns.map D.int)) = some ns.length := by simp [lenD]
    refine do_ifF (et_w (ew_orF (et_notT (et_val (ev_isi T.isi (ev_v 0) T.tuple bo_tuple rfl kit_s))) (ew_or1 (Et.ff (et_ne (ev_len T.len (ev_v 0) e1) (ev_v 1)) rfl)))) ?_
    · have hall : ((ns.map fun _ => true).map D.bl) = (((ns.map D.int).filter fun _ => true).map fun _ => D.bl true) := by
        rw [List.filter_eq_self.mpr (fun _ _ => rfl)]
        simp
      refine do_ret (ev_all (bs := ns.map fun _ => true) rfl T.all ?_) ?_
      · rw [hall]
        refine (evn_comp (ys := []) (js := []) (cl := []) (fun _ => true) (fun _ => .bl true) rfl (src_tup (ev_v 0)) (by simp; omega) (fun _ _ _ => .bl true) (fun C s₀ H₀ fp d hd => ets_nil) (fun C s₀ H₀ fp d hd _ => ?_) rfl (by decide) rfl (by decide) rfl (by decide) (fun y c h => by cases h) (no_free (by decide)) rfl (fun i j y h => by cases h)).ev
        · obtain ⟨z, _, rfl⟩ := List.mem_map.mp hd
          exact ev_call G1 hr (ea_cons (ev_v 0) ea_nil) ⟨z, rfl, rfl⟩
      · show D.bl _ = D.bl _
        congr 1
        simp
theorem ok_is_bar {f : Addr} {fd : FuncData} (G1 : Fn P w K mg base 1 "is_whole" p_is_whole) (F : Fun K "is_bar" "is_bar" s_is_bar f fd) (hm : mg "is_bar" = some (.ref f)) (hb : Binds K fd ["value"] []) : Fn P w K mg base 2 "is_bar" p_is_bar := by
  refine fn_mk F sc_is_bar hm hb (fun ds d h => ?_) (fun cdv A outer s H E hr ds d h => ?_)
  · obtain ⟨i, rfl, _⟩ := h
    exact ⟨rfl, by simp⟩
  · obtain ⟨i, rfl, hi, h4, rfl⟩ := h
    refine do_ret (ev_andT (ev_call G1 hr (ea_cons (ev_v 0) ea_nil) ⟨i, rfl, rfl⟩) (ev_andT (Ev.tt (ev_lt (ev_v 0) ev_int) hi) (ev_one (Ev.to (ev_in (n := 0) (ds := [.int 0, .int 1]) hr (ev_mod (ev_v 0) ev_int (by decide)) (ev_tup (ea_cons ev_int (ea_cons ev_int ea_nil))) (.inr rfl) ?_) ?_)))) rfl
    · intro z hz
      simp only [List.mem_cons, List.not_mem_nil, or_false] at hz
      rcases hz with rfl | rfl <;> exact .int _ _
    · congr 1
      rw [inD_iff]
      rcases h4 with h | h <;> rw [h] <;> simp
theorem ok_require_bar {f : Addr} {fd : FuncData} (G1 : Fn P w K mg base 2 "is_bar" p_is_bar) (F : Fun K "require_bar" "require_bar" s_require_bar f fd) (hm : mg "require_bar" = some (.ref f)) (hb : Binds K fd ["value"] []) : Fn P w K mg base 3 "require_bar" p_require_bar := by
  refine fn_mk F sc_require_bar hm hb (fun ds d h => ?_) (fun cdv A outer s H E hr ds d h => ?_)
  · obtain ⟨i, rfl, _⟩ := h
    exact ⟨rfl, by simp⟩
  · obtain ⟨i, rfl, hi, h4, rfl⟩ := h
    exact do_ifF (et_notT (et_val (ev_call G1 hr (ea_cons (ev_v 0) ea_nil) ⟨i, rfl, hi, h4, rfl⟩))) (do_nil rfl)
theorem ok_require_bar_from {f : Addr} {fd : FuncData} (G1 : Fn P w K mg base 3 "require_bar" p_require_bar) (F : Fun K "require_bar_from" "require_bar_from" s_require_bar_from f fd) (hm : mg "require_bar_from" = some (.ref f)) (hb : Binds K fd ["value", "lowest"] []) : Fn P w K mg base 4 "require_bar_from" p_require_bar_from := by
  refine fn_mk F sc_require_bar_from hm hb (fun ds d h => ?_) (fun cdv A outer s H E hr ds d h => ?_)
  · obtain ⟨i, l, rfl, _⟩ := h
    exact ⟨rfl, by simp⟩
  · obtain ⟨i, l, rfl, hi, h4, hl, rfl⟩ := h
    refine do_expr (ev_call G1 hr (ea_cons (ev_v 0) ea_nil) ⟨i, rfl, hi, h4, rfl⟩) ?_
    exact do_ifF (Et.ff' (et_lt (ev_v 0) (ev_v 1)) (by omega)) (do_nil rfl)
theorem ok_require_whole {f : Addr} {fd : FuncData} (G1 : Fn P w K mg base 1 "is_whole" p_is_whole) (F : Fun K "require_whole" "require_whole" s_require_whole f fd) (hm : mg "require_whole" = some (.ref f)) (hb : Binds K fd ["value"] []) : Fn P w K mg base 2 "require_whole" p_require_whole := by
  refine fn_mk F sc_require_whole hm hb (fun ds d h => ?_) (fun cdv A outer s H E hr ds d h => ?_)
  · obtain ⟨i, rfl, _⟩ := h
    exact ⟨rfl, by simp⟩
  · obtain ⟨i, rfl, rfl⟩ := h
    exact do_ifF (et_notT (et_val (ev_call G1 hr (ea_cons (ev_v 0) ea_nil) ⟨i, rfl, rfl⟩))) (do_nil rfl)
theorem ok_common_divisor {f : Addr} {fd : FuncData} (T : Tx mg) (F : Fun K "common_divisor" "common_divisor" s_common_divisor f fd) (hm : mg "common_divisor" = some (.ref f)) (hb : Binds K fd ["one", "other"] []) :
    Fn P w K mg base 1 "common_divisor" p_common_divisor := by
  refine fn_mk F sc_common_divisor hm hb (fun ds d h => ?_) (fun cdv A outer s H E hr ds d h => ?_)
  · obtain ⟨a, b, rfl, rfl⟩ := h
    exact ⟨rfl, by simp⟩
  · obtain ⟨a, b, rfl, rfl⟩ := h
    have nd := sc_common_divisor.nd
    refine do_set 2 (ev_abs T.abs (ev_v 0)) (.int _) (do_set 3 (ev_abs T.abs (ev_v 1)) (.int _) ?_ nd) nd
    refine do_while (fun ρ => ∃ g l r, ρ = [some (.int a), some (.int b), some (.int g), some (.int l), r] ∧ 0 ≤ g ∧ 0 ≤ l ∧ Int.gcd g l = Int.gcd a b)
      (fun ρ => ∃ g r, ρ = [some (.int a), some (.int b), some (.int g), some (.int 0), r] ∧ 0 ≤ g ∧ Int.gcd g 0 = Int.gcd a b)
      (fun ρ => (intAt ρ 3).natAbs) PassesOwn.never ⟨(a.natAbs : Int), (b.natAbs : Int), none, rfl, by omega, by omega, M.gcd_abs a b⟩ ?_ ?_
    · rintro ρ ⟨g, l, r, rfl, hg, hl, e⟩
      refine ⟨_, et_ne (ev_v 3) ev_int, fun hk => ?_, fun hk => ?_⟩
      · have hl0 : l ≠ 0 := by simpa using hk
        have hp : 0 < l := by omega
        have h1 := Int.emod_nonneg g hl0
        have h2 := Int.emod_lt_of_pos g hp
        refine do_set 4 (ev_mod (ev_v 2) (ev_v 3) hp) (.int _) (do_set 2 (ev_v 3) (.int _) (do_set 3 (ev_v 4) (.int _) (do_nil ⟨⟨l, g % l, _, rfl, hl, h1, ?_⟩, ?_⟩) nd) nd) nd
        · rw [M.emod_gcd]
          exact e
        · show (g % l).natAbs < l.natAbs
          omega
      · have hl0 : l = 0 := by simpa using hk
        subst hl0
        exact ⟨g, r, rfl, hg, e⟩
    · rintro ρ ⟨g, r, rfl, hg, e⟩
      refine do_ret (ev_v 2) ?_
      show D.int g = D.int _
      rw [← e, Int.gcd_zero_right]
      congr 1
      omega
theorem ok_divisor_with_shares {f : Addr} {fd : FuncData} (F : Fun K "divisor_with_shares" "divisor_with_shares" s_divisor_with_shares f fd) (hm : mg "divisor_with_shares" = some (.ref f)) (hb : Binds K fd ["one", "other"] []) : FnR P w K mg base 1 "divisor_with_shares" pre_dws post_dws := by
  refine fnr_mk F sc_divisor_with_shares hm hb (fun ds h => ?_) (fun cdv A outer s H E hr ds h => ?_)
  · obtain ⟨a, b, rfl, _⟩ := h
    exact ⟨rfl, by simp⟩
  · obtain ⟨one, other, rfl, s1, s2⟩ := h
    have nd := sc_divisor_with_shares.nd
    refine do_set 2 (ev_v 0) (.int _) ?_ nd
    refine do_set 3 ev_int (.int _) ?_ nd
    refine do_set 4 (ev_v 1) (.int _) ?_ nd
    refine do_set 5 ev_int (.int _) ?_ nd
    refine do_while (fun ρ => ∃ dv sh rs rsh t6 t7 t8, ρ = [some (.int one), some (.int other), some (.int dv), some (.int sh), some (.int rs), some (.int rsh), t6, t7, t8] ∧ ME.EG one other dv sh rs rsh)
      (fun ρ => ∃ dv sh rsh t6 t7 t8, ρ = [some (.int one), some (.int other), some (.int dv), some (.int sh), some (.int 0), some (.int rsh), t6, t7, t8] ∧ ME.EG one other dv sh 0 rsh)
      (fun ρ => (intAt ρ 4).natAbs) PassesOwn.never ⟨_, _, _, _, _, _, _, rfl, ME.EG.start one other⟩ ?_ ?_
    · rintro ρ ⟨dv, sh, rs, rsh, t6, t7, t8, rfl, g⟩
      refine ⟨_, et_ne (ev_v 4) ev_int, fun hk => ?_, fun hk => ?_⟩
      · have hr0 : rs ≠ 0 := by simpa using hk
        obtain ⟨bd, br, bs, bq⟩ := eg_bd g s1 s2
        obtain ⟨g2, lt⟩ := g.step hr0
        have bt := times_bd hr0 bd
        refine do_set 6 (ev_divN (ev_v 2) (ev_v 4) hr0 br) (.int _) ?_ nd
        refine do_set 7 (ev_sub (ev_v 2) (ev_mul (ev_v 6) (ev_v 4) bt br)) (.int _) ?_ nd
        refine do_set 8 (ev_sub (ev_v 3) (ev_mul (ev_v 6) (ev_v 5) bt bq)) (.int _) ?_ nd
        refine do_set 2 (ev_v 4) (.int _) ?_ nd
        refine do_set 3 (ev_v 5) (.int _) ?_ nd
        refine do_set 4 (ev_v 7) (.int _) ?_ nd
        refine do_set 5 (ev_v 8) (.int _) (do_nil ⟨⟨_, _, _, _, _, _, _, rfl, g2⟩, ?_⟩) nd
        exact lt
      · have hr0 : rs = 0 := by simpa using hk
        subst hr0
        exact ⟨dv, sh, rsh, t6, t7, t8, rfl, g⟩
    · rintro ρ ⟨dv, sh, rsh, t6, t7, t8, rfl, g⟩
      obtain ⟨bd, _, bs, _⟩ := eg_bd g s1 s2
      obtain ⟨V, e1, e2⟩ := g.fin
      refine do_if (fun ρ => ∃ gg u v : Int, ρ = [some (.int one), some (.int other), some (.int gg), some (.int u), some (.int 0), some (.int rsh), t6, t7, t8] ∧ gg = (Int.gcd one other : Nat) ∧ gg = u * one + v * other ∧ Bd u 1461)
        (et_lt (ev_v 2) ev_int) (fun hk => ?_) (fun hk => ?_) ?_
      · simp only [decide_eq_true_eq] at hk
        refine do_set 2 (ev_neg (ev_v 2)) (.int _) ?_ nd
        refine do_set 3 (ev_neg (ev_v 3)) (.int _) (do_nil ⟨-dv, -sh, -V, rfl, by omega, ?_, ⟨intBits_neg_le bs.lt⟩⟩) nd
        rw [e1]
        grind
      · simp only [decide_eq_false_iff_not] at hk
        exact do_nil ⟨dv, sh, V, rfl, by omega, e1, bs⟩
      · rintro ρ ⟨gg, u, v, rfl, hg, hl, bu⟩
        have bgg : Bd gg 1461 := by
          rw [hg]
          by_cases z : other = 0
          · subst z
            have : ((Int.gcd one 0 : Nat) : Int) = one.natAbs := by simp
            rw [this]
            exact (s1.le (by simp)).up _ (by decide)
          · have := Int.le_of_dvd (Int.natAbs_pos.mpr z |> Int.ofNat_lt.mpr) (Int.dvd_natAbs.mpr (Int.gcd_dvd_right one other))
            exact (s2.le (by omega)).up _ (by decide)
        by_cases z : other = 0
        · refine do_ret (ev_tup (ea_cons (ev_v 2) (ea_cons (ev_v 3) (ea_cons (ev_ifF (Et.ff (et_ne (ev_v 1) ev_int) z) ev_int) ea_nil)))) ?_
          intro x y e
          cases e
          exact ⟨gg, u, 0, rfl, hg, by rw [hl, z]; omega, bu, .lit⟩
        · have ev : (gg - u * one).fdiv other = v := by
            have : gg - u * one = v * other := by omega
            rw [this]
            exact Int.mul_fdiv_cancel v z
          refine do_ret (ev_tup (ea_cons (ev_v 2) (ea_cons (ev_v 3) (ea_cons (ev_ifT (Et.to (et_ne (ev_v 1) ev_int) (by simpa using z)) (ev_divN (ev_sub (ev_v 2) (ev_mul (ev_v 3) (ev_v 0) bu s1)) (ev_v 1) z s2)) ea_nil)))) ?_
          intro x y e
          cases e
          refine ⟨gg, u, v, by rw [ev], hg, hl, bu, ?_⟩
          have k : Bd (v * other) 2925 := by
            have : v * other = gg - u * one := by omega
            rw [this]
            exact Bd.sub bgg (Bd.mul bu s1 2921 (by decide)) _ (by decide)
          refine k.le ?_
          rw [Int.natAbs_mul]
          exact Nat.le_mul_of_pos_right _ (by omega)
theorem ok_bar_of_numbers {f : Addr} {fd : FuncData} (F : Fun K "bar_of_numbers" "bar_of_numbers" s_bar_of_numbers f fd) (hm : mg "bar_of_numbers" = some (.ref f)) (hb : Binds K fd ["a", "b", "c"] []) :
    Fn P w K mg base 1 "bar_of_numbers" p_bar_of_numbers := by
  refine fn_mk F sc_bar_of_numbers hm hb (fun ds d h => ?_) (fun cdv A outer s H E hr ds d h => ?_)
  · obtain ⟨a, b, c, rfl, _, _, _, rfl⟩ := h
    exact ⟨rfl, by simp⟩
  · obtain ⟨a, b, c, rfl, ha, hb, hc, rfl⟩ := h
    exact do_ret (ev_sub (ev_mul (ev_v 1) (ev_v 1) inferInstance inferInstance) (ev_mul (ev_mul ev_int (ev_v 0) inferInstance inferInstance) (ev_v 2) inferInstance inferInstance)) rfl
theorem ok_is_form {f : Addr} {fd : FuncData} (G1 : Fn P w K mg base 2 "is_whole_tuple" p_is_whole_tuple) (G2 : Fn P w K mg base 1 "bar_of_numbers" p_bar_of_numbers) (F : Fun K "is_form" "is_form" s_is_form f fd) (hm : mg "is_form" = some (.ref f)) (hb : Binds K fd ["value"] []) :
    Fn P w K mg base 3 "is_form" p_is_form := by
  refine fn_mk F sc_is_form hm hb (fun ds d h => ?_) (fun cdv A outer s H E hr ds d h => ?_)
  · obtain ⟨a, b, c, rfl, _, rfl⟩ := h
    exact ⟨rfl, by simp⟩
  · obtain ⟨a, b, c, rfl, hf, rfl⟩ := h
    refine do_ifF (et_notT (et_val (ev_call G1 hr (ea_cons (ev_v 0) (ea_cons ev_int ea_nil)) ⟨[a, b, c], rfl, by simp, rfl⟩))) ?_
    refine do_ret (ev_andT (Ev.tt (ev_gt (ev_ix (ev_v 0) ev_int rfl) ev_int) hf.pos) (ev_one (Ev.tt (ev_lt (ev_call G2 (hr.mono (by decide)) (ea_cons (ev_ix (ev_v 0) ev_int rfl) (ea_cons (ev_ix (ev_v 0) ev_int rfl) (ea_cons (ev_ix (ev_v 0) ev_int rfl) ea_nil)))
      ⟨a, b, c, rfl, hf.sa, hf.sb, hf.sc, rfl⟩) ev_int) hf.bar))) rfl
theorem ok_require_form {f : Addr} {fd : FuncData} (G1 : Fn P w K mg base 3 "is_form" p_is_form) (F : Fun K "require_form" "require_form" s_require_form f fd) (hm : mg "require_form" = some (.ref f)) (hb : Binds K fd ["value"] []) :
    Fn P w K mg base 4 "require_form" p_require_form := by
  refine fn_mk F sc_require_form hm hb (fun ds d h => ?_) (fun cdv A outer s H E hr ds d h => ?_)
  · obtain ⟨a, b, c, rfl, _, rfl⟩ := h
    exact ⟨rfl, by simp⟩
  · obtain ⟨a, b, c, rfl, hf, rfl⟩ := h
    exact do_ifF (et_notT (et_val (ev_call G1 hr (ea_cons (ev_v 0) ea_nil) ⟨a, b, c, rfl, hf, rfl⟩))) (do_nil rfl)
theorem ok_bar_of {f : Addr} {fd : FuncData} (G1 : Fn P w K mg base 4 "require_form" p_require_form) (G2 : Fn P w K mg base 1 "bar_of_numbers" p_bar_of_numbers) (F : Fun K "bar_of" "bar_of" s_bar_of f fd) (hm : mg "bar_of" = some (.ref f)) (hb : Binds K fd ["form"] []) :
    Fn P w K mg base 5 "bar_of" p_bar_of := by
  refine fn_mk F sc_bar_of hm hb (fun ds d h => ?_) (fun cdv A outer s H E hr ds d h => ?_)
  · obtain ⟨a, b, c, rfl, _, rfl⟩ := h
    exact ⟨rfl, by simp⟩
  · obtain ⟨a, b, c, rfl, hf, rfl⟩ := h
    refine do_expr (ev_call G1 hr (ea_cons (ev_v 0) ea_nil) ⟨a, b, c, rfl, hf, rfl⟩) ?_
    exact do_ret (ev_call G2 (hr.mono (by decide)) (ea_cons (ev_ix (ev_v 0) ev_int rfl) (ea_cons (ev_ix (ev_v 0) ev_int rfl) (ea_cons (ev_ix (ev_v 0) ev_int rfl) ea_nil))) ⟨a, b, c, rfl, hf.sa, hf.sb, hf.sc, rfl⟩) rfl
theorem ok_is_bare {f : Addr} {fd : FuncData} (G1 : Fn P w K mg base 4 "require_form" p_require_form) (G2 : Fn P w K mg base 1 "common_divisor" p_common_divisor) (F : Fun K "is_bare" "is_bare" s_is_bare f fd) (hm : mg "is_bare" = some (.ref f)) (hb : Binds K fd ["form"] []) :
    Fn P w K mg base 5 "is_bare" p_is_bare := by
  refine fn_mk F sc_is_bare hm hb (fun ds d h => ?_) (fun cdv A outer s H E hr ds d h => ?_)
  · obtain ⟨a, b, c, rfl, _, rfl⟩ := h
    exact ⟨rfl, by simp⟩
  · obtain ⟨a, b, c, rfl, hf, rfl⟩ := h
    refine do_expr (ev_call G1 hr (ea_cons (ev_v 0) ea_nil) ⟨a, b, c, rfl, hf, rfl⟩) ?_
    have hr1 := hr.mono (show 1 ≤ 4 by decide)
    exact do_ret (ev_eq (ev_call G2 hr1 (ea_cons (ev_call G2 hr1 (ea_cons (ev_ix (ev_v 0) ev_int rfl) (ea_cons (ev_ix (ev_v 0) ev_int rfl) ea_nil)) ⟨a, b, rfl, rfl⟩) (ea_cons (ev_ix (ev_v 0) ev_int rfl) ea_nil)) ⟨_, c, rfl, rfl⟩) ev_int) rfl
theorem ok_is_turning {f : Addr} {fd : FuncData} (G1 : Fn P w K mg base 2 "is_whole_tuple" p_is_whole_tuple) (F : Fun K "is_turning" "is_turning" s_is_turning f fd) (hm : mg "is_turning" = some (.ref f)) (hb : Binds K fd ["value"] []) : Fn P w K mg base 3 "is_turning" p_is_turning := by
  refine fn_mk F sc_is_turning hm hb (fun ds d h => ?_) (fun cdv A outer s H E hr ds d h => ?_)
  · obtain ⟨p, q, r, s, rfl, _, rfl⟩ := h
    exact ⟨rfl, by simp⟩
  · obtain ⟨p, q, r, s', rfl, ht, rfl⟩ := h
    refine do_ifF (et_notT (et_val (ev_call G1 hr (ea_cons (ev_v 0) (ea_cons ev_int ea_nil)) ⟨[p, q, r, s'], rfl, by simp, rfl⟩))) ?_
    exact do_ret (Ev.tt (ev_eq (ev_sub (ev_mul (ev_ix (ev_v 0) ev_int rfl) (ev_ix (ev_v 0) ev_int rfl) ht.sp ht.ss) (ev_mul (ev_ix (ev_v 0) ev_int rfl) (ev_ix (ev_v 0) ev_int rfl) ht.sq ht.sr)) ev_int) ht.det) rfl
theorem ok_require_turning {f : Addr} {fd : FuncData} (G1 : Fn P w K mg base 3 "is_turning" p_is_turning) (F : Fun K "require_turning" "require_turning" s_require_turning f fd) (hm : mg "require_turning" = some (.ref f)) (hb : Binds K fd ["value"] []) : Fn P w K mg base 4 "require_turning" p_require_turning := by
  refine fn_mk F sc_require_turning hm hb (fun ds d h => ?_) (fun cdv A outer s H E hr ds d h => ?_)
  · obtain ⟨p, q, r, s, rfl, _, rfl⟩ := h
    exact ⟨rfl, by simp⟩
  · obtain ⟨p, q, r, s', rfl, ht, rfl⟩ := h
    exact do_ifF (et_notT (et_val (ev_call G1 hr (ea_cons (ev_v 0) ea_nil) ⟨p, q, r, s', rfl, ht, rfl⟩))) (do_nil rfl)
theorem ok_sent {f : Addr} {fd : FuncData} (F : Fun K "sent" "sent" s_sent f fd) (hm : mg "sent" = some (.ref f)) (hb : Binds K fd ["turning", "place"] []) : Fn P w K mg base 1 "sent" p_law_sent := by
  refine fn_mk F sc_sent hm hb (fun ds d h => ?_) (fun cdv A outer s H E hr ds d h => ?_)
  · obtain ⟨p, q, r, s, x, y, rfl, _, _, _, _, _, _, rfl⟩ := h
    exact ⟨rfl, by simp⟩
  · obtain ⟨p, q, r, s', x, y, rfl, hp, hq, hr', hs, hx, hy, rfl⟩ := h
    have nd := sc_sent.nd
    refine do_set 2 (ev_ix (ev_v 1) ev_int rfl) (.int _) ?_ nd
    refine do_set 3 (ev_ix (ev_v 1) ev_int rfl) (.int _) ?_ nd
    exact do_ret (ev_tup (ea_cons (ev_add (ev_mul (ev_ix (ev_v 0) ev_int rfl) (ev_v 2) hp hx) (ev_mul (ev_ix (ev_v 0) ev_int rfl) (ev_v 3) hq hy)) (ea_cons (ev_add (ev_mul (ev_ix (ev_v 0) ev_int rfl) (ev_v 2) hr' hx) (ev_mul (ev_ix (ev_v 0) ev_int rfl) (ev_v 3) hs hy)) ea_nil))) rfl
theorem ok_way_back {f : Addr} {fd : FuncData} (G1 : Fn P w K mg base 4 "require_turning" p_require_turning) (F : Fun K "way_back" "way_back" s_way_back f fd) (hm : mg "way_back" = some (.ref f)) (hb : Binds K fd ["turning"] []) : Fn P w K mg base 5 "way_back" p_way_back := by
  refine fn_mk F sc_way_back hm hb (fun ds d h => ?_) (fun cdv A outer s H E hr ds d h => ?_)
  · obtain ⟨p, q, r, s, rfl, _, rfl⟩ := h
    exact ⟨rfl, by simp⟩
  · obtain ⟨p, q, r, s', rfl, h1, rfl⟩ := h
    refine do_expr (ev_call G1 hr (ea_cons (ev_v 0) ea_nil) ⟨p, q, r, s', rfl, h1, rfl⟩) ?_
    exact do_ret (ev_tup (ea_cons (ev_ix (ev_v 0) ev_int rfl) (ea_cons (ev_neg (ev_ix (ev_v 0) ev_int rfl)) (ea_cons (ev_neg (ev_ix (ev_v 0) ev_int rfl)) (ea_cons (ev_ix (ev_v 0) ev_int rfl) ea_nil))))) rfl
theorem ok_stepped {f : Addr} {fd : FuncData} (F : Fun K "stepped" "stepped" s_stepped f fd) (hm : mg "stepped" = some (.ref f)) (hb : Binds K fd ["form", "step"] []) : Fn P w K mg base 1 "stepped" p_stepped := by
  refine fn_mk F sc_stepped hm hb (fun ds d h => ?_) (fun cdv A outer s H E hr ds d h => ?_)
  · obtain ⟨a, b, c, k, rfl, _, _, _, rfl⟩ := h
    exact ⟨rfl, by simp⟩
  · obtain ⟨a, b, c, k, rfl, ha, hb, hk, rfl⟩ := h
    have nd := sc_stepped.nd
    refine do_set 2 (ev_ix (ev_v 0) ev_int rfl) (.int _) ?_ nd
    refine do_set 3 (ev_ix (ev_v 0) ev_int rfl) (.int _) ?_ nd
    exact do_ret (ev_tup (ea_cons (ev_v 2) (ea_cons (ev_add (ev_v 3) (ev_mul (ev_mul ev_int (ev_v 2) inferInstance inferInstance) (ev_v 1) inferInstance inferInstance)) (ea_cons (ev_add (ev_ix (ev_v 0) ev_int rfl) (ev_mul (ev_v 1) (ev_add (ev_v 3) (ev_mul (ev_v 2) (ev_v 1) inferInstance inferInstance)) inferInstance inferInstance)) ea_nil)))) rfl
theorem ok_behind_step {f : Addr} {fd : FuncData} (F : Fun K "behind_step" "behind_step" s_behind_step f fd) (hm : mg "behind_step" = some (.ref f)) (hb : Binds K fd ["turning", "step"] []) : Fn P w K mg base 1 "behind_step" p_behind_step := by
  refine fn_mk F sc_behind_step hm hb (fun ds d h => ?_) (fun cdv A outer s H E hr ds d h => ?_)
  · obtain ⟨p, q, r, s, k, rfl, _, _, _, rfl⟩ := h
    exact ⟨rfl, by simp⟩
  · obtain ⟨p, q, r, s', k, rfl, hp, hr', hk, rfl⟩ := h
    have nd := sc_behind_step.nd
    refine do_set 2 (ev_ixK (ev_v 0) ev_int rfl) (.int _) ?_ nd
    refine do_set 3 (ev_ixK (ev_v 0) ev_int rfl) (.int _) ?_ nd
    exact do_ret (ev_tup (ea_cons (ev_v 2) (ea_cons (ev_add (ev_ixK (ev_v 0) ev_int rfl) (ev_mul (ev_v 2) (ev_v 1) inferInstance inferInstance)) (ea_cons (ev_v 3) (ea_cons (ev_add (ev_ixK (ev_v 0) ev_int rfl) (ev_mul (ev_v 3) (ev_v 1) inferInstance inferInstance)) ea_nil))))) rfl
theorem ok_swapped {f : Addr} {fd : FuncData} (F : Fun K "swapped" "swapped" s_swapped f fd) (hm : mg "swapped" = some (.ref f)) (hb : Binds K fd ["form"] []) : Fn P w K mg base 1 "swapped" p_swapped := by
  refine fn_mk F sc_swapped hm hb (fun ds d h => ?_) (fun cdv A outer s H E hr ds d h => ?_)
  · obtain ⟨a, b, c, rfl, rfl⟩ := h
    exact ⟨rfl, by simp⟩
  · obtain ⟨a, b, c, rfl, rfl⟩ := h
    exact do_ret (ev_tup (ea_cons (ev_ix (ev_v 0) ev_int rfl) (ea_cons (ev_neg (ev_ix (ev_v 0) ev_int rfl)) (ea_cons (ev_ix (ev_v 0) ev_int rfl) ea_nil)))) rfl
theorem ok_behind_swap {f : Addr} {fd : FuncData} (F : Fun K "behind_swap" "behind_swap" s_behind_swap f fd) (hm : mg "behind_swap" = some (.ref f)) (hb : Binds K fd ["turning"] []) : Fn P w K mg base 1 "behind_swap" p_behind_swap := by
  refine fn_mk F sc_behind_swap hm hb (fun ds d h => ?_) (fun cdv A outer s H E hr ds d h => ?_)
  · obtain ⟨p, q, r, s, rfl, rfl⟩ := h
    exact ⟨rfl, by simp⟩
  · obtain ⟨p, q, r, s', rfl, rfl⟩ := h
    exact do_ret (ev_tup (ea_cons (ev_ix (ev_v 0) ev_int rfl) (ea_cons (ev_neg (ev_ix (ev_v 0) ev_int rfl)) (ea_cons (ev_ix (ev_v 0) ev_int rfl) (ea_cons (ev_neg (ev_ix (ev_v 0) ev_int rfl)) ea_nil))))) rfl
theorem ok_step_to_middle {f : Addr} {fd : FuncData} (F : Fun K "step_to_middle" "step_to_middle" s_step_to_middle f fd) (hm : mg "step_to_middle" = some (.ref f)) (hb : Binds K fd ["form"] []) : Fn P w K mg base 1 "step_to_middle" p_step_to_middle := by
  refine fn_mk F sc_step_to_middle hm hb (fun ds d h => ?_) (fun cdv A outer s H E hr ds d h => ?_)
  · obtain ⟨a, b, c, rfl, _, _, rfl⟩ := h
    exact ⟨rfl, by simp⟩
  · obtain ⟨a, b, c, rfl, pos, ha, rfl⟩ := h
    exact do_ret (ev_div (ev_sub (ev_ix (ev_v 0) ev_int rfl) (ev_ix (ev_v 0) ev_int rfl)) (ev_mul ev_int (ev_ix (ev_v 0) ev_int rfl) inferInstance inferInstance) (by omega) inferInstance) rfl
theorem ok_least_of {f : Addr} {fd : FuncData} (G1 : Fn P w K mg base 4 "require_form" p_require_form) (G2 : Fn P w K mg base 1 "step_to_middle" p_step_to_middle) (G3 : Fn P w K mg base 1 "stepped" p_stepped) (G4 : Fn P w K mg base 1 "behind_step" p_behind_step) (G5 : Fn P w K mg base 1 "swapped" p_swapped) (G6 : Fn P w K mg base 1 "behind_swap" p_behind_swap)
    (C1 : Con K mg "NO_TURN" (.kt [.int 1, .int 0, .int 0, .int 1])) (F : Fun K "least_of" "least_of" s_least_of f fd) (hm : mg "least_of" = some (.ref f)) (hb : Binds K fd ["form"] []) : FnR P w K mg base 5 "least_of" pre_form post_least_of := by
  refine fnr_mk F sc_least_of hm hb (fun ds h => ?_) (fun cdv A outer s H E hr ds h => ?_)
  · obtain ⟨a, b, c, rfl, _⟩ := h
    exact ⟨rfl, by simp⟩
  · obtain ⟨a, b, c, rfl, fS⟩ := h
    have nd := sc_least_of.nd
    have hr1 := hr.mono (show 1 ≤ 4 by decide)
    refine do_expr (ev_call G1 hr (ea_cons (ev_v 0) ea_nil) ⟨a, b, c, rfl, fS.n, rfl⟩) ?_
    have L0 : Leads a b c 1 0 0 1 a b c := by
      refine ⟨by omega, ?_, ?_, ?_⟩ <;> (try unfold MT.Wo) <;> grind
    refine do_set 1 (ev_call G2 hr1 (ea_cons (ev_v 0) ea_nil) ⟨a, b, c, rfl, fS.pos, fS.sa.up _ (by decide), rfl⟩) (.int _) ?_ nd
    obtain ⟨lo, hi, f1, kb⟩ := shift_S fS
    have L1 := L0.stepK ((a - b) / (2 * a))
    generalize (a - b) / (2 * a) = k0 at *
    refine do_set 2 (ev_call G3 hr1 (ea_cons (ev_v 0) (ea_cons (ev_v 1) ea_nil)) ⟨a, b, c, k0, rfl, fS.n.sa, fS.n.sb, kb.up _ (by decide), rfl⟩) (fz3 _ _ _) ?_ nd
    refine do_set 3 (ev_call G4 hr1 (ea_cons (ev_con C1) (ea_cons (ev_v 1) ea_nil)) ⟨1, 0, 0, 1, k0, rfl, .lit, .lit, kb.up _ (by decide), rfl⟩) (fz_ints [_, _, _, _]) ?_ nd
    refine do_while (fun ρ => ∃ x y z p q r s' u, ρ = [some (formD a b c), u, some (formD x y z), some (turD p q r s')] ∧ FormS x y z ∧ Leads a b c p q r s' x y z ∧ -x < y ∧ y ≤ x)
      (fun ρ => ∃ x y z p q r s' u, ρ = [some (formD a b c), u, some (formD x y z), some (turD p q r s')] ∧ FormS x y z ∧ Leads a b c p q r s' x y z ∧ MT.Least x y z)
      (fun ρ => meas2 ρ 2) PassesOwn.never ⟨_, _, _, _, _, _, _, _, rfl, f1, L1, lo, hi⟩ ?_ ?_
    · rintro ρ ⟨x, y, z, p, q, r, s', u, rfl, g, ld, hlo, hhi⟩
      refine ⟨_, et_w (ew_or (et_gt (ev_ix (ev_v 2) ev_int rfl) (ev_ix (ev_v 2) ev_int rfl)) fun _ => ew_or1 (et_w (ew_and (et_eq (ev_ix (ev_v 2) ev_int rfl) (ev_ix (ev_v 2) ev_int rfl)) fun _ => ew_and1 (et_lt (ev_ix (ev_v 2) ev_int rfl) ev_int)))), fun hk => ?_, fun hk => ?_⟩
      · simp only [Bool.or_eq_true, Bool.and_eq_true, decide_eq_true_eq] at hk
        obtain ⟨_, g1⟩ := swap_ok g g.zpos
        have L2 := ld.swapK
        have tN := ld.turn fS g
        have tN2 := L2.turn fS g1
        refine do_set 2 (ev_call G5 hr1 (ea_cons (ev_v 2) ea_nil) ⟨x, y, z, rfl, rfl⟩) (fz3 _ _ _) ?_ nd
        refine do_set 3 (ev_call G6 hr1 (ea_cons (ev_v 3) ea_nil) ⟨p, q, r, s', rfl, rfl⟩) (fz_ints [_, _, _, _]) ?_ nd
        refine do_set 1 (ev_call G2 hr1 (ea_cons (ev_v 2) ea_nil) ⟨z, -y, x, rfl, g1.pos, g1.sa.up _ (by decide), rfl⟩) (.int _) ?_ nd
        obtain ⟨lo', hi', g2, kb'⟩ := shift_S g1
        have L3 := L2.stepK ((z - -y) / (2 * z))
        have hm : meas2At z (-y + 2 * z * ((z - -y) / (2 * z))) < meas2At x y := meas2_lt g.zpos hlo hk
        generalize (z - -y) / (2 * z) = k at *
        refine do_set 2 (ev_call G3 hr1 (ea_cons (ev_v 2) (ea_cons (ev_v 1) ea_nil)) ⟨z, -y, x, k, rfl, g1.n.sa, g1.n.sb, kb'.up _ (by decide), rfl⟩) (fz3 _ _ _) ?_ nd
        refine do_set 3 (ev_call G4 hr1 (ea_cons (ev_ktOf (ev_v 3)) (ea_cons (ev_v 1) ea_nil)) ⟨q, -p, s', -r, k, rfl, tN2.sp.up _ (by decide), tN2.sr.up _ (by decide), kb'.up _ (by decide), rfl⟩) (fz_ints [_, _, _, _]) (do_nil ⟨⟨_, _, _, _, _, _, _, _, rfl, g2, L3, lo', hi'⟩, hm⟩) nd
      · simp only [Bool.or_eq_false_iff, Bool.and_eq_false_iff, decide_eq_false_iff_not] at hk
        exact ⟨x, y, z, p, q, r, s', u, rfl, g, ld, hlo, hhi, by omega, fun e => by omega⟩
    · rintro ρ ⟨x, y, z, p, q, r, s', u, rfl, g, ld, L⟩
      refine do_ret (ev_tup (ea_cons (ev_v 2) (ea_cons (ev_v 3) ea_nil))) ?_
      intro a2 b2 c2 e
      cases e
      exact ⟨x, y, z, p, q, r, s', rfl, L, g, ld.turn fS g, ld⟩
theorem ok_require_bare {f : Addr} {fd : FuncData} (G1 : Fn P w K mg base 5 "is_bare" p_is_bare) (F : Fun K "require_bare" "require_bare" s_require_bare f fd) (hm : mg "require_bare" = some (.ref f)) (hb : Binds K fd ["form"] []) : Fn P w K mg base 6 "require_bare" p_require_bare := by
  refine fn_mk F sc_require_bare hm hb (fun ds d h => ?_) (fun cdv A outer s H E hr ds d h => ?_)
  · obtain ⟨a, b, c, rfl, _⟩ := h
    exact ⟨rfl, by simp⟩
  · obtain ⟨a, b, c, rfl, f1, hg, rfl⟩ := h
    exact do_ifF (et_notT (et_val (Ev.to (ev_call G1 hr (ea_cons (ev_v 0) ea_nil) ⟨a, b, c, rfl, f1, rfl⟩) (by rw [hg]; rfl)))) (do_nil rfl)
theorem ok_require_same_bar {f : Addr} {fd : FuncData} (G1 : Fn P w K mg base 5 "bar_of" p_bar_of) (F : Fun K "require_same_bar" "require_same_bar" s_require_same_bar f fd) (hm : mg "require_same_bar" = some (.ref f)) (hb : Binds K fd ["one", "other"] []) : Fn P w K mg base 6 "require_same_bar" p_require_same_bar := by
  refine fn_mk F sc_require_same_bar hm hb (fun ds d h => ?_) (fun cdv A outer s H E hr ds d h => ?_)
  · obtain ⟨a, b, c, x, y, z, rfl, _⟩ := h
    exact ⟨rfl, by simp⟩
  · obtain ⟨a, b, c, x, y, z, rfl, f1, f2, hD, rfl⟩ := h
    exact do_ifF (Et.ff (et_ne (ev_call G1 hr (ea_cons (ev_v 0) ea_nil) ⟨a, b, c, rfl, f1, rfl⟩) (ev_call G1 hr (ea_cons (ev_v 1) ea_nil) ⟨x, y, z, rfl, f2, rfl⟩)) hD) (do_nil rfl)
theorem ok_joint_divisor {f : Addr} {fd : FuncData} (G1 : FnR P w K mg base 1 "divisor_with_shares" pre_dws post_dws) (F : Fun K "joint_divisor" "joint_divisor" s_joint_divisor f fd) (hm : mg "joint_divisor" = some (.ref f)) (hb : Binds K fd ["one", "other"] []) : FnR P w K mg base 2 "joint_divisor" pre_joined post_joint_divisor := by
  refine fnr_mk F sc_joint_divisor hm hb (fun ds h => ?_) (fun cdv A outer s H E hr ds h => ?_)
  · obtain ⟨a, b, c, d, e, f, rfl, _⟩ := h
    exact ⟨rfl, by simp⟩
  · obtain ⟨a, b, c, d, e, f, rfl, fJ, gJ, hD⟩ := h
    have nd := sc_joint_divisor.nd
    refine do_setR 2 (evr_call G1 hr (ea_cons (ev_ix (ev_v 0) ev_int rfl) (ea_cons (ev_ix (ev_v 1) ev_int rfl) ea_nil)) ⟨a, d, rfl, fJ.sa.up _ (by decide), gJ.sa.up _ (by decide)⟩) (fun d hd => fz_dws rfl hd) (fun r hr' => ?_) nd
    obtain ⟨g1, u1, v1, rfl, eg1, l1, bu1, bv1⟩ := hr' a d rfl
    have pa := fJ.pos
    have d1 : g1 ∣ a := by rw [eg1]; exact Int.gcd_dvd_left a d
    have d2 : g1 ∣ d := by rw [eg1]; exact Int.gcd_dvd_right a d
    have p1 : 0 < g1 := by
      have := Int.gcd_pos_of_ne_zero_left d (show a ≠ 0 by omega)
      omega
    have bg1 : Bd g1 1450 := fJ.sa.le (by have := Int.le_of_dvd pa d1; omega)
    have bh : Bd ((b + e) / 2) 1451 := (Bd.add fJ.sb gJ.sb 1451 (by decide)).div (by decide)
    refine do_setR 3 (evr_call G1 hr (ea_cons (ev_ix (ev_v 2) ev_int rfl) (ea_cons (ev_div (ev_add (ev_ix (ev_v 0) ev_int rfl) (ev_ix (ev_v 1) ev_int rfl)) ev_int (by decide) bd_2) ea_nil)) ⟨g1, (b + e) / 2, rfl, bg1.up _ (by decide), bh.up _ (by decide)⟩) (fun d hd => fz_dws rfl hd) (fun r hr' => ?_) nd
    obtain ⟨g2, u2, w2, rfl, eg2, l2, bu2, bw2⟩ := hr' g1 ((b + e) / 2) rfl
    have d3 : g2 ∣ g1 := by rw [eg2]; exact Int.gcd_dvd_left _ _
    have d4 : g2 ∣ (b + e) / 2 := by rw [eg2]; exact Int.gcd_dvd_right _ _
    have p2 : 0 < g2 := by
      have := Int.gcd_pos_of_ne_zero_left ((b + e) / 2) (show g1 ≠ 0 by omega)
      omega
    refine do_ret (ev_tup (ea_cons (ev_ix (ev_v 3) ev_int rfl) (ea_cons (ev_mul (ev_ix (ev_v 3) ev_int rfl) (ev_ix (ev_v 2) ev_int rfl) bu2 bu1) (ea_cons (ev_mul (ev_ix (ev_v 3) ev_int rfl) (ev_ix (ev_v 2) ev_int rfl) bu2 bv1) (ea_cons (ev_ix (ev_v 3) ev_int rfl) ea_nil))))) ?_
    intro a0 b0 c0 d0 e0 f0 q
    cases q
    refine ⟨g2, u2 * u1, u2 * v1, w2, rfl, p2, Int.dvd_trans d3 d1, Int.dvd_trans d3 d2, d4, ?_, bg1.le (by have := Int.le_of_dvd p1 d3; omega), Bd.mul bu2 bu1 _ (by decide), Bd.mul bu2 bv1 _ (by decide), bw2⟩
    generalize (b + e) / 2 = h at *
    rw [l2, l1]
    grind
theorem ok_joint_middle {f : Addr} {fd : FuncData} (G1 : Fn P w K mg base 5 "bar_of" p_bar_of) (F : Fun K "joint_middle" "joint_middle" s_joint_middle f fd) (hm : mg "joint_middle" = some (.ref f)) (hb : Binds K fd ["one", "other", "shares"] []) : Fn P w K mg base 6 "joint_middle" p_joint_middle := by
  refine fn_mk F sc_joint_middle hm hb (fun ds r h => ?_) (fun cdv A outer s H E hr ds r h => ?_)
  · obtain ⟨a, b, c, d, e, f, g, u, v, w', rfl, _⟩ := h
    exact ⟨rfl, by simp⟩
  · obtain ⟨a, b, c, d, e, f, g, u, v, w', rfl, fJ, gJ, hg, bg, bu, bv, bw, rfl⟩ := h
    have nd := sc_joint_middle.nd
    have sa := fJ.sa
    have sb := fJ.sb
    have sd := fJ.sd
    have ta := gJ.sa
    have tb := gJ.sb
    refine do_set 3 (ev_div (ev_add (ev_mul (ev_ix (ev_v 0) ev_int rfl) (ev_ix (ev_v 1) ev_int rfl) sb tb) (ev_call G1 hr (ea_cons (ev_v 0) ea_nil) ⟨a, b, c, rfl, fJ.n, rfl⟩)) ev_int (by decide) bd_2) (.int _) ?_ nd
    have bhalf : Bd ((b * e + (b * b - 4 * a * c)) / 2) 2901 := (Bd.add (Bd.mul sb tb 2900 (by decide)) sd 2901 (by decide)).div (by decide)
    refine do_set 4 (ev_add (ev_add (ev_mul (ev_mul (ev_ix (ev_v 2) ev_int rfl) (ev_ix (ev_v 0) ev_int rfl) bu sa) (ev_ix (ev_v 1) ev_int rfl) (Bd.mul bu sa 4372 (by decide)) tb) (ev_mul (ev_mul (ev_ix (ev_v 2) ev_int rfl) (ev_ix (ev_v 1) ev_int rfl) bv ta) (ev_ix (ev_v 0) ev_int rfl) (Bd.mul bv ta 5836 (by decide)) sb)) (ev_mul (ev_ix (ev_v 2) ev_int rfl) (ev_v 3) bw bhalf)) (.int _) ?_ nd
    exact do_ret (ev_div (ev_v 4) (ev_ix (ev_v 2) ev_int rfl) hg bg) rfl
set_option maxHeartbeats 4000000 in
theorem ok_joint_rows {f : Addr} {fd : FuncData} (G1 : Fn P w K mg base 5 "bar_of" p_bar_of) (F : Fun K "joint_rows" "joint_rows" s_joint_rows f fd) (hm : mg "joint_rows" = some (.ref f)) (hb : Binds K fd ["one", "other", "divisor", "middle"] []) : FnL P w K mg base 6 "joint_rows" p_joint_rows := by
  refine fnl_mk F sc_joint_rows hm hb (fun ds es h => ?_) (fun cdv A outer s H E hr ds es h => ?_)
  · obtain ⟨a, b, c, d, e, f, g, m, rfl, _⟩ := h
    exact ⟨rfl, by simp⟩
  · obtain ⟨a, b, c, d, e, f, g, m, rfl, fJ, gJ, hg, bg, bm, rfl⟩ := h
    have nd := sc_joint_rows.nd
    have sa := fJ.sa
    have sb := fJ.sb
    have sd := fJ.sd
    have ta := gJ.sa
    have tb := gJ.sb
    have pa := fJ.pos
    have pd := gJ.pos
    have pad : 0 < 4 * a * d := Int.mul_pos (by omega) pd
    refine do_set 4 (ev_ix (ev_v 0) ev_int rfl) (.int _) ?_ nd
    refine do_set 5 (ev_ix (ev_v 0) ev_int rfl) (.int _) ?_ nd
    refine do_set 6 (ev_ix (ev_v 1) ev_int rfl) (.int _) ?_ nd
    refine do_set 7 (ev_ix (ev_v 1) ev_int rfl) (.int _) ?_ nd
    have bbe : Bd (b + e) 1451 := Bd.add sb tb _ (by decide)
    refine do_set 8 (ev_sub (ev_add (ev_mul (ev_v 5) (ev_v 7) sb tb) (ev_call G1 hr (ea_cons (ev_v 0) ea_nil) ⟨a, b, c, rfl, fJ.n, rfl⟩)) (ev_mul (ev_v 3) (ev_add (ev_v 5) (ev_v 7)) bm bbe)) (.int _) ?_ nd
    have blast : Bd (b * e + (b * b - 4 * a * c) - m * (b + e)) 4353 := Bd.sub (Bd.add (Bd.mul sb tb 2900 (by decide)) sd 2901 (by decide)) (Bd.mul bm bbe 4352 (by decide)) _ (by decide)
    exact do_retL (evn_list (ea_cons (ev_tup (ea_cons (ev_v 2) (ea_cons ev_int ea_nil)))
      (ea_cons (ev_tup (ea_cons (ev_div (ev_mul (ev_v 2) (ev_sub (ev_v 7) (ev_v 3)) bg (Bd.sub tb bm 2902 (by decide))) (ev_mul ev_int (ev_v 6) bd_2 ta) (by omega) (Bd.mul bd_2 ta 1460 (by decide))) (ea_cons (ev_div (ev_v 4) (ev_v 2) hg bg) ea_nil)))
      (ea_cons (ev_tup (ea_cons (ev_div (ev_mul (ev_v 2) (ev_sub (ev_v 5) (ev_v 3)) bg (Bd.sub sb bm 2902 (by decide))) (ev_mul ev_int (ev_v 4) bd_2 sa) (by omega) (Bd.mul bd_2 sa 1460 (by decide))) (ea_cons (ev_div (ev_v 6) (ev_v 2) hg bg) ea_nil)))
      (ea_cons (ev_tup (ea_cons (ev_div (ev_mul (ev_v 2) (ev_v 8) bg blast) (ev_mul (ev_mul ev_int (ev_v 4) bd_4 sa) (ev_v 6) (Bd.mul bd_4 sa 1460 (by decide)) ta) pad (Bd.mul (Bd.mul bd_4 sa 1460 (by decide)) ta 2910 (by decide))) (ea_cons (ev_div (ev_add (ev_v 5) (ev_v 7)) (ev_mul ev_int (ev_v 2) bd_2 bg) (by omega) (Bd.mul bd_2 bg 1460 (by decide))) ea_nil))) ea_nil))))) fun l => ⟨l, rfl⟩
set_option maxHeartbeats 8000000 in
theorem ok_joined_whole {f : Addr} {fd : FuncData} (T : Tx mg) (Gb : Fn P w K mg base 5 "bar_of" p_bar_of) (Gd : FnR P w K mg base 2 "joint_divisor" pre_joined post_joint_divisor) (Gm : Fn P w K mg base 6 "joint_middle" p_joint_middle) (Gr : FnL P w K mg base 6 "joint_rows" p_joint_rows)
    (Gl : FnR P w K mg base 5 "least_of" pre_form post_least_of) (Gw : Fn P w K mg base 5 "way_back" p_way_back) (Gs : Fn P w K mg base 1 "sent" p_law_sent) (F : Fun K "joined_whole" "joined_whole" s_joined_whole f fd) (hm : mg "joined_whole" = some (.ref f)) (hb : Binds K fd ["one", "other"] []) : FnR P w K mg base 7 "joined_whole" pre_joined post_joined := by
  refine fnr_mk F sc_joined_whole hm hb (fun ds h => ?_) (fun cdv A outer s H E hr ds h => ?_)
  · obtain ⟨a, b, c, d, e, f, rfl, _⟩ := h
    exact ⟨rfl, by simp⟩
  · obtain ⟨a, b, c, d, e, f, rfl, fJ, gJ, hD⟩ := h
    have nd := sc_joined_whole.nd
    have hr5 := hr.mono (show 5 ≤ 6 by decide)
    have hr2 := hr.mono (show 2 ≤ 6 by decide)
    have hr1 := hr.mono (show 1 ≤ 6 by decide)
    refine do_set 2 (ev_call Gb hr5 (ea_cons (ev_v 0) ea_nil) ⟨a, b, c, rfl, fJ.n, rfl⟩) (.int _) ?_ nd
    refine do_setR 3 (evr_call Gd hr2 (ea_cons (ev_v 0) (ea_cons (ev_v 1) ea_nil)) ⟨a, b, c, d, e, f, rfl, fJ, gJ, hD⟩) (fun r hr' => fz_jd rfl hr') (fun r hr' => ?_) nd
    obtain ⟨g, u, v, w', rfl, hg, ga, gd, gh, hs, bg, bu, bv, bw⟩ := hr' a b c d e f rfl
    have sag : Bd (a / g) 1450 := fJ.sa.div hg
    have sdg : Bd (d / g) 1450 := gJ.sa.div hg
    have sfi : Bd (a / g * (d / g)) 2900 := Bd.mul sag sdg _ (by decide)
    refine do_set 4 (ev_ix (ev_v 3) ev_int rfl) (.int _) ?_ nd
    refine do_set 5 (ev_mul (ev_div (ev_ix (ev_v 0) ev_int rfl) (ev_v 4) hg bg) (ev_div (ev_ix (ev_v 1) ev_int rfl) (ev_v 4) hg bg) sag sdg) (.int _) ?_ nd
    obtain ⟨f0, m0, m1, hbar, cm⟩ := MJ.joint fJ.pos gJ.pos hD hg ga gd gh hs _ _ _ rfl rfl rfl
    refine do_set 6 (ev_mod (ev_call Gm hr (ea_cons (ev_v 0) (ea_cons (ev_v 1) (ea_cons (ev_v 3) ea_nil))) ⟨a, b, c, d, e, f, g, u, v, w', rfl, fJ, gJ, hg, bg, bu, bv, bw, rfl⟩) (ev_mul ev_int (ev_v 5) bd_2 sfi) (by omega)) (.int _) ?_ nd
    generalize hfi : a / g * (d / g) = first at *
    generalize hmi : (u * a * e + v * d * b + w' * ((b * e + (b * b - 4 * a * c)) / 2)) / g % (2 * first) = m at *
    have sm : Bd m 2901 := by
      refine .of_lt ?_
      have h1 := intBits_le_iff.mp sfi.lt
      have e : 2 ^ 2901 = 2 ^ 2900 * 2 := Nat.pow_succ _ _
      rw [e]
      generalize 2 ^ 2900 = N at *
      omega
    have fS : FormS first m ((m * m - (b * b - 4 * a * c)) / (4 * first)) := joint_S f0 m0 m1 hbar fJ.bar sfi fJ.sd
    refine do_setR 7 (evr_call Gl hr5 (ea_cons (ev_tup (ea_cons (ev_v 5) (ea_cons (ev_v 6) (ea_cons (ev_div (ev_sub (ev_mul (ev_v 6) (ev_v 6) sm sm) (ev_v 2)) (ev_mul ev_int (ev_v 5) bd_4 sfi) (by omega) (Bd.mul bd_4 sfi 2903 (by decide))) ea_nil)))) ea_nil) ⟨first, m, _, rfl, fS⟩) (fun d hd => fz_post rfl hd) (fun r hr' => ?_) nd
    generalize (m * m - (b * b - 4 * a * c)) / (4 * first) = C at *
    obtain ⟨a', b', c', p, q, r, s', rfl, L, fS', tN, ld⟩ := hr' _ _ _ rfl
    refine do_set 8 (ev_call Gw hr5 (ea_cons (ev_ix (ev_v 7) ev_int rfl) ea_nil) ⟨p, q, r, s', rfl, tN, rfl⟩) (fz_ints [_, _, _, _]) ?_ nd
    have tB := tN.back
    have up : ∀ {z : Int}, Bd z 7000 → Bd z 8000 := fun h => h.up _ (by decide)
    have b1 : Bd (g * (e - m) / (2 * d)) 5900 := ((Bd.mul bg (Bd.sub gJ.sb sm 2902 (by decide)) 4352 (by decide)).div (by have := gJ.pos; omega)).up _ (by decide)
    have b2 : Bd (g * (b - m) / (2 * a)) 5900 := ((Bd.mul bg (Bd.sub fJ.sb sm 2902 (by decide)) 4352 (by decide)).div (by have := fJ.pos; omega)).up _ (by decide)
    have bbe : Bd (b + e) 1451 := Bd.add fJ.sb gJ.sb _ (by decide)
    have b3 : Bd (g * (b * e + (b * b - 4 * a * c) - m * (b + e)) / (4 * a * d)) 5900 :=
      ((Bd.mul bg (Bd.sub (Bd.add (Bd.mul fJ.sb gJ.sb 2900 (by decide)) fJ.sd 2901 (by decide)) (Bd.mul sm bbe 4352 (by decide)) 4353 (by decide)) 5803 (by decide)).div (by have := fJ.pos; exact Int.mul_pos (by omega) gJ.pos)).up _ (by decide)
    have b4 : Bd ((b + e) / (2 * g)) 5900 := (bbe.div (by omega)).up _ (by decide)
    have b0 : Bd g 5900 := bg.up _ (by decide)
    have ba : Bd (a / g) 5900 := sag.up _ (by decide)
    have bd : Bd (d / g) 5900 := sdg.up _ (by decide)
    have bz : Bd 0 5900 := .lit
    have row : ∀ x y : Int, Bd x 5900 → Bd y 5900 → Bd (s' * x + -q * y) 13000 ∧ Bd (-r * x + p * y) 13000 := fun x y hx hy =>
      ⟨Bd.add (Bd.mul tB.sp hx 12900 (by decide)) (Bd.mul tB.sq hy 12900 (by decide)) _ (by decide), Bd.add (Bd.mul tB.sr hx 12900 (by decide)) (Bd.mul tB.ss hy 12900 (by decide)) _ (by decide)⟩
    generalize h1 : g * (e - m) / (2 * d) = X1 at *
    generalize h2 : g * (b - m) / (2 * a) = X2 at *
    generalize h3 : g * (b * e + (b * b - 4 * a * c) - m * (b + e)) / (4 * a * d) = X3 at *
    generalize h4 : (b + e) / (2 * g) = Y3 at *
    generalize h5 : a / g = Y1 at *
    generalize h6 : d / g = Y2 at *
    have mem : ∀ z ∈ [plD g 0, plD X1 Y1, plD X2 Y2, plD X3 Y3], ∃ x y : Int, z = plD x y ∧ Bd x 5900 ∧ Bd y 5900 := by
      intro z hz
      simp only [List.mem_cons, List.not_mem_nil, or_false] at hz
      rcases hz with rfl | rfl | rfl | rfl
      · exact ⟨_, _, rfl, b0, bz⟩
      · exact ⟨_, _, rfl, b1, ba⟩
      · exact ⟨_, _, rfl, b2, bd⟩
      · exact ⟨_, _, rfl, b3, b4⟩
    have pairs : ∀ z ∈ [plD (s' * g + -q * 0) (-r * g + p * 0), plD (s' * X1 + -q * Y1) (-r * X1 + p * Y1), plD (s' * X2 + -q * Y2) (-r * X2 + p * Y2), plD (s' * X3 + -q * Y3) (-r * X3 + p * Y3)], ∃ x y : Int, z = plD x y := by
      intro z hz
      simp only [List.mem_cons, List.not_mem_nil, or_false] at hz
      rcases hz with rfl | rfl | rfl | rfl <;> exact ⟨_, _, rfl⟩
    refine do_setC (ds := [plD g 0, plD X1 Y1, plD X2 Y2, plD X3 Y3]) 9 [("back", s.heap.objs.size + 1)] ["back"] [8] (fun _ => true) (fun z => plD (s' * (plOf z).1 + -q * (plOf z).2) (-r * (plOf z).1 + p * (plOf z).2))
        (src_ls (EvN.ev (evn_call Gr hr (ea_cons (ev_v 0) (ea_cons (ev_v 1) (ea_cons (ev_v 4) (ea_cons (ev_v 6) ea_nil)))) ⟨a, b, c, d, e, f, g, m, rfl, fJ, gJ, hg, bg, sm, by rw [h1, h2, h3, h4, h5, h6]⟩)) rfl) (by simp) (fun _ _ _ => fz2 _ _) (fun _ _ _ _ _ _ => ets_nil) (fun C s₀ H₀ fp z hz _ => ?_) (fun l _ => ?_) nd
    · obtain ⟨x, y, rfl, hx, hy⟩ := mem z hz
      exact ev_call Gs hr1 (ea_cons (ev_v 1) (ea_cons (ev_v 0) ea_nil)) ⟨s', -q, -r, p, x, y, rfl, up tB.sp, up tB.sq, up tB.sr, up tB.ss, hx.up _ (by decide), hy.up _ (by decide), rfl⟩
    · refine do_ret (d := .tup [formD a' b' c', turD (s' * g + -q * 0) (s' * X1 + -q * Y1) (s' * X2 + -q * Y2) (s' * X3 + -q * Y3), turD (-r * g + p * 0) (-r * X1 + p * Y1) (-r * X2 + p * Y2) (-r * X3 + p * Y3)])
        (ev_tup (ea_cons (ev_ix (ev_v 7) ev_int rfl) (ea_cons (ev_tupleOf T.tuple (EvN.ev (evn_map0 (fun z => .int (plOf z).1) (src_ls (ev_v 9) rfl) (by simp) (fun _ _ => .int _) (fun C s₀ H₀ fp z hz => ?_))) rfl) (ea_cons (ev_tupleOf T.tuple (EvN.ev (evn_map0 (fun z => .int (plOf z).2) (src_ls (ev_v 9) rfl) (by simp) (fun _ _ => .int _) (fun C s₀ H₀ fp z hz => ?_))) rfl) ea_nil)))) ?_
      · obtain ⟨x, y, rfl⟩ := pairs z hz
        exact ev_ix (ev_v 0) ev_int rfl
      · obtain ⟨x, y, rfl⟩ := pairs z hz
        exact ev_ix (ev_v 0) ev_int rfl
      · intro a0 b0' c0 d0 e0 f0' q0
        cases q0
        have hb2 := ld.bar
        refine ⟨a', b', c', _, _, _, _, _, _, _, _, rfl, L, fS', by rw [hb2]; exact hbar, cm.target ld.led, (row _ _ b0 bz).1, (row _ _ b1 ba).1, (row _ _ b2 bd).1, (row _ _ b3 b4).1, (row _ _ b0 bz).2, (row _ _ b1 ba).2, (row _ _ b2 bd).2, (row _ _ b3 b4).2⟩
theorem ok_joined {f : Addr} {fd : FuncData} (G1 : Fn P w K mg base 4 "require_form" p_require_form) (G2 : Fn P w K mg base 6 "require_same_bar" p_require_same_bar) (G3 : Fn P w K mg base 6 "require_bare" p_require_bare) (G4 : FnR P w K mg base 7 "joined_whole" pre_joined post_joined)
    (F : Fun K "joined" "joined" s_joined f fd) (hm : mg "joined" = some (.ref f)) (hb : Binds K fd ["one", "other"] []) : FnR P w K mg base 8 "joined" pre_joined post_joined := by
  refine fnr_mk F sc_joined hm hb (fun ds h => ?_) (fun cdv A outer s H E hr ds h => ?_)
  · obtain ⟨a, b, c, d, e, f, rfl, _⟩ := h
    exact ⟨rfl, by simp⟩
  · obtain ⟨a, b, c, d, e, f, rfl, fJ, gJ, hD⟩ := h
    have hr4 := hr.mono (show 4 ≤ 7 by decide)
    have hr6 := hr.mono (show 6 ≤ 7 by decide)
    refine do_expr (ev_call G1 hr4 (ea_cons (ev_v 0) ea_nil) ⟨a, b, c, rfl, fJ.n, rfl⟩) ?_
    refine do_expr (ev_call G1 hr4 (ea_cons (ev_v 1) ea_nil) ⟨d, e, f, rfl, gJ.n, rfl⟩) ?_
    refine do_expr (ev_call G2 hr6 (ea_cons (ev_v 0) (ea_cons (ev_v 1) ea_nil)) ⟨a, b, c, d, e, f, rfl, fJ.n, gJ.n, hD, rfl⟩) ?_
    refine do_expr (ev_call G3 hr6 (ea_cons (ev_v 0) ea_nil) ⟨a, b, c, rfl, fJ.n, fJ.bare, rfl⟩) ?_
    refine do_expr (ev_call G3 hr6 (ea_cons (ev_v 1) ea_nil) ⟨d, e, f, rfl, gJ.n, gJ.bare, rfl⟩) ?_
    exact do_retR (evr_call G4 hr (ea_cons (ev_v 0) (ea_cons (ev_v 1) ea_nil)) ⟨a, b, c, d, e, f, rfl, fJ, gJ, hD⟩) (fun d hd => fz_joined rfl hd) (fun d hd => hd)
theorem ok_neutral {f : Addr} {fd : FuncData} (G1 : Fn P w K mg base 3 "require_bar" p_require_bar) (F : Fun K "neutral" "neutral" s_neutral f fd) (hm : mg "neutral" = some (.ref f)) (hb : Binds K fd ["bar"] []) : Fn P w K mg base 4 "neutral" p_neutral := by
  refine fn_mk F sc_neutral hm hb (fun ds d h => ?_) (fun cdv A outer s H E hr ds d h => ?_)
  · obtain ⟨i, rfl, _⟩ := h
    exact ⟨rfl, by simp⟩
  · obtain ⟨i, rfl, hi, h4, rfl⟩ := h
    have nd := sc_neutral.nd
    refine do_expr (ev_call G1 hr (ea_cons (ev_v 0) ea_nil) ⟨i, rfl, hi, h4, rfl⟩) ?_
    refine do_set 1 (ev_mod (ev_v 0) ev_int (by decide)) (.int _) ?_ nd
    exact do_ret (ev_tup (ea_cons ev_int (ea_cons (ev_v 1) (ea_cons (ev_div (ev_sub (ev_v 1) (ev_v 0)) ev_int (by decide) bd_4) ea_nil)))) rfl
set_option maxHeartbeats 4000000 in
theorem ok_round_of_class {f : Addr} {fd : FuncData} (Gb : Fn P w K mg base 5 "bar_of" p_bar_of) (Gn : Fn P w K mg base 4 "neutral" p_neutral) (Gj : FnR P w K mg base 8 "joined" pre_joined post_joined) (F : Fun K "round_of_class" "round_of_class" s_round_of_class f fd) (hm : mg "round_of_class" = some (.ref f)) (hb : Binds K fd ["form"] []) : FnL P w K mg base 9 "round_of_class" p_round_of_class := by
  refine fnl_mk F sc_round_of_class hm hb (fun ds es h => ?_) (fun cdv A outer s H E hr ds es h => ?_)
  · obtain ⟨i, h, x, rfl, _⟩ := h
    exact ⟨rfl, by simp⟩
  · obtain ⟨i, hi, x, rfl, rfl⟩ := h
    have nd := sc_round_of_class.nd
    have hr4 := hr.mono (show 4 ≤ 8 by decide)
    have hr5 := hr.mono (show 5 ≤ 8 by decide)
    have xJ := cls_J hi.s x
    have bx : x.1.b * x.1.b - 4 * x.1.a * x.1.c = i := x.2.ok.bar
    refine do_set 1 (d := cD (oneC hi)) (ev_call Gn hr4 (ea_cons (Ev.to (ev_call Gb hr5 (ea_cons (ev_v 0) ea_nil) ⟨x.1.a, x.1.b, x.1.c, rfl, xJ.n, rfl⟩) (congrArg D.int bx)) ea_nil) ⟨i, rfl, hi.d.neg, hi.d.four, rfl⟩) (fzC _) ?_ nd
    refine do_setN 2 (evn_list (ea_cons (ev_v 0) ea_nil)) (fun d hd => by rw [List.mem_singleton.mp hd]; exact fzC _) (fun l _ => ?_) nd
    have op := od_pos hi x
    have ol := od_le hi x
    have e1 : [cD x] = rdN hi x 1 := by
      show [cD x] = [cD (pwC hi x 1)]
      rw [show pwC hi x 1 = x from @MG.pw_one (MG.C i) (grp hi.d) x]
    refine do_while (fun ρ => ∃ n : Nat, ρ = [some (cD x), some (cD (oneC hi)), some (.lst l (rdN hi x n))] ∧ 0 < n ∧ n ≤ od hi x) (fun ρ => ρ = [some (cD x), some (cD (oneC hi)), some (.lst l (rdD hi x))]) (fun ρ => od hi x - lenAt ρ 2) PassesOwn.never ⟨1, by rw [← e1]; rfl, by decide, op⟩ ?_ ?_
    · rintro ρ ⟨n, rfl, n0, n1⟩
      refine ⟨_, et_neT (n := 0) hr (ev_ixl (ev_v 2) rfl (ev_neg ev_int) (lastN hi x n0)) (ev_v 1) (Cm.ints [_, _, _] [_, _, _]), fun hk => ?_, fun hk => ?_⟩
      · have nl : n < od hi x := by
          refine Nat.lt_of_le_of_ne n1 fun z => ?_
          have e : pwC hi x n = oneC hi := by rw [z]; exact pw_od hi x
          have k : (!eqb (cD (pwC hi x n)) (cD (oneC hi))) = true := hk
          rw [e, eqb_iff.mpr rfl] at k
          cases k
        refine do_append 2 rfl (ev_joinedC hi.s Gj hr (ev_ixl (ev_v 2) rfl (ev_neg ev_int) (lastN hi x n0)) (ev_v 0) (cls_J hi.s (pwC hi x n)) xJ (MG.Eqv.refl _) (MG.Eqv.refl _)) (fzC _) (by rw [rdN_len]; omega) (others_of rfl) (do_nil ⟨⟨n + 1, ?_, by omega, nl⟩, ?_⟩)
        · rw [rdN_succ]
          rfl
        · show od hi x - (rdN hi x n ++ [_]).length < od hi x - (rdN hi x n).length
          rw [List.length_append, rdN_len, List.length_singleton]
          omega
      · have k : (!eqb (cD (pwC hi x n)) (cD (oneC hi))) = false := hk
        have k2 : eqb (cD (pwC hi x n)) (cD (oneC hi)) = true := by simpa using k
        have e := cD_inj (eqb_iff.mp k2)
        have : n = od hi x := by
          refine Nat.le_antisymm n1 (Nat.not_lt.mp fun z => pw_ne hi n0 z e)
        rw [rdD_eq, ← this]
    · rintro ρ rfl
      exact do_ret (ev_v 2) ⟨l, rfl⟩ (fun a z => by cases z; exact ⟨2, _, rfl, rfl⟩)
set_option maxHeartbeats 4000000 in
theorem ok_round_of {f : Addr} {fd : FuncData} (Gf : Fn P w K mg base 4 "require_form" p_require_form) (Gb : Fn P w K mg base 5 "bar_of" p_bar_of) (Gq : Fn P w K mg base 4 "require_bar_from" p_require_bar_from) (Ge : Fn P w K mg base 6 "require_bare" p_require_bare) (Gl : FnR P w K mg base 5 "least_of" pre_form post_least_of) (Gc : FnL P w K mg base 9 "round_of_class" p_round_of_class) (C1 : Con K mg "LOWEST_LISTED_BAR" (.int (-4000)))
    (F : Fun K "round_of" "round_of" s_round_of f fd) (hm : mg "round_of" = some (.ref f)) (hb : Binds K fd ["form"] []) : FnL P w K mg base 10 "round_of" p_round_of := by
  refine fnl_mk F sc_round_of hm hb (fun ds es h => ?_) (fun cdv A outer s H E hr ds es h => ?_)
  · obtain ⟨i, h, x, q, rfl, _⟩ := h
    exact ⟨rfl, by simp⟩
  · obtain ⟨i, hi, x, q, rfl, qJ, ex, rfl⟩ := h
    have hr4 := hr.mono (show 4 ≤ 9 by decide)
    have hr5 := hr.mono (show 5 ≤ 9 by decide)
    have hr6 := hr.mono (show 6 ≤ 9 by decide)
    have b1 : q.b * q.b - 4 * q.a * q.c = i := by have := ex.symm.bar; rw [this]; exact x.2.ok.bar
    refine do_expr (ev_call Gf hr4 (ea_cons (ev_v 0) ea_nil) ⟨q.a, q.b, q.c, rfl, qJ.n, rfl⟩) ?_
    refine do_expr (ev_call Gq hr4 (ea_cons (Ev.to (ev_call Gb hr5 (ea_cons (ev_v 0) ea_nil) ⟨q.a, q.b, q.c, rfl, qJ.n, rfl⟩) (congrArg D.int b1)) (ea_cons (ev_con C1) ea_nil)) ⟨i, -4000, rfl, hi.d.neg, hi.d.four, hi.low, rfl⟩) ?_
    refine do_expr (ev_call Ge hr6 (ea_cons (ev_v 0) ea_nil) ⟨q.a, q.b, q.c, rfl, qJ.n, qJ.bare, rfl⟩) ?_
    exact do_retL (evn_call Gc hr (ea_cons (ev_leastC Gl hr5 (ev_v 0) qJ.s ex) ea_nil) ⟨i, hi, x, rfl, rfl⟩) fun l => ⟨l, rfl⟩
set_option maxHeartbeats 2000000 in
theorem ok_number_written {f : Addr} {fd : FuncData} (T : Tx mg) (F : Fun K "number_written" "number_written" s_number_written f fd) (hm : mg "number_written" = some (.ref f)) (hb : Binds K fd ["number"] []) : Fn P w K mg base 1 "number_written" p_num := by
  refine fn_mk F sc_number_written hm hb (fun ds d h => ?_) (fun cdv A outer s H E hr ds d h => ?_)
  · obtain ⟨i, rfl, _⟩ := h
    exact ⟨rfl, by simp⟩
  · obtain ⟨i, rfl, hi, rfl⟩ := h
    have nd := sc_number_written.nd
    have l60 : (sI ((i.natAbs : Nat) : Int)).length ≤ 61 := sI_len60 (by simpa using hi)
    refine do_set 1 (ev_abs T.abs (ev_v 0)) (.int _) ?_ nd
    refine do_setN 2 (evn_list ea_nil) (fun d hd => by cases hd) (fun l _ => ?_) nd
    have e64 : (10 : Int) ^ 64 = ((10 ^ 64 : Nat) : Int) := by norm_cast
    have lt : ((i.natAbs : Nat) : Int) < 10 ^ 64 := by
      have h2 : (10 : Nat) ^ 60 < 10 ^ 64 := by decide
      rw [e64]
      omega
    refine do_while (fun ρ => ρ = [some (.int i), some (.int ((i.natAbs : Nat) : Int)), some (.lst l [])]) (fun ρ => ρ = [some (.int i), some (.int ((i.natAbs : Nat) : Int)), some (.lst l [])]) (fun _ => 0) PassesOwn.never rfl ?_ ?_
    · rintro ρ rfl
      refine ⟨_, et_ge (ev_v 1) (ev_pow (n := 64) (m := 4) ev_int ev_int .lit), fun hk => ?_, fun _ => rfl⟩
      have : (10 : Int) ^ 64 ≤ ((i.natAbs : Nat) : Int) := of_decide_eq_true hk
      omega
    · rintro ρ rfl
      refine do_append 2 rfl (ev_strI T.str (ev_v 1) (log60 (by simpa using hi))) (.str _) (by decide) (others_of rfl) ?_
      by_cases neg : i < 0
      · obtain ⟨n, rfl⟩ : ∃ n : Nat, i = -((n + 1 : Nat) : Int) := ⟨i.natAbs - 1, by omega⟩
        have ea : ((-((n + 1 : Nat) : Int)).natAbs : Int) = ((n + 1 : Nat) : Int) := by omega
        rw [ea] at l60
        refine do_if (fun ρ => ρ = [some (.int (-((n + 1 : Nat) : Int))), some (.int ((n + 1 : Nat) : Int)), some (.lst l ([sI ((n + 1 : Nat) : Int), Str.ofString "-"].map D.str))]) (Et.tt (et_lt (ev_v 0) ev_int) neg) (fun _ => do_append 2 rfl ev_str (.str _) (by simp) (others_of rfl) (do_nil (by rw [ea]; rfl))) (fun z => by cases z) ?_
        rintro ρ rfl
        refine do_ret (ev_joinRev (x := Str.ofString "") (xs := [sI ((n + 1 : Nat) : Int), Str.ofString "-"]) rfl T.reversed ev_str (ev_v 2) rfl (by simp) (joinOk_small (by
          have e1 : (Str.ofString "-").length = 1 := rfl
          have e2 : (Str.ofString "").length = 0 := rfl
          simp only [List.reverse_cons, List.reverse_nil, List.nil_append, List.cons_append, List.map_cons, List.map_nil, List.sum_cons, List.sum_nil, List.length_cons, List.length_nil, e1, e2]
          omega))) ?_
        show D.str (Txt.join _ [Str.ofString "-", sI ((n + 1 : Nat) : Int)]) = D.str _
        rw [join2, app_emp, sI_neg]
      · obtain ⟨n, rfl⟩ : ∃ n : Nat, i = (n : Int) := ⟨i.natAbs, by omega⟩
        have ea : (((n : Int).natAbs : Nat) : Int) = (n : Int) := by omega
        rw [ea] at l60
        refine do_ifF (Et.ff' (et_lt (ev_v 0) ev_int) neg) ?_
        refine do_ret (ev_joinRev (x := Str.ofString "") (xs := [sI (((n : Int).natAbs : Nat) : Int)]) rfl T.reversed ev_str (ev_v 2) rfl (by simp) (joinOk_small (by
          have e2 : (Str.ofString "").length = 0 := rfl
          rw [ea]
          simp only [List.reverse_cons, List.reverse_nil, List.nil_append, List.map_cons, List.map_nil, List.sum_cons, List.sum_nil, List.length_cons, List.length_nil, e2]
          omega))) ?_
        show D.str (Txt.join _ [sI (((n : Int).natAbs : Nat) : Int)]) = D.str _
        rw [join1, ea]
set_option maxHeartbeats 2000000 in
theorem ok_written {f : Addr} {fd : FuncData} (G1 : Fn P w K mg base 4 "require_form" p_require_form) (G2 : Fn P w K mg base 1 "number_written" p_num) (F : Fun K "written" "written" s_written f fd) (hm : mg "written" = some (.ref f)) (hb : Binds K fd ["form"] []) : Fn P w K mg base 5 "written" p_written := by
  refine fn_mk F sc_written hm hb (fun ds d h => ?_) (fun cdv A outer s H E hr ds d h => ?_)
  · obtain ⟨a, b, c, rfl, _⟩ := h
    exact ⟨rfl, by simp⟩
  · obtain ⟨a, b, c, rfl, hf, rfl⟩ := h
    have nd := sc_written.nd
    have hr1 := hr.mono (show 1 ≤ 4 by decide)
    have la := sI_len60 hf.a
    have lb := sI_len60 hf.b
    have lc := sI_len60 hf.c
    have l2 : (Str.ofString ", ").length = 2 := rfl
    have lx : (Str.ofString "[").length = 1 := rfl
    have ly : (Str.ofString "]").length = 1 := rfl
    refine do_expr (ev_call G1 hr (ea_cons (ev_v 0) ea_nil) ⟨a, b, c, rfl, hf.n, rfl⟩) ?_
    have e : ([sI a, sI b, sI c].map D.str) = ((([.int a, .int b, .int c] : List D).filter fun _ => true).map fun d => match d with | .int i => D.str (sI i) | _ => .non) := rfl
    refine do_set 1 (d := .str (Txt.join (Str.ofString ", ") [sI a, sI b, sI c])) (ev_join ev_str ?comp (joinOk_small (by simp only [List.map_cons, List.map_nil, List.sum_cons, List.sum_nil, List.length_cons, List.length_nil, l2]; omega))) (.str _) ?_ nd
    case comp =>
      rw [e]
      refine evn_compC [] [] [] (fun _ => true) _ (src_tup (ev_v 0)) (by simp) (fun d hd _ => ?_) (fun C s₀ H₀ fp d hd => ets_nil) (fun C s₀ H₀ fp d hd _ => ?_)
      · simp only [List.mem_cons, List.not_mem_nil, or_false] at hd
        rcases hd with rfl | rfl | rfl <;> exact .str _
      · simp only [List.mem_cons, List.not_mem_nil, or_false] at hd
        rcases hd with rfl | rfl | rfl
        · exact ev_call G2 hr1 (ea_cons (ev_v 0) ea_nil) ⟨_, rfl, hf.a, rfl⟩
        · exact ev_call G2 hr1 (ea_cons (ev_v 0) ea_nil) ⟨_, rfl, hf.b, rfl⟩
        · exact ev_call G2 hr1 (ea_cons (ev_v 0) ea_nil) ⟨_, rfl, hf.c, rfl⟩
    have lj : (Txt.join (Str.ofString ", ") [sI a, sI b, sI c]).length ≤ 200 := by
      rw [join3]
      simp only [Str.length_append, l2]
      omega
    refine do_ret (ev_fstr (.cons (pt_of ev_str) (.cons (pt_str (ev_v 1) (by omega)) (.cons (pt_of ev_str) .nil))) (by simp only [List.map_cons, List.map_nil, List.sum_cons, List.sum_nil, lx, ly]; omega)) ?_
    show D.str (catL Str.empty [Str.ofString "[", Txt.join (Str.ofString ", ") [sI a, sI b, sI c], Str.ofString "]"]) = D.str (formS a b c)
    unfold catL formS
    rw [join3]
    simp only [List.foldl_cons, List.foldl_nil, emp_app, app_assoc]
theorem ok_require_so_many {f : Addr} {fd : FuncData} (T : Tx mg) (F : Fun K "require_so_many" "require_so_many" s_require_so_many f fd) (hm : mg "require_so_many" = some (.ref f)) (hb : Binds K fd ["forms", "least"] []) : Fn P w K mg base 1 "require_so_many" p_require_so_many := by
  refine fn_mk F sc_require_so_many hm hb (fun ds d h => ?_) (fun cdv A outer s H E hr ds d h => ?_)
  · obtain ⟨fs, n, rfl, _⟩ := h
    exact ⟨rfl, by simp⟩
  · obtain ⟨fs, n, rfl, h1, h2, rfl⟩ := h
    exact do_ifF (Et.ff' (et_lt (ev_len T.len (ev_v 0) rfl) (ev_v 1)) (by omega)) (do_nil rfl)
theorem ok_law_cell_at {f : Addr} {fd : FuncData} (T : Tx mg) (F : Fun K "_law_cell_at" "_law_cell_at" s_law_cell_at f fd) (hm : mg "_law_cell_at" = some (.ref f)) (hb : Binds K fd ["_law_script", "_law_k"] []) :
    Fn P w K mg base 1 "_law_cell_at" p_law_cell_at := by
  refine fn_mk F sc_law_cell_at hm hb (fun ds d h => ?_) (fun cdv A outer s H E hr ds d h => ?_)
  · obtain ⟨ns, k, rfl, rfl⟩ := h
    exact ⟨rfl, by simp⟩
  · obtain ⟨ns, k, rfl, rfl⟩ := h
    have e1 : lenD (scrD ns) = some ns.length := by simp [lenD]
    refine do_ifR (et_lt (ev_v 1) (ev_len T.len (ev_v 0) e1)) (fun hk => ?_) (fun hk => ?_)
    · have hk' : k < ns.length := by simpa using hk
      refine do_ret (ev_ixl (d := .int (cell ns k)) (ev_v 0) rfl (ev_v 1) (atI_nat ?_)) rfl
      rw [List.getElem?_map, List.getElem?_eq_getElem hk']
      simp [cell, List.getD, List.getElem?_eq_getElem hk']
    · have hk' : ns.length ≤ k := by simpa using hk
      refine do_ret ev_int ?_
      show D.int 0 = D.int _
      simp [cell, List.getD, List.getElem?_eq_none hk']
theorem ok_law_divisor {f : Addr} {fd : FuncData} (T : Tx mg) (F : Fun K "_law_divisor" "_law_divisor" s_law_divisor f fd) (hm : mg "_law_divisor" = some (.ref f)) (hb : Binds K fd ["_law_one", "_law_other"] []) :
    Fn P w K mg base 1 "_law_divisor" p_law_divisor := by
  refine fn_mk F sc_law_divisor hm hb (fun ds d h => ?_) (fun cdv A outer s H E hr ds d h => ?_)
  · obtain ⟨a, b, rfl, rfl⟩ := h
    exact ⟨rfl, by simp⟩
  · obtain ⟨a, b, rfl, rfl⟩ := h
    have nd := sc_law_divisor.nd
    refine do_while (fun ρ => ∃ g l r, ρ = [some (.int g), some (.int l), r] ∧ Int.gcd g l = Int.gcd a b) (fun ρ => ∃ g r, ρ = [some (.int g), some (.int 0), r] ∧ Int.gcd g 0 = Int.gcd a b)
      (fun ρ => (intAt ρ 1).natAbs) PassesOwn.never ⟨a, b, none, rfl, rfl⟩ ?_ ?_
    · rintro ρ ⟨g, l, r, rfl, e⟩
      refine ⟨_, et_ne (ev_v 1) ev_int, fun hk => ?_, fun hk => ?_⟩
      · have hl0 : l ≠ 0 := by simpa using hk
        refine do_set 2 (ev_modN (ev_v 0) (ev_v 1) hl0) (.int _) (do_set 0 (ev_v 1) (.int _) (do_set 1 (ev_v 2) (.int _) (do_nil ⟨⟨l, g.fmod l, _, rfl, ?_⟩, ?_⟩) nd) nd) nd
        · rw [M.fmod_gcd]
          exact e
        · show (g.fmod l).natAbs < l.natAbs
          exact M.fmod_lt g hl0
      · have hl0 : l = 0 := by simpa using hk
        subst hl0
        exact ⟨g, r, rfl, e⟩
    · rintro ρ ⟨g, r, rfl, e⟩
      refine do_ret (ev_abs T.abs (ev_v 0)) ?_
      show D.int _ = D.int _
      rw [← e, Int.gcd_zero_right]
set_option maxHeartbeats 2000000 in
theorem ok_law_wide {f : Addr} {fd : FuncData} (T : Tx mg) (F : Fun K "_law_wide" "_law_wide" s_law_wide f fd) (hm : mg "_law_wide" = some (.ref f)) (hb : Binds K fd ["_law_text", "_law_width"] []) : Fn P w K mg base 1 "_law_wide" p_wide := by
  refine fn_mk F sc_law_wide hm hb (fun ds d h => ?_) (fun cdv A outer s H E hr ds d h => ?_)
  · obtain ⟨t, wd, rfl, _⟩ := h
    exact ⟨rfl, by simp⟩
  · obtain ⟨t, wd, rfl, sl, w0, w1, rfl⟩ := h
    have nd := sc_law_wide.nd
    obtain ⟨n, rfl⟩ : ∃ n : Nat, wd = (n : Int) := ⟨wd.toNat, by omega⟩
    rw [rjust_pad]
    refine do_while (fun ρ => ∃ j : Nat, ρ = [some (.str (pad 32 j t)), some (.int (n : Int))] ∧ (j = 0 ∨ j + t.length ≤ n)) (fun ρ => ρ = [some (.str (pad 32 (n - t.length) t)), some (.int (n : Int))]) (fun ρ => n - slen ρ 0) PassesOwn.never ⟨0, by rw [pad_zero]; rfl, .inl rfl⟩ ?_ ?_
    · rintro ρ ⟨j, rfl, hj⟩
      have pl := pad_len 32 j t
      refine ⟨_, et_lt (ev_len T.len (ev_v 0) (lenS (by omega))) (ev_v 1), fun hk => ?_, fun hk => ?_⟩
      · have hk' : (pad 32 j t).length < n := by
          have : (((pad 32 j t).length : Nat) : Int) < (n : Int) := by simpa using hk
          omega
        have ps := pad_len 32 (j + 1) t
        refine do_set 0 (d := .str (pad 32 (j + 1) t)) (Ev.to (ev_catS ev_str (ev_v 0) (fitL (by rw [show (Str.ofString " ").length = 1 from rfl]; omega))) (congrArg D.str (pad_cons (by decide) j _))) (.str _) (do_nil ⟨⟨j + 1, rfl, .inr (by omega)⟩, ?_⟩) nd
        show n - (pad 32 (j + 1) t).length < n - (pad 32 j t).length
        omega
      · have hk' : ¬ (pad 32 j t).length < n := by
          have : ¬ (((pad 32 j t).length : Nat) : Int) < (n : Int) := by simpa using hk
          omega
        have : j = n - t.length := by omega
        rw [← this]
    · rintro ρ rfl
      exact do_ret (ev_v 0) rfl
set_option maxHeartbeats 2000000 in
theorem ok_law_says {f : Addr} {fd : FuncData} {C0 C1 C2 : Addr} (T : Tx mg) (Td : Tds P w K mg base C0 C1 C2) (Ln : Lns P w K mg base C0 C1 C2) (G1 : Fn P w K mg base 1 "_law_wide" p_wide) (F : Fun K "_law_says" "_law_says" s_law_says f fd) (hm : mg "_law_says" = some (.ref f)) (hb : Binds K fd ["_law_question", "_law_due", "_law_width"] []) : Fn P w K mg base 13 "_law_says" (p_says K C0 C1 C2) := by
  refine fn_mk F sc_law_says hm hb (fun ds d h => ?_) (fun cdv A outer s H E hr ds d h => ?_)
  · obtain ⟨C, fs, t, n, rfl, _⟩ := h
    exact ⟨rfl, by simp⟩
  · obtain ⟨C, fs, t, n, rfl, h, n0, n1, rfl⟩ := h
    have nd := sc_law_says.nd
    have hr1 := hr.mono (show 1 ≤ 12 by decide)
    have hr11 := hr.mono (show 11 ≤ 12 by decide)
    have tl := tq_len h
    have M := Ln C h.one
    refine do_set 3 (ev_told Td (ev_v 0) hr11 h) (.str _) ?_ nd
    refine do_set 4 (ev_meth M (ev_v 0) hr (ea_cons (ev_v 2) ea_nil) ⟨C, fs, t, n, rfl, h, n0, n1, rfl⟩) (.str _) ?_ nd
    refine do_ifF (et_w (ew_orF (et_notT (et_val (ev_isi T.isi (ev_v 3) T.str bo_str rfl kit_s))) (ew_orF (et_notT (et_val (ev_isi T.isi (ev_v 4) T.str bo_str rfl kit_s))) (ew_or1 (Et.ff (et_neS (ev_v 3) (ev_v 1)) rfl))))) ?_
    exact do_ret (ev_andT (Ev.tt (ev_eqS (ev_v 4) (ev_call G1 hr1 (ea_cons (ev_v 1) (ea_cons (ev_v 2) ea_nil)) ⟨t, n, rfl, by omega, n0, n1, rfl⟩)) rfl) (ev_andT (Ev.tt (ev_eqS (ev_meth M (ev_v 0) hr (ea_cons ev_int ea_nil) ⟨C, fs, t, 0, rfl, h, by decide, by decide, rfl⟩) (ev_v 1)) (rj_zero t)) (ev_one (Ev.tt (ev_eqS (ev_told Td (ev_v 0) hr11 h) (ev_v 1)) rfl)))) rfl
set_option maxHeartbeats 8000000 in
theorem ok_law {f : Addr} {fd : FuncData} {C0 C1 C2 : Addr} (T : Tx mg) (Gc : Fn P w K mg base 1 "_law_cell_at" p_law_cell_at) (Gd : Fn P w K mg base 1 "_law_divisor" p_law_divisor) (Gs : Fn P w K mg base 13 "_law_says" (p_says K C0 C1 C2)) (Gl : FnR P w K mg base 5 "least_of" pre_form post_least_of) (Gr : FnL P w K mg base 10 "round_of" p_round_of) (M0 : MkC P w K mg base 5 "Question" C0 (p_init K)) (M1 : MkC P w K mg base 5 "LeastQuestion" C1 (p_init K)) (M2 : MkC P w K mg base 5 "RoundQuestion" C2 (p_init K))
    (Q0 : QCl K C0) (Q1 : QCl K C1) (Q2 : QCl K C2) (J0 : Isi K C0) (J1 : Isi K C1) (J2 : Isi K C2) (gm0 : mg "Question" = some (.ref C0)) (gm1 : mg "LeastQuestion" = some (.ref C1)) (gm2 : mg "RoundQuestion" = some (.ref C2))
    (t10 : PySem.W.kitOne K (.ref C1) (.ref C0) = some true) (t12 : PySem.W.kitOne K (.ref C1) (.ref C2) = some false) (t21 : PySem.W.kitOne K (.ref C2) (.ref C1) = some true) (t01 : PySem.W.kitOne K (.ref C0) (.ref C1) = some false)
    (F : Fun K "law" "law" s_law f fd) : FnOk P w K mg base CX0 14 f fd ["_law_script"] (SpD K p_law) := by
  refine fn_ok F sc_law (fun ds d h => ?_) (fun cdv A outer s H E hr ds d h => ?_)
  · obtain ⟨ns, rfl, _, _, rfl⟩ := h
    exact ⟨rfl, by simp⟩
  · obtain ⟨ns, rfl, hlen, hs, rfl⟩ := h
    have nd := sc_law.nd
    have hr1 := hr.mono (show 1 ≤ 13 by decide)
    have hr5 := hr.mono (show 5 ≤ 13 by decide)
    have hr6 := hr.mono (show 5 + 1 ≤ 13 by decide)
    have hr10 := hr.mono (show 10 ≤ 13 by decide)
    have self : ∀ d : D, (!eqb d d) = false := fun d => by rw [eqb_iff.mpr rfl]; rfl
    refine do_set 1 (ev_add ev_int (ev_mod (ev_call Gc hr1 (ea_cons (ev_v 0) (ea_cons ev_int ea_nil)) ⟨ns, 0, rfl, rfl⟩) ev_int (by decide))) (.int _) ?_ nd
    have x0 := Int.emod_nonneg (cell ns 0) (show (12 : Int) ≠ 0 by decide)
    have x1 := Int.emod_lt_of_pos (cell ns 0) (show (0 : Int) < 12 by decide)
    obtain ⟨a, ea, a0, a1⟩ : ∃ a : Int, 1 + cell ns 0 % 12 = a ∧ 0 < a ∧ a ≤ 12 := ⟨_, rfl, by omega, by omega⟩
    rw [ea]
    clear ea x0 x1
    have ba : Bd a 4 := .of_lt (by omega)
    refine do_set 2 (ev_sub (ev_mod (ev_call Gc hr1 (ea_cons (ev_v 0) (ea_cons ev_int ea_nil)) ⟨ns, 1, rfl, rfl⟩) ev_int (by decide)) ev_int) (.int _) ?_ nd
    have x0 := Int.emod_nonneg (cell ns 1) (show (25 : Int) ≠ 0 by decide)
    have x1 := Int.emod_lt_of_pos (cell ns 1) (show (0 : Int) < 25 by decide)
    obtain ⟨b, eb, b0, b1⟩ : ∃ b : Int, cell ns 1 % 25 - 12 = b ∧ -12 ≤ b ∧ b ≤ 12 := ⟨_, rfl, by omega, by omega⟩
    rw [eb]
    clear eb x0 x1
    have bb : Bd b 4 := .of_lt (by omega)
    refine do_set 3 (ev_add (ev_add (ev_div (ev_mul (ev_v 2) (ev_v 2) bb bb) (ev_mul ev_int (ev_v 1) bd_4 ba) (by omega) (Bd.of_lt (m := 6) (by omega))) ev_int) (ev_mod (ev_call Gc hr1 (ea_cons (ev_v 0) (ea_cons ev_int ea_nil)) ⟨ns, 2, rfl, rfl⟩) ev_int (by decide))) (.int _) ?_ nd
    have x0 := Int.emod_nonneg (cell ns 2) (show (13 : Int) ≠ 0 by decide)
    have x1 := Int.emod_lt_of_pos (cell ns 2) (show (0 : Int) < 13 by decide)
    have sq : b * b ≤ 144 := by
      have h1 : (12 - b) * (12 + b) ≥ 0 := Int.mul_nonneg (by omega) (by omega)
      have h2 : (12 - b) * (12 + b) = 144 - b * b := by grind
      omega
    have q1 : b * b / (4 * a) ≤ 36 := by
      refine Int.not_lt.mp fun z => ?_
      have h1 : b * b / (4 * a) * (4 * a) ≤ b * b := Int.ediv_mul_le _ (by omega)
      have h2 : b * b / (4 * a) * 4 ≤ b * b / (4 * a) * (4 * a) := Int.mul_le_mul_of_nonneg_left (by omega) (by omega)
      omega
    obtain ⟨c0, ec, l0, l1⟩ : ∃ c0 : Int, b * b / (4 * a) + 1 + cell ns 2 % 13 = c0 ∧ b * b / (4 * a) + 1 ≤ c0 ∧ c0 ≤ 49 := ⟨_, rfl, by omega, by omega⟩
    rw [ec]
    clear ec x0 x1 q1
    have gp : 0 < Int.gcd a b := Int.gcd_pos_of_ne_zero_left _ (by omega)
    have gl : Int.gcd a b ≤ 12 := by
      have h1 := Int.gcd_le_natAbs_left b (show a ≠ 0 by omega)
      omega
    obtain ⟨c1, z0, z1, z2⟩ := next_one gp c0
    refine do_while (fun ρ => ∃ c : Int, ρ = [some (scrD ns), some (.int a), some (.int b), some (.int c), none, none, none, none, none, none, none, none, none, none] ∧ c0 ≤ c ∧ c ≤ c1) (fun ρ => ∃ c : Int, ρ = [some (scrD ns), some (.int a), some (.int b), some (.int c), none, none, none, none, none, none, none, none, none, none] ∧ c0 ≤ c ∧ c ≤ c1 ∧ Int.gcd (Int.gcd a b) c = 1) (fun ρ => (c1 - intAt ρ 3).toNat) PassesOwn.never ⟨c0, rfl, Int.le_refl _, z0⟩ ?_ ?_
    · rintro ρ ⟨c, rfl, y0, y1⟩
      refine ⟨_, et_ne (ev_call Gd hr1 (ea_cons (ev_call Gd hr1 (ea_cons (ev_v 1) (ea_cons (ev_v 2) ea_nil)) ⟨a, b, rfl, rfl⟩) (ea_cons (ev_v 3) ea_nil)) ⟨_, c, rfl, rfl⟩) ev_int, fun hk => ?_, fun hk => ?_⟩
      · have hk' : ¬ ((Int.gcd (Int.gcd a b) c : Nat) : Int) = 1 := by simpa using hk
        have ne : c ≠ c1 := fun z => by subst z; rw [z2] at hk'; exact hk' rfl
        refine do_set 3 (ev_add (ev_v 3) ev_int) (.int _) (do_nil ⟨⟨c + 1, rfl, by omega, by omega⟩, ?_⟩) nd
        show (c1 - (c + 1)).toNat < (c1 - c).toNat
        omega
      · have hk' : ((Int.gcd (Int.gcd a b) c : Nat) : Int) = 1 := by simpa using hk
        exact ⟨c, rfl, y0, y1, by omega⟩
    rintro ρ ⟨c, rfl, y0, y1, g1⟩
    obtain ⟨hi, qJ⟩ := k24_form (c := c) a0 a1 b0 b1 (by omega) (by omega) g1
    obtain ⟨x, ex⟩ := cls_of qJ (i := b * b - 4 * a * c) rfl hi.d.neg
    generalize b * b - 4 * a * c = i at hi x ex
    clear z0 z1 z2 y0 y1 l0 l1 gp gl sq
    refine do_set 4 (d := qD ⟨a, b, c⟩) (ev_tup (ea_cons (ev_v 1) (ea_cons (ev_v 2) (ea_cons (ev_v 3) ea_nil)))) (fzQ _) ?_ nd
    generalize hq : (⟨a, b, c⟩ : Q) = q at qJ ex
    refine do_set 5 (ev_mod (ev_call Gc hr1 (ea_cons (ev_v 0) (ea_cons ev_int ea_nil)) ⟨ns, 3, rfl, rfl⟩) ev_int (by decide)) (.int _) ?_ nd
    have x0 := Int.emod_nonneg (cell ns 3) (show (4 : Int) ≠ 0 by decide)
    have x1 := Int.emod_lt_of_pos (cell ns 3) (show (0 : Int) < 4 by decide)
    obtain ⟨m, em, m1⟩ : ∃ m : Nat, cell ns 3 % 4 = (m : Int) ∧ m ≤ 3 := ⟨(cell ns 3 % 4).toNat, by omega, by omega⟩
    rw [em]
    clear em x0 x1
    refine do_set 6 (ev_mod (ev_call Gc hr1 (ea_cons (ev_v 0) (ea_cons ev_int ea_nil)) ⟨ns, 4, rfl, rfl⟩) ev_int (by decide)) (.int _) ?_ nd
    have x0 := Int.emod_nonneg (cell ns 4) (show (41 : Int) ≠ 0 by decide)
    have x1 := Int.emod_lt_of_pos (cell ns 4) (show (0 : Int) < 41 by decide)
    obtain ⟨n, en, n0, n1⟩ : ∃ n : Int, cell ns 4 % 41 = n ∧ 0 ≤ n ∧ n ≤ 100 := ⟨_, rfl, by omega, by omega⟩
    rw [en]
    clear en x0 x1
    have fzr : ∀ d ∈ List.replicate m (qD q), Fz d := fun d hd => by
      obtain rfl := List.eq_of_mem_replicate hd
      exact fzQ _
    have rl : (List.replicate m (qD q)).length = m := List.length_replicate
    refine do_setC (ds := (List.range (((m : Nat) : Int)).toNat).map fun (t : Nat) => D.int (0 + t)) 7 [("_law_form", s.heap.objs.size + 1)] ["_law_form"] [4] (fun _ => true) (fun _ => qD q) (src_range1 T.range (ev_v 5) (by omega) (by omega)) (by rw [List.length_map, List.length_range, Int.toNat_natCast]; omega) (fun d hd _ => fzQ _) (fun C s₀ H₀ fp d hd => ets_nil) (fun C s₀ H₀ fp d hd _ => ev_v 1) (fun l7 _ => ?_) nd
    rw [rep_eq, Int.toNat_natCast]
    have init : ∀ C, QCl K C → p_init K C (List.replicate m (qD q)) := fun C h => ⟨h, by omega, fun d hd => ⟨q, List.eq_of_mem_replicate hd, qJ.n⟩⟩
    refine do_ifF (et_w (ew_orF (et_notT (et_val (ev_call Gs hr (ea_cons (ev_make M0 hr6 (ev_lst7 (ev_v 7)) (init C0 Q0)) (ea_cons (ev_strI T.str (ev_v 5) (log_small (by omega))) (ea_cons (ev_v 6) ea_nil))) ⟨C0, _, _, n, rfl, ⟨Q0, .inl ⟨rfl, by omega, by rw [rl]⟩⟩, n0, n1, rfl⟩))) (ew_or1 (Et.to (et_neL (n := 1) hr (ev_v 7) (EvN.ev ?cq) rfl rfl (cms_rep (Cm.ints [_, _, _] [_, _, _]) m)) (self _))))) ?_
    case cq =>
      exact evn_to (evn_compC (ds := (List.range (((m : Nat) : Int)).toNat).map fun (t : Nat) => D.int (0 + t)) [("_law_form", s.heap.objs.size + 1)] ["_law_form"] [4] (fun _ => true) (fun _ => qD q) (src_range1 T.range (ev_v 5) (by omega) (by omega)) (by rw [List.length_map, List.length_range, Int.toNat_natCast]; omega) (fun d hd _ => fzQ _) (fun C s₀ H₀ fp d hd => ets_nil) (fun C s₀ H₀ fp d hd _ => ev_v 1)) (by rw [rep_eq, Int.toNat_natCast]; rfl)
    refine do_set 8 (ev_leastC Gl hr5 (ev_v 4) qJ.s ex) (fzQ _) ?_ nd
    obtain ⟨h1, h2, h3⟩ := cls_small' hi x
    have sa := sI_len h1
    have sb := sI_len h2
    have sc := sI_len h3
    have e1 : (Str.ofString "[").length = 1 := rfl
    have e2 : (Str.ofString ", ").length = 2 := rfl
    have e3 : (Str.ofString "]").length = 1 := rfl
    have e4 : (Str.ofString " ").length = 1 := rfl
    have tl := clsS_len hi x
    have ol := od_small hi x
    have os := sI_len ol
    refine do_set 9 (d := .str (formS x.1.a x.1.b x.1.c)) (ev_catS (ev_catS (ev_catS (ev_catS (ev_catS (ev_catS ev_str (ev_strI T.str (ev_ix (ev_v 8) ev_int rfl) (log_small h1)) (fitL (by omega))) ev_str (fitL (by rw [app_len]; omega))) (ev_strI T.str (ev_ix (ev_v 8) ev_int rfl) (log_small h2)) (fitL (by rw [app_len, app_len]; omega))) ev_str (fitL (by rw [app_len, app_len, app_len]; omega))) (ev_strI T.str (ev_ix (ev_v 8) ev_int rfl) (log_small h3)) (fitL (by rw [app_len, app_len, app_len, app_len]; omega))) ev_str (fitL (by rw [app_len, app_len, app_len, app_len, app_len]; omega))) (.str _) ?_ nd
    have fzh : ∀ d ∈ [qD q, qD ⟨1, 0, 1⟩], Fz d := fun d hd => by
      simp only [List.mem_cons, List.not_mem_nil, or_false] at hd
      rcases hd with rfl | rfl <;> exact fzQ _
    refine do_set 10 (d := .fl [qD q, qD ⟨1, 0, 1⟩]) (ev_frz (evn_list (ea_cons (ev_v 4) (ea_cons (ev_tup (ea_cons ev_int (ea_cons ev_int (ea_cons ev_int ea_nil)))) ea_nil))) fzh) (.fl fzh) ?_ nd
    have one : FormN 1 0 1 := ⟨by decide, by decide, (Bd.of_lt (m := 1) (by omega)).up _ (by decide), (Bd.of_lt (m := 1) (by omega)).up _ (by decide), (Bd.of_lt (m := 1) (by omega)).up _ (by decide)⟩
    have init2 : ∀ C, QCl K C → p_init K C [qD q, qD ⟨1, 0, 1⟩] := fun C h => ⟨h, by simp, fun d hd => by
      simp only [List.mem_cons, List.not_mem_nil, or_false] at hd
      rcases hd with rfl | rfl
      · exact ⟨q, rfl, qJ.n⟩
      · exact ⟨⟨1, 0, 1⟩, rfl, one⟩⟩
    refine do_set 11 (ev_make M1 hr6 (ev_lsF (ev_v 10)) (init2 C1 Q1)) (.qi fzh) ?_ nd
    refine do_set 12 (ev_make M2 hr6 (ev_lsF (ev_v 10)) (init2 C2 Q2)) (.qi fzh) ?_ nd
    refine do_set 13 (d := .str (formS x.1.a x.1.b x.1.c ++ Str.ofString " " ++ sI ((od hi x : Nat) : Int))) (ev_catS (ev_catS (ev_v 9) ev_str (fitL (by omega))) (ev_strI T.str (Ev.to (ev_len T.len (EvN.ev (evn_call Gr hr10 (ea_cons (ev_v 4) ea_nil) ⟨i, hi, x, q, rfl, qJ, ex, rfl⟩)) rfl) (by rw [rdD_len])) (log_small ol)) (fitL (by rw [app_len]; omega))) (.str _) ?_ nd
    refine do_ifF (et_w (ew_orF (et_notT (et_val (ev_call Gs hr (ea_cons (ev_v 11) (ea_cons (ev_v 9) (ea_cons (ev_v 6) ea_nil))) ⟨C1, _, _, n, rfl, ⟨Q1, .inr (.inl ⟨rfl, i, hi, x, q, _, rfl, by simp, qJ, ex, rfl⟩)⟩, n0, n1, rfl⟩))) (ew_or1 (et_notT (et_val (ev_call Gs hr (ea_cons (ev_v 12) (ea_cons (ev_v 13) (ea_cons (ev_v 6) ea_nil))) ⟨C2, _, _, n, rfl, ⟨Q2, .inr (.inr ⟨rfl, i, hi, x, q, _, rfl, by simp, qJ, ex, rfl⟩)⟩, n0, n1, rfl⟩)))))) ?_
    refine do_ifF (et_w (ew_orF (et_notT (et_val (ev_isiQ T.isi (ev_v 11) gm0 Q1.cl J1 t10))) (ew_or1 (et_val (ev_isiQ T.isi (ev_v 11) gm2 Q1.cl J1 t12))))) ?_
    refine do_ifF (et_notT (et_val (ev_isiQ T.isi (ev_v 12) gm1 Q2.cl J2 t21))) ?_
    refine do_ret (ev_andT (Ev.to (ev_eqL (n := 1) hr (ev_v 10) (EvN.ev (evn_list (ea_cons (ev_v 4) (ea_cons (ev_tup (ea_cons ev_int (ea_cons ev_int (ea_cons ev_int ea_nil)))) ea_nil)))) rfl rfl (.cons (Cm.ints [_, _, _] [_, _, _]) (.cons (Cm.ints [_, _, _] [_, _, _]) .nil))) (congrArg D.bl (eqb_iff.mpr rfl))) (ev_one (ev_notF (ev_isiQ T.isi (ev_make M0 hr6 (ev_lst7 (ev_v 7)) (init C0 Q0)) gm1 Q0.cl J0 t01)))) rfl
theorem ok_Question_init {f : Addr} {fd : FuncData} (T : Tx mg) (G1 : Fn P w K mg base 4 "require_form" p_require_form) (F : Fun K "__init__" "Question.__init__" s_Question_init f fd) : FnOk P w K mg base CX0 5 f fd ["self", "forms"] (SpI K (p_init K)) := by
  have fz : ∀ C ds, p_init K C ds → ∀ d ∈ ds, Fz d := fun C ds h d hd => by
    obtain ⟨q, rfl, _⟩ := h.2.2 d hd
    exact fzQ _
  refine init_ok F sc_Question_init rfl (fun _ => rfl) (.inl rfl) (fun C ds h => ⟨h.1.cl, h.1.na, fz C ds h⟩) (fun cdv A outer s H E a hr C ds h => evn_listOf T.list (ev_v 1) rfl) (fun cdv A outer s H H4 E hr C ds h => ?_)
  have nd := sc_Question_init.nd
  refine do_for 2 (fun _ ρ => ∃ u : Option D, ρ = [some (.qi C ds), none, u]) (fun _ => True) PassesOwn.never rfl (wk_fl (ev_forms (ev_v 0) h.1.cl h.1.na) (fz C ds h)) (fz C ds h) (fun _ _ _ => trivial) ⟨none, rfl⟩ ?_ (fun _ _ => trivial) (fun ρ _ => do_nil trivial) nd
  rintro n d ρ hd ⟨u, rfl⟩
  obtain ⟨q, rfl, qN⟩ := h.2.2 d (List.mem_of_getElem? hd)
  exact do_expr (ev_call G1 hr (ea_cons (ev_v 2) ea_nil) ⟨q.a, q.b, q.c, rfl, qN, rfl⟩) (do_nil ⟨_, rfl⟩)
theorem ok_Question_told {f : Addr} {fd : FuncData} (T : Tx mg) (F : Fun K "told" "Question.told" s_Question_told f fd) : FnOk P w K mg base CX0 1 f fd ["self"] (SpD K (p_toldQ K Cq)) := by
  refine fn_ok F sc_Question_told (fun ds d h => ?_) (fun cdv A outer s H E hr ds d h => ?_)
  · obtain ⟨C, fs, t, rfl, _⟩ := h
    exact ⟨rfl, by simp⟩
  · obtain ⟨C, fs, t, rfl, c, ⟨l, rfl⟩, rfl⟩ := h
    exact do_ret (ev_strI T.str (ev_len T.len (ev_forms (ev_v 0) c.cl c.na) rfl) (log_small (by omega))) rfl
theorem ok_Question_line {f : Addr} {fd : FuncData} {C0 C1 C2 : Addr} (Td : Tds P w K mg base C0 C1 C2) (G1 : Fn P w K mg base 2 "require_whole" p_require_whole) (F : Fun K "line" "Question.line" s_Question_line f fd) : FnOk P w K mg base CX0 12 f fd ["self", "width"] (SpD K (p_line K C0 C1 C2)) := by
  refine fn_ok F sc_Question_line (fun ds d h => ?_) (fun cdv A outer s H E hr ds d h => ?_)
  · obtain ⟨C, fs, t, n, rfl, _⟩ := h
    exact ⟨rfl, by simp⟩
  · obtain ⟨C, fs, t, n, rfl, h, n0, n1, rfl⟩ := h
    have hr2 := hr.mono (show 2 ≤ 11 by decide)
    refine do_expr (ev_call G1 hr2 (ea_cons (ev_v 1) ea_nil) ⟨n, rfl, rfl⟩) ?_
    exact do_ret (ev_rjust (ev_told Td (ev_v 0) hr h) (ev_v 1) (padOk n0 n1)) rfl
set_option maxHeartbeats 2000000 in
theorem ok_LeastQuestion_told {f : Addr} {fd : FuncData} (G1 : Fn P w K mg base 1 "require_so_many" p_require_so_many) (G2 : FnR P w K mg base 5 "least_of" pre_form post_least_of) (G3 : Fn P w K mg base 5 "written" p_written) (F : Fun K "told" "LeastQuestion.told" s_LeastQuestion_told f fd) : FnOk P w K mg base CX0 6 f fd ["self"] (SpD K (p_toldQ K Lq)) := by
  refine fn_ok F sc_LeastQuestion_told (fun ds d h => ?_) (fun cdv A outer s H E hr ds d h => ?_)
  · obtain ⟨C, fs, t, rfl, _⟩ := h
    exact ⟨rfl, by simp⟩
  · obtain ⟨C, fs, t, rfl, c, ⟨i, hi, x, q, r, rfl, rl, qJ, ex, rfl⟩, rfl⟩ := h
    have hr1 := hr.mono (show 1 ≤ 5 by decide)
    have xJ := cls_J hi.s x
    obtain ⟨h1, h2, h3⟩ := cls_small' hi x
    have big : 4096 < 10 ^ 60 := by decide
    refine do_expr (ev_call G1 hr1 (ea_cons (ev_forms (ev_v 0) c.cl c.na) (ea_cons ev_int ea_nil)) ⟨_, 1, rfl, by simp; omega, by simp; omega, rfl⟩) ?_
    exact do_ret (ev_call G3 hr (ea_cons (ev_leastC G2 hr (ev_ixl (ev_forms (ev_v 0) c.cl c.na) rfl ev_int (at0 _ _)) qJ.s ex) ea_nil) ⟨_, _, _, rfl, ⟨xJ.n, by omega, by omega, by omega⟩, rfl⟩) rfl
set_option maxHeartbeats 2000000 in
theorem ok_RoundQuestion_told {f : Addr} {fd : FuncData} (T : Tx mg) (G1 : Fn P w K mg base 1 "require_so_many" p_require_so_many) (G2 : FnL P w K mg base 10 "round_of" p_round_of) (G3 : Fn P w K mg base 5 "written" p_written) (F : Fun K "told" "RoundQuestion.told" s_RoundQuestion_told f fd) : FnOk P w K mg base CX0 11 f fd ["self"] (SpD K (p_toldQ K Rq)) := by
  refine fn_ok F sc_RoundQuestion_told (fun ds d h => ?_) (fun cdv A outer s H E hr ds d h => ?_)
  · obtain ⟨C, fs, t, rfl, _⟩ := h
    exact ⟨rfl, by simp⟩
  · obtain ⟨C, fs, t, rfl, c, ⟨i, hi, x, q, r, rfl, rl, qJ, ex, rfl⟩, rfl⟩ := h
    have nd := sc_RoundQuestion_told.nd
    have hr1 := hr.mono (show 1 ≤ 10 by decide)
    have hr5 := hr.mono (show 5 ≤ 10 by decide)
    have xJ := cls_J hi.s x
    obtain ⟨h1, h2, h3⟩ := cls_small' hi x
    have ol := od_small hi x
    have fl := clsS_len hi x
    have sl := sI_len ol
    have big : 4096 < 10 ^ 60 := by decide
    have e1 : (Str.ofString " ").length = 1 := rfl
    refine do_expr (ev_call G1 hr1 (ea_cons (ev_forms (ev_v 0) c.cl c.na) (ea_cons ev_int ea_nil)) ⟨_, 1, rfl, by simp; omega, by simp; omega, rfl⟩) ?_
    refine do_set 1 (ev_frz (evn_call G2 hr (ea_cons (ev_ixl (ev_forms (ev_v 0) c.cl c.na) rfl ev_int (at0 _ _)) ea_nil) ⟨i, hi, x, q, rfl, qJ, ex, rfl⟩) (fzR hi x)) (.fl (fzR hi x)) ?_ nd
    refine do_set 2 (ev_call G3 hr5 (ea_cons (ev_ixl (ev_v 1) rfl ev_int (first_rd hi x)) ea_nil) ⟨_, _, _, rfl, ⟨xJ.n, by omega, by omega, by omega⟩, rfl⟩) (.str _) ?_ nd
    refine do_set 3 (d := .int ((od hi x : Nat) : Int)) (Ev.to (ev_len T.len (ev_v 1) rfl) (by rw [rdD_len])) (.int _) ?_ nd
    refine do_ret (ev_fstr (.cons (pt_str (ev_v 2) (by omega)) (.cons (pt_of ev_str) (.cons (pt_int (ev_v 3) (log_small ol)) .nil))) (by simp only [List.map_cons, List.map_nil, List.sum_cons, List.sum_nil, e1]; omega)) ?_
    show D.str (catL Str.empty [formS x.1.a x.1.b x.1.c, Str.ofString " ", sI ((od hi x : Nat) : Int)]) = D.str _
    unfold catL
    simp only [List.foldl_cons, List.foldl_nil, emp_app]
end
theorem all_mk {l : PySem.W.OpenLaw} {w : World} {K : PySem.W.Frag} {h : Heap} {mg : Str → Option Value} {fa f0 f1 f2 f3 f4 f5 f6 f7 f8 f9 f10 f11 f12 f13 f14 f15 f16 f17 f18 f19 f20 f21 f22 f23 f24 f25 f26 f27 f28 f29 f30 f31 f32 f33 f34 f35 f36 f37 f38 f39 f40 f41 f42 f43 f44 f45 : Addr} (X : K.In h) (G : h.Ns mainGlobals mg) (hfa : mg "law" = some (.ref fa))
    {od0 an0 od1 an1 od2 an2 od3 an3 od4 an4 od5 an5 od6 an6 od7 an7 od8 an8 od9 an9 od10 an10 od11 an11 od12 an12 od13 an13 od14 an14 od15 an15 od16 an16 od17 an17 od18 an18 od19 an19 od20 an20 od21 an21 od22 an22 od23 an23 od24 an24 od25 an25 od26 an26 od27 an27 od28 an28 od29 an29 od30 an30 od31 an31 od32 an32 od33 an33 od34 an34 od35 an35 od36 an36 od37 an37 od38 an38 od39 an39 od40 an40 od41 an41 od42 an42 od43 an43 od44 an44 od45 an45 : Option Addr} {sl0 sl1 sl2 sl3 sl4 sl5 sl6 sl7 sl8 sl9 sl10 sl11 sl12 sl13 sl14 sl15 sl16 sl17 sl18 sl19 sl20 sl21 sl22 sl23 sl24 sl25 sl26 sl27 sl28 sl29 sl30 sl31 sl32 sl33 sl34 sl35 sl36 sl37 sl38 sl39 sl40 sl41 sl42 sl43 sl44 sl45 : Array (Option Value)} {oc0 kV0 dc0 pm0 cd0 ct0 oc1 kV1 dc1 pm1 cd1 ct1 oc2 kV2 dc2 pm2 cd2 ct2 oc3 kV3 dc3 pm3 cd3 ct3 oc4 kV4 dc4 pm4 cd4 ct4 oc5 kV5 dc5 pm5 cd5 ct5 oc6 kV6 dc6 pm6 cd6 ct6 oc7 kV7 dc7 pm7 cd7 ct7 oc8 kV8 dc8 pm8 cd8 ct8 oc9 kV9 dc9 pm9 cd9 ct9 oc10 kV10 dc10 pm10 cd10 ct10 oc11 kV11 dc11 pm11 cd11 ct11 oc12 kV12 dc12 pm12 cd12 ct12 oc13 kV13 dc13 pm13 cd13 ct13 oc14 kV14 dc14 pm14 cd14 ct14 oc15 kV15 dc15 pm15 cd15 ct15 oc16 kV16 dc16 pm16 cd16 ct16 oc17 kV17 dc17 pm17 cd17 ct17 oc18 kV18 dc18 pm18 cd18 ct18 oc19 kV19 dc19 pm19 cd19 ct19 oc20 kV20 dc20 pm20 cd20 ct20 oc21 kV21 dc21 pm21 cd21 ct21 oc22 kV22 dc22 pm22 cd22 ct22 oc23 kV23 dc23 pm23 cd23 ct23 oc24 kV24 dc24 pm24 cd24 ct24 oc25 kV25 dc25 pm25 cd25 ct25 oc26 kV26 dc26 pm26 cd26 ct26 oc27 kV27 dc27 pm27 cd27 ct27 oc28 kV28 dc28 pm28 cd28 ct28 oc29 kV29 dc29 pm29 cd29 ct29 oc30 kV30 dc30 pm30 cd30 ct30 oc31 kV31 dc31 pm31 cd31 ct31 oc32 kV32 dc32 pm32 cd32 ct32 oc33 kV33 dc33 pm33 cd33 ct33 oc34 kV34 dc34 pm34 cd34 ct34 oc35 kV35 dc35 pm35 cd35 ct35 oc36 kV36 dc36 pm36 cd36 ct36 oc37 kV37 dc37 pm37 cd37 ct37 oc38 kV38 dc38 pm38 cd38 ct38 oc39 kV39 dc39 pm39 cd39 ct39 oc40 kV40 dc40 pm40 cd40 ct40 oc41 kV41 dc41 pm41 cd41 ct41 oc42 kV42 dc42 pm42 cd42 ct42 oc43 kV43 dc43 pm43 cd43 ct43 oc44 kV44 dc44 pm44 cd44 ct44 oc45 kV45 dc45 pm45 cd45 ct45 : Value}
    {C0 C1 C2 : Addr}
    (g0 : PySem.W.nsIn K mainGlobals "Question" = some (some (.ref C0))) (qa0 : PySem.W.plainGet K C0 Str.empty = true) (qb0 : PySem.W.hasDictIn K C0 = true) (qc0 : PySem.W.plainOver K C0 = true) (qd0 : PySem.W.findIn K (.ref C0) "__setattr__" = some (some (.builtin "object.__setattr__"))) (qe0 : PySem.W.findIn K (.ref C0) "forms" = some none)
    (qf0 : PySem.W.findIn K (.ref C0) "__class__" = some (some (.builtin "object.__class__"))) (qg0 : PySem.W.specialIn K (.builtin "object.__class__") "__get__" = some (some (.builtin "getset_descriptor.__get__"))) (qh0 : PySem.W.takesIn K (.builtin "object.__class__") = some true) (qi0 : PySem.W.mroIn K C0 (.type "object") = some true) (qj0 : PySem.W.makesIn K C0 = true) (qk0 : PySem.W.keepIn K (.ref C0) = true)
    (g1 : PySem.W.nsIn K mainGlobals "LeastQuestion" = some (some (.ref C1))) (qa1 : PySem.W.plainGet K C1 Str.empty = true) (qb1 : PySem.W.hasDictIn K C1 = true) (qc1 : PySem.W.plainOver K C1 = true) (qd1 : PySem.W.findIn K (.ref C1) "__setattr__" = some (some (.builtin "object.__setattr__"))) (qe1 : PySem.W.findIn K (.ref C1) "forms" = some none)
    (qf1 : PySem.W.findIn K (.ref C1) "__class__" = some (some (.builtin "object.__class__"))) (qg1 : PySem.W.specialIn K (.builtin "object.__class__") "__get__" = some (some (.builtin "getset_descriptor.__get__"))) (qh1 : PySem.W.takesIn K (.builtin "object.__class__") = some true) (qi1 : PySem.W.mroIn K C1 (.type "object") = some true) (qj1 : PySem.W.makesIn K C1 = true) (qk1 : PySem.W.keepIn K (.ref C1) = true)
    (g2 : PySem.W.nsIn K mainGlobals "RoundQuestion" = some (some (.ref C2))) (qa2 : PySem.W.plainGet K C2 Str.empty = true) (qb2 : PySem.W.hasDictIn K C2 = true) (qc2 : PySem.W.plainOver K C2 = true) (qd2 : PySem.W.findIn K (.ref C2) "__setattr__" = some (some (.builtin "object.__setattr__"))) (qe2 : PySem.W.findIn K (.ref C2) "forms" = some none)
    (qf2 : PySem.W.findIn K (.ref C2) "__class__" = some (some (.builtin "object.__class__"))) (qg2 : PySem.W.specialIn K (.builtin "object.__class__") "__get__" = some (some (.builtin "getset_descriptor.__get__"))) (qh2 : PySem.W.takesIn K (.builtin "object.__class__") = some true) (qi2 : PySem.W.mroIn K C2 (.type "object") = some true) (qj2 : PySem.W.makesIn K C2 = true) (qk2 : PySem.W.keepIn K (.ref C2) = true)
    (a0 : PySem.W.nsIn K mainGlobals "is_whole" = some (some (.ref f0))) (l0 : K.lookup f0 = some ⟨oc0, od0, .func (PySem.W.fnOf "is_whole" "is_whole" (defArgs s_is_whole) (defBody s_is_whole) (defScope s_is_whole) .none kV0 dc0 pm0 an0 cd0 ct0), sl0⟩) (c0 : PySem.W.codeIn K cd0 "is_whole" = true) (k0 : PySem.W.keepIn K (.ref f0) = true)
    (a1 : PySem.W.nsIn K mainGlobals "is_whole_tuple" = some (some (.ref f1))) (l1 : K.lookup f1 = some ⟨oc1, od1, .func (PySem.W.fnOf "is_whole_tuple" "is_whole_tuple" (defArgs s_is_whole_tuple) (defBody s_is_whole_tuple) (defScope s_is_whole_tuple) .none kV1 dc1 pm1 an1 cd1 ct1), sl1⟩) (c1 : PySem.W.codeIn K cd1 "is_whole_tuple" = true) (k1 : PySem.W.keepIn K (.ref f1) = true)
    (a2 : PySem.W.nsIn K mainGlobals "is_bar" = some (some (.ref f2))) (l2 : K.lookup f2 = some ⟨oc2, od2, .func (PySem.W.fnOf "is_bar" "is_bar" (defArgs s_is_bar) (defBody s_is_bar) (defScope s_is_bar) .none kV2 dc2 pm2 an2 cd2 ct2), sl2⟩) (c2 : PySem.W.codeIn K cd2 "is_bar" = true) (k2 : PySem.W.keepIn K (.ref f2) = true)
    (a3 : PySem.W.nsIn K mainGlobals "require_bar" = some (some (.ref f3))) (l3 : K.lookup f3 = some ⟨oc3, od3, .func (PySem.W.fnOf "require_bar" "require_bar" (defArgs s_require_bar) (defBody s_require_bar) (defScope s_require_bar) .none kV3 dc3 pm3 an3 cd3 ct3), sl3⟩) (c3 : PySem.W.codeIn K cd3 "require_bar" = true) (k3 : PySem.W.keepIn K (.ref f3) = true)
    (a4 : PySem.W.nsIn K mainGlobals "require_bar_from" = some (some (.ref f4))) (l4 : K.lookup f4 = some ⟨oc4, od4, .func (PySem.W.fnOf "require_bar_from" "require_bar_from" (defArgs s_require_bar_from) (defBody s_require_bar_from) (defScope s_require_bar_from) .none kV4 dc4 pm4 an4 cd4 ct4), sl4⟩) (c4 : PySem.W.codeIn K cd4 "require_bar_from" = true) (k4 : PySem.W.keepIn K (.ref f4) = true)
    (a5 : PySem.W.nsIn K mainGlobals "require_whole" = some (some (.ref f5))) (l5 : K.lookup f5 = some ⟨oc5, od5, .func (PySem.W.fnOf "require_whole" "require_whole" (defArgs s_require_whole) (defBody s_require_whole) (defScope s_require_whole) .none kV5 dc5 pm5 an5 cd5 ct5), sl5⟩) (c5 : PySem.W.codeIn K cd5 "require_whole" = true) (k5 : PySem.W.keepIn K (.ref f5) = true)
    (a6 : PySem.W.nsIn K mainGlobals "common_divisor" = some (some (.ref f6))) (l6 : K.lookup f6 = some ⟨oc6, od6, .func (PySem.W.fnOf "common_divisor" "common_divisor" (defArgs s_common_divisor) (defBody s_common_divisor) (defScope s_common_divisor) .none kV6 dc6 pm6 an6 cd6 ct6), sl6⟩) (c6 : PySem.W.codeIn K cd6 "common_divisor" = true) (k6 : PySem.W.keepIn K (.ref f6) = true)
    (a7 : PySem.W.nsIn K mainGlobals "divisor_with_shares" = some (some (.ref f7))) (l7 : K.lookup f7 = some ⟨oc7, od7, .func (PySem.W.fnOf "divisor_with_shares" "divisor_with_shares" (defArgs s_divisor_with_shares) (defBody s_divisor_with_shares) (defScope s_divisor_with_shares) .none kV7 dc7 pm7 an7 cd7 ct7), sl7⟩) (c7 : PySem.W.codeIn K cd7 "divisor_with_shares" = true) (k7 : PySem.W.keepIn K (.ref f7) = true)
    (a8 : PySem.W.nsIn K mainGlobals "bar_of_numbers" = some (some (.ref f8))) (l8 : K.lookup f8 = some ⟨oc8, od8, .func (PySem.W.fnOf "bar_of_numbers" "bar_of_numbers" (defArgs s_bar_of_numbers) (defBody s_bar_of_numbers) (defScope s_bar_of_numbers) .none kV8 dc8 pm8 an8 cd8 ct8), sl8⟩) (c8 : PySem.W.codeIn K cd8 "bar_of_numbers" = true) (k8 : PySem.W.keepIn K (.ref f8) = true)
    (a9 : PySem.W.nsIn K mainGlobals "is_form" = some (some (.ref f9))) (l9 : K.lookup f9 = some ⟨oc9, od9, .func (PySem.W.fnOf "is_form" "is_form" (defArgs s_is_form) (defBody s_is_form) (defScope s_is_form) .none kV9 dc9 pm9 an9 cd9 ct9), sl9⟩) (c9 : PySem.W.codeIn K cd9 "is_form" = true) (k9 : PySem.W.keepIn K (.ref f9) = true)
    (a10 : PySem.W.nsIn K mainGlobals "require_form" = some (some (.ref f10))) (l10 : K.lookup f10 = some ⟨oc10, od10, .func (PySem.W.fnOf "require_form" "require_form" (defArgs s_require_form) (defBody s_require_form) (defScope s_require_form) .none kV10 dc10 pm10 an10 cd10 ct10), sl10⟩) (c10 : PySem.W.codeIn K cd10 "require_form" = true) (k10 : PySem.W.keepIn K (.ref f10) = true)
    (a11 : PySem.W.nsIn K mainGlobals "bar_of" = some (some (.ref f11))) (l11 : K.lookup f11 = some ⟨oc11, od11, .func (PySem.W.fnOf "bar_of" "bar_of" (defArgs s_bar_of) (defBody s_bar_of) (defScope s_bar_of) .none kV11 dc11 pm11 an11 cd11 ct11), sl11⟩) (c11 : PySem.W.codeIn K cd11 "bar_of" = true) (k11 : PySem.W.keepIn K (.ref f11) = true)
    (a12 : PySem.W.nsIn K mainGlobals "is_bare" = some (some (.ref f12))) (l12 : K.lookup f12 = some ⟨oc12, od12, .func (PySem.W.fnOf "is_bare" "is_bare" (defArgs s_is_bare) (defBody s_is_bare) (defScope s_is_bare) .none kV12 dc12 pm12 an12 cd12 ct12), sl12⟩) (c12 : PySem.W.codeIn K cd12 "is_bare" = true) (k12 : PySem.W.keepIn K (.ref f12) = true)
    (a13 : PySem.W.nsIn K mainGlobals "is_turning" = some (some (.ref f13))) (l13 : K.lookup f13 = some ⟨oc13, od13, .func (PySem.W.fnOf "is_turning" "is_turning" (defArgs s_is_turning) (defBody s_is_turning) (defScope s_is_turning) .none kV13 dc13 pm13 an13 cd13 ct13), sl13⟩) (c13 : PySem.W.codeIn K cd13 "is_turning" = true) (k13 : PySem.W.keepIn K (.ref f13) = true)
    (a14 : PySem.W.nsIn K mainGlobals "require_turning" = some (some (.ref f14))) (l14 : K.lookup f14 = some ⟨oc14, od14, .func (PySem.W.fnOf "require_turning" "require_turning" (defArgs s_require_turning) (defBody s_require_turning) (defScope s_require_turning) .none kV14 dc14 pm14 an14 cd14 ct14), sl14⟩) (c14 : PySem.W.codeIn K cd14 "require_turning" = true) (k14 : PySem.W.keepIn K (.ref f14) = true)
    (a15 : PySem.W.nsIn K mainGlobals "sent" = some (some (.ref f15))) (l15 : K.lookup f15 = some ⟨oc15, od15, .func (PySem.W.fnOf "sent" "sent" (defArgs s_sent) (defBody s_sent) (defScope s_sent) .none kV15 dc15 pm15 an15 cd15 ct15), sl15⟩) (c15 : PySem.W.codeIn K cd15 "sent" = true) (k15 : PySem.W.keepIn K (.ref f15) = true)
    (a16 : PySem.W.nsIn K mainGlobals "way_back" = some (some (.ref f16))) (l16 : K.lookup f16 = some ⟨oc16, od16, .func (PySem.W.fnOf "way_back" "way_back" (defArgs s_way_back) (defBody s_way_back) (defScope s_way_back) .none kV16 dc16 pm16 an16 cd16 ct16), sl16⟩) (c16 : PySem.W.codeIn K cd16 "way_back" = true) (k16 : PySem.W.keepIn K (.ref f16) = true)
    (a17 : PySem.W.nsIn K mainGlobals "stepped" = some (some (.ref f17))) (l17 : K.lookup f17 = some ⟨oc17, od17, .func (PySem.W.fnOf "stepped" "stepped" (defArgs s_stepped) (defBody s_stepped) (defScope s_stepped) .none kV17 dc17 pm17 an17 cd17 ct17), sl17⟩) (c17 : PySem.W.codeIn K cd17 "stepped" = true) (k17 : PySem.W.keepIn K (.ref f17) = true)
    (a18 : PySem.W.nsIn K mainGlobals "behind_step" = some (some (.ref f18))) (l18 : K.lookup f18 = some ⟨oc18, od18, .func (PySem.W.fnOf "behind_step" "behind_step" (defArgs s_behind_step) (defBody s_behind_step) (defScope s_behind_step) .none kV18 dc18 pm18 an18 cd18 ct18), sl18⟩) (c18 : PySem.W.codeIn K cd18 "behind_step" = true) (k18 : PySem.W.keepIn K (.ref f18) = true)
    (a19 : PySem.W.nsIn K mainGlobals "swapped" = some (some (.ref f19))) (l19 : K.lookup f19 = some ⟨oc19, od19, .func (PySem.W.fnOf "swapped" "swapped" (defArgs s_swapped) (defBody s_swapped) (defScope s_swapped) .none kV19 dc19 pm19 an19 cd19 ct19), sl19⟩) (c19 : PySem.W.codeIn K cd19 "swapped" = true) (k19 : PySem.W.keepIn K (.ref f19) = true)
    (a20 : PySem.W.nsIn K mainGlobals "behind_swap" = some (some (.ref f20))) (l20 : K.lookup f20 = some ⟨oc20, od20, .func (PySem.W.fnOf "behind_swap" "behind_swap" (defArgs s_behind_swap) (defBody s_behind_swap) (defScope s_behind_swap) .none kV20 dc20 pm20 an20 cd20 ct20), sl20⟩) (c20 : PySem.W.codeIn K cd20 "behind_swap" = true) (k20 : PySem.W.keepIn K (.ref f20) = true)
    (a21 : PySem.W.nsIn K mainGlobals "step_to_middle" = some (some (.ref f21))) (l21 : K.lookup f21 = some ⟨oc21, od21, .func (PySem.W.fnOf "step_to_middle" "step_to_middle" (defArgs s_step_to_middle) (defBody s_step_to_middle) (defScope s_step_to_middle) .none kV21 dc21 pm21 an21 cd21 ct21), sl21⟩) (c21 : PySem.W.codeIn K cd21 "step_to_middle" = true) (k21 : PySem.W.keepIn K (.ref f21) = true)
    (a22 : PySem.W.nsIn K mainGlobals "least_of" = some (some (.ref f22))) (l22 : K.lookup f22 = some ⟨oc22, od22, .func (PySem.W.fnOf "least_of" "least_of" (defArgs s_least_of) (defBody s_least_of) (defScope s_least_of) .none kV22 dc22 pm22 an22 cd22 ct22), sl22⟩) (c22 : PySem.W.codeIn K cd22 "least_of" = true) (k22 : PySem.W.keepIn K (.ref f22) = true)
    (a23 : PySem.W.nsIn K mainGlobals "require_bare" = some (some (.ref f23))) (l23 : K.lookup f23 = some ⟨oc23, od23, .func (PySem.W.fnOf "require_bare" "require_bare" (defArgs s_require_bare) (defBody s_require_bare) (defScope s_require_bare) .none kV23 dc23 pm23 an23 cd23 ct23), sl23⟩) (c23 : PySem.W.codeIn K cd23 "require_bare" = true) (k23 : PySem.W.keepIn K (.ref f23) = true)
    (a24 : PySem.W.nsIn K mainGlobals "require_same_bar" = some (some (.ref f24))) (l24 : K.lookup f24 = some ⟨oc24, od24, .func (PySem.W.fnOf "require_same_bar" "require_same_bar" (defArgs s_require_same_bar) (defBody s_require_same_bar) (defScope s_require_same_bar) .none kV24 dc24 pm24 an24 cd24 ct24), sl24⟩) (c24 : PySem.W.codeIn K cd24 "require_same_bar" = true) (k24 : PySem.W.keepIn K (.ref f24) = true)
    (a25 : PySem.W.nsIn K mainGlobals "joint_divisor" = some (some (.ref f25))) (l25 : K.lookup f25 = some ⟨oc25, od25, .func (PySem.W.fnOf "joint_divisor" "joint_divisor" (defArgs s_joint_divisor) (defBody s_joint_divisor) (defScope s_joint_divisor) .none kV25 dc25 pm25 an25 cd25 ct25), sl25⟩) (c25 : PySem.W.codeIn K cd25 "joint_divisor" = true) (k25 : PySem.W.keepIn K (.ref f25) = true)
    (a26 : PySem.W.nsIn K mainGlobals "joint_middle" = some (some (.ref f26))) (l26 : K.lookup f26 = some ⟨oc26, od26, .func (PySem.W.fnOf "joint_middle" "joint_middle" (defArgs s_joint_middle) (defBody s_joint_middle) (defScope s_joint_middle) .none kV26 dc26 pm26 an26 cd26 ct26), sl26⟩) (c26 : PySem.W.codeIn K cd26 "joint_middle" = true) (k26 : PySem.W.keepIn K (.ref f26) = true)
    (a27 : PySem.W.nsIn K mainGlobals "joint_rows" = some (some (.ref f27))) (l27 : K.lookup f27 = some ⟨oc27, od27, .func (PySem.W.fnOf "joint_rows" "joint_rows" (defArgs s_joint_rows) (defBody s_joint_rows) (defScope s_joint_rows) .none kV27 dc27 pm27 an27 cd27 ct27), sl27⟩) (c27 : PySem.W.codeIn K cd27 "joint_rows" = true) (k27 : PySem.W.keepIn K (.ref f27) = true)
    (a28 : PySem.W.nsIn K mainGlobals "joined_whole" = some (some (.ref f28))) (l28 : K.lookup f28 = some ⟨oc28, od28, .func (PySem.W.fnOf "joined_whole" "joined_whole" (defArgs s_joined_whole) (defBody s_joined_whole) (defScope s_joined_whole) .none kV28 dc28 pm28 an28 cd28 ct28), sl28⟩) (c28 : PySem.W.codeIn K cd28 "joined_whole" = true) (k28 : PySem.W.keepIn K (.ref f28) = true)
    (a29 : PySem.W.nsIn K mainGlobals "joined" = some (some (.ref f29))) (l29 : K.lookup f29 = some ⟨oc29, od29, .func (PySem.W.fnOf "joined" "joined" (defArgs s_joined) (defBody s_joined) (defScope s_joined) .none kV29 dc29 pm29 an29 cd29 ct29), sl29⟩) (c29 : PySem.W.codeIn K cd29 "joined" = true) (k29 : PySem.W.keepIn K (.ref f29) = true)
    (a30 : PySem.W.nsIn K mainGlobals "neutral" = some (some (.ref f30))) (l30 : K.lookup f30 = some ⟨oc30, od30, .func (PySem.W.fnOf "neutral" "neutral" (defArgs s_neutral) (defBody s_neutral) (defScope s_neutral) .none kV30 dc30 pm30 an30 cd30 ct30), sl30⟩) (c30 : PySem.W.codeIn K cd30 "neutral" = true) (k30 : PySem.W.keepIn K (.ref f30) = true)
    (a31 : PySem.W.nsIn K mainGlobals "round_of_class" = some (some (.ref f31))) (l31 : K.lookup f31 = some ⟨oc31, od31, .func (PySem.W.fnOf "round_of_class" "round_of_class" (defArgs s_round_of_class) (defBody s_round_of_class) (defScope s_round_of_class) .none kV31 dc31 pm31 an31 cd31 ct31), sl31⟩) (c31 : PySem.W.codeIn K cd31 "round_of_class" = true) (k31 : PySem.W.keepIn K (.ref f31) = true)
    (a32 : PySem.W.nsIn K mainGlobals "round_of" = some (some (.ref f32))) (l32 : K.lookup f32 = some ⟨oc32, od32, .func (PySem.W.fnOf "round_of" "round_of" (defArgs s_round_of) (defBody s_round_of) (defScope s_round_of) .none kV32 dc32 pm32 an32 cd32 ct32), sl32⟩) (c32 : PySem.W.codeIn K cd32 "round_of" = true) (k32 : PySem.W.keepIn K (.ref f32) = true)
    (a33 : PySem.W.nsIn K mainGlobals "number_written" = some (some (.ref f33))) (l33 : K.lookup f33 = some ⟨oc33, od33, .func (PySem.W.fnOf "number_written" "number_written" (defArgs s_number_written) (defBody s_number_written) (defScope s_number_written) .none kV33 dc33 pm33 an33 cd33 ct33), sl33⟩) (c33 : PySem.W.codeIn K cd33 "number_written" = true) (k33 : PySem.W.keepIn K (.ref f33) = true)
    (a34 : PySem.W.nsIn K mainGlobals "written" = some (some (.ref f34))) (l34 : K.lookup f34 = some ⟨oc34, od34, .func (PySem.W.fnOf "written" "written" (defArgs s_written) (defBody s_written) (defScope s_written) .none kV34 dc34 pm34 an34 cd34 ct34), sl34⟩) (c34 : PySem.W.codeIn K cd34 "written" = true) (k34 : PySem.W.keepIn K (.ref f34) = true)
    (a35 : PySem.W.nsIn K mainGlobals "require_so_many" = some (some (.ref f35))) (l35 : K.lookup f35 = some ⟨oc35, od35, .func (PySem.W.fnOf "require_so_many" "require_so_many" (defArgs s_require_so_many) (defBody s_require_so_many) (defScope s_require_so_many) .none kV35 dc35 pm35 an35 cd35 ct35), sl35⟩) (c35 : PySem.W.codeIn K cd35 "require_so_many" = true) (k35 : PySem.W.keepIn K (.ref f35) = true)
    (a36 : PySem.W.nsIn K mainGlobals "_law_cell_at" = some (some (.ref f36))) (l36 : K.lookup f36 = some ⟨oc36, od36, .func (PySem.W.fnOf "_law_cell_at" "_law_cell_at" (defArgs s_law_cell_at) (defBody s_law_cell_at) (defScope s_law_cell_at) .none kV36 dc36 pm36 an36 cd36 ct36), sl36⟩) (c36 : PySem.W.codeIn K cd36 "_law_cell_at" = true) (k36 : PySem.W.keepIn K (.ref f36) = true)
    (a37 : PySem.W.nsIn K mainGlobals "_law_divisor" = some (some (.ref f37))) (l37 : K.lookup f37 = some ⟨oc37, od37, .func (PySem.W.fnOf "_law_divisor" "_law_divisor" (defArgs s_law_divisor) (defBody s_law_divisor) (defScope s_law_divisor) .none kV37 dc37 pm37 an37 cd37 ct37), sl37⟩) (c37 : PySem.W.codeIn K cd37 "_law_divisor" = true) (k37 : PySem.W.keepIn K (.ref f37) = true)
    (a38 : PySem.W.nsIn K mainGlobals "_law_wide" = some (some (.ref f38))) (l38 : K.lookup f38 = some ⟨oc38, od38, .func (PySem.W.fnOf "_law_wide" "_law_wide" (defArgs s_law_wide) (defBody s_law_wide) (defScope s_law_wide) .none kV38 dc38 pm38 an38 cd38 ct38), sl38⟩) (c38 : PySem.W.codeIn K cd38 "_law_wide" = true) (k38 : PySem.W.keepIn K (.ref f38) = true)
    (a39 : PySem.W.nsIn K mainGlobals "_law_says" = some (some (.ref f39))) (l39 : K.lookup f39 = some ⟨oc39, od39, .func (PySem.W.fnOf "_law_says" "_law_says" (defArgs s_law_says) (defBody s_law_says) (defScope s_law_says) .none kV39 dc39 pm39 an39 cd39 ct39), sl39⟩) (c39 : PySem.W.codeIn K cd39 "_law_says" = true) (k39 : PySem.W.keepIn K (.ref f39) = true)
    (a40 : PySem.W.nsIn K mainGlobals "law" = some (some (.ref f40))) (l40 : K.lookup f40 = some ⟨oc40, od40, .func (PySem.W.fnOf "law" "law" (defArgs s_law) (defBody s_law) (defScope s_law) .none kV40 dc40 pm40 an40 cd40 ct40), sl40⟩) (c40 : PySem.W.codeIn K cd40 "law" = true) (k40 : PySem.W.keepIn K (.ref f40) = true)
    (a41 : PySem.W.findIn K (.ref C0) "__init__" = some (some (.ref f41))) (l41 : K.lookup f41 = some ⟨oc41, od41, .func (PySem.W.fnOf "__init__" "Question.__init__" (defArgs s_Question_init) (defBody s_Question_init) (defScope s_Question_init) .none kV41 dc41 pm41 an41 cd41 ct41), sl41⟩) (c41 : PySem.W.codeIn K cd41 "Question.__init__" = true) (k41 : PySem.W.keepIn K (.ref f41) = true) (y41 : PySem.W.isFn K (.ref f41) = true)
    (a42 : PySem.W.findIn K (.ref C0) "told" = some (some (.ref f42))) (l42 : K.lookup f42 = some ⟨oc42, od42, .func (PySem.W.fnOf "told" "Question.told" (defArgs s_Question_told) (defBody s_Question_told) (defScope s_Question_told) .none kV42 dc42 pm42 an42 cd42 ct42), sl42⟩) (c42 : PySem.W.codeIn K cd42 "Question.told" = true) (k42 : PySem.W.keepIn K (.ref f42) = true) (y42 : PySem.W.isFn K (.ref f42) = true)
    (a43 : PySem.W.findIn K (.ref C0) "line" = some (some (.ref f43))) (l43 : K.lookup f43 = some ⟨oc43, od43, .func (PySem.W.fnOf "line" "Question.line" (defArgs s_Question_line) (defBody s_Question_line) (defScope s_Question_line) .none kV43 dc43 pm43 an43 cd43 ct43), sl43⟩) (c43 : PySem.W.codeIn K cd43 "Question.line" = true) (k43 : PySem.W.keepIn K (.ref f43) = true) (y43 : PySem.W.isFn K (.ref f43) = true)
    (a44 : PySem.W.findIn K (.ref C1) "told" = some (some (.ref f44))) (l44 : K.lookup f44 = some ⟨oc44, od44, .func (PySem.W.fnOf "told" "LeastQuestion.told" (defArgs s_LeastQuestion_told) (defBody s_LeastQuestion_told) (defScope s_LeastQuestion_told) .none kV44 dc44 pm44 an44 cd44 ct44), sl44⟩) (c44 : PySem.W.codeIn K cd44 "LeastQuestion.told" = true) (k44 : PySem.W.keepIn K (.ref f44) = true) (y44 : PySem.W.isFn K (.ref f44) = true)
    (a45 : PySem.W.findIn K (.ref C2) "told" = some (some (.ref f45))) (l45 : K.lookup f45 = some ⟨oc45, od45, .func (PySem.W.fnOf "told" "RoundQuestion.told" (defArgs s_RoundQuestion_told) (defBody s_RoundQuestion_told) (defScope s_RoundQuestion_told) .none kV45 dc45 pm45 an45 cd45 ct45), sl45⟩) (c45 : PySem.W.codeIn K cd45 "RoundQuestion.told" = true) (k45 : PySem.W.keepIn K (.ref f45) = true) (y45 : PySem.W.isFn K (.ref f45) = true)
    {gNO_TURN : Addr} {odNO_TURN : Option Addr} {nNO_TURN : Nat} {slNO_TURN : Array (Option Value)} {tNO_TURN0 tNO_TURN1 tNO_TURN2 tNO_TURN3 : Tok}
    (caNO_TURN : PySem.W.nsIn K mainGlobals "NO_TURN" = some (some (.ref gNO_TURN))) (clNO_TURN : K.lookup gNO_TURN = some ⟨.type "tuple", odNO_TURN, .seq #[.int (1 : Int) tNO_TURN0, .int (0 : Int) tNO_TURN1, .int (0 : Int) tNO_TURN2, .int (1 : Int) tNO_TURN3] nNO_TURN, slNO_TURN⟩)
    {tLOWEST_LISTED_BAR : Tok} (caLOWEST_LISTED_BAR : PySem.W.nsIn K mainGlobals "LOWEST_LISTED_BAR" = some (some (.int (-4000 : Int) tLOWEST_LISTED_BAR)))
    (hinit1 : PySem.W.findIn K (.ref C1) "__init__" = some (some (.ref f41)))
    (hinit2 : PySem.W.findIn K (.ref C2) "__init__" = some (some (.ref f41)))
    (hline1 : PySem.W.findIn K (.ref C1) "line" = some (some (.ref f43)))
    (hline2 : PySem.W.findIn K (.ref C2) "line" = some (some (.ref f43)))
    (r10 : PySem.W.mroIn K C1 (.ref C0) = some true)
    (r12 : PySem.W.mroIn K C1 (.ref C2) = some false)
    (r21 : PySem.W.mroIn K C2 (.ref C1) = some true)
    (r01 : PySem.W.mroIn K C0 (.ref C1) = some false)
    (w0 : PySem.W.typeIn K (.ref C0) = some (.type "type")) (v0 : PySem.W.mroIn K C0 (.ref C0) = some true)
    (w1 : PySem.W.typeIn K (.ref C1) = some (.type "type")) (v1 : PySem.W.mroIn K C1 (.ref C1) = some true)
    (w2 : PySem.W.typeIn K (.ref C2) = some (.type "type")) (v2 : PySem.W.mroIn K C2 (.ref C2) = some true)
    (z0 : PySem.W.nsIn K mainGlobals "abs" = some none) (z1 : PySem.W.nsIn K mainGlobals "all" = some none) (z2 : PySem.W.nsIn K mainGlobals "any" = some none) (z3 : PySem.W.nsIn K mainGlobals "bool" = some none) (z4 : PySem.W.nsIn K mainGlobals "dict" = some none) (z5 : PySem.W.nsIn K mainGlobals "enumerate" = some none) (z6 : PySem.W.nsIn K mainGlobals "int" = some none) (z7 : PySem.W.nsIn K mainGlobals "isinstance" = some none) (z8 : PySem.W.nsIn K mainGlobals "len" = some none) (z9 : PySem.W.nsIn K mainGlobals "list" = some none) (z10 : PySem.W.nsIn K mainGlobals "max" = some none) (z11 : PySem.W.nsIn K mainGlobals "min" = some none) (z12 : PySem.W.nsIn K mainGlobals "range" = some none) (z13 : PySem.W.nsIn K mainGlobals "reversed" = some none) (z14 : PySem.W.nsIn K mainGlobals "set" = some none) (z15 : PySem.W.nsIn K mainGlobals "sorted" = some none) (z16 : PySem.W.nsIn K mainGlobals "str" = some none) (z17 : PySem.W.nsIn K mainGlobals "sum" = some none) (z18 : PySem.W.nsIn K mainGlobals "tuple" = some none) (z19 : PySem.W.nsIn K mainGlobals "zip" = some none) :
    ∃ fd : FuncData, (∀ (s : Shared) (v : Value), BindsTo s fd ⟨[v], []⟩ [("_law_script", v)]) ∧ ∀ base : Heap, K.In base → base.Ns mainGlobals mg → FnOk l.prog w K mg base CX0 14 fa fd ["_law_script"] (SpD K p_law) := by
  have e := hfa.symm.trans (PySem.W.mg_of X G a40)
  cases e
  have T : Tx mg := ⟨PySem.W.mg_none_of X G z0, PySem.W.mg_none_of X G z1, PySem.W.mg_none_of X G z2, PySem.W.mg_none_of X G z3, PySem.W.mg_none_of X G z4, PySem.W.mg_none_of X G z5, PySem.W.mg_none_of X G z6, PySem.W.mg_none_of X G z7, PySem.W.mg_none_of X G z8, PySem.W.mg_none_of X G z9, PySem.W.mg_none_of X G z10, PySem.W.mg_none_of X G z11, PySem.W.mg_none_of X G z12, PySem.W.mg_none_of X G z13, PySem.W.mg_none_of X G z14, PySem.W.mg_none_of X G z15, PySem.W.mg_none_of X G z16, PySem.W.mg_none_of X G z17, PySem.W.mg_none_of X G z18, PySem.W.mg_none_of X G z19⟩
  have F0 := fun_mk (st := s_is_whole) l0 c0 k0
  have b0 := F0.binds (ps := ["value"]) fun _ _ _ _ _ _ us hl => match us, hl with | [_], _ => rfl
  have m0 := PySem.W.mg_of X G a0
  have F1 := fun_mk (st := s_is_whole_tuple) l1 c1 k1
  have b1 := F1.binds (ps := ["value", "length"]) fun _ _ _ _ _ _ us hl => match us, hl with | [_, _], _ => rfl
  have m1 := PySem.W.mg_of X G a1
  have F2 := fun_mk (st := s_is_bar) l2 c2 k2
  have b2 := F2.binds (ps := ["value"]) fun _ _ _ _ _ _ us hl => match us, hl with | [_], _ => rfl
  have m2 := PySem.W.mg_of X G a2
  have F3 := fun_mk (st := s_require_bar) l3 c3 k3
  have b3 := F3.binds (ps := ["value"]) fun _ _ _ _ _ _ us hl => match us, hl with | [_], _ => rfl
  have m3 := PySem.W.mg_of X G a3
  have F4 := fun_mk (st := s_require_bar_from) l4 c4 k4
  have b4 := F4.binds (ps := ["value", "lowest"]) fun _ _ _ _ _ _ us hl => match us, hl with | [_, _], _ => rfl
  have m4 := PySem.W.mg_of X G a4
  have F5 := fun_mk (st := s_require_whole) l5 c5 k5
  have b5 := F5.binds (ps := ["value"]) fun _ _ _ _ _ _ us hl => match us, hl with | [_], _ => rfl
  have m5 := PySem.W.mg_of X G a5
  have F6 := fun_mk (st := s_common_divisor) l6 c6 k6
  have b6 := F6.binds (ps := ["one", "other"]) fun _ _ _ _ _ _ us hl => match us, hl with | [_, _], _ => rfl
  have m6 := PySem.W.mg_of X G a6
  have F7 := fun_mk (st := s_divisor_with_shares) l7 c7 k7
  have b7 := F7.binds (ps := ["one", "other"]) fun _ _ _ _ _ _ us hl => match us, hl with | [_, _], _ => rfl
  have m7 := PySem.W.mg_of X G a7
  have F8 := fun_mk (st := s_bar_of_numbers) l8 c8 k8
  have b8 := F8.binds (ps := ["a", "b", "c"]) fun _ _ _ _ _ _ us hl => match us, hl with | [_, _, _], _ => rfl
  have m8 := PySem.W.mg_of X G a8
  have F9 := fun_mk (st := s_is_form) l9 c9 k9
  have b9 := F9.binds (ps := ["value"]) fun _ _ _ _ _ _ us hl => match us, hl with | [_], _ => rfl
  have m9 := PySem.W.mg_of X G a9
  have F10 := fun_mk (st := s_require_form) l10 c10 k10
  have b10 := F10.binds (ps := ["value"]) fun _ _ _ _ _ _ us hl => match us, hl with | [_], _ => rfl
  have m10 := PySem.W.mg_of X G a10
  have F11 := fun_mk (st := s_bar_of) l11 c11 k11
  have b11 := F11.binds (ps := ["form"]) fun _ _ _ _ _ _ us hl => match us, hl with | [_], _ => rfl
  have m11 := PySem.W.mg_of X G a11
  have F12 := fun_mk (st := s_is_bare) l12 c12 k12
  have b12 := F12.binds (ps := ["form"]) fun _ _ _ _ _ _ us hl => match us, hl with | [_], _ => rfl
  have m12 := PySem.W.mg_of X G a12
  have F13 := fun_mk (st := s_is_turning) l13 c13 k13
  have b13 := F13.binds (ps := ["value"]) fun _ _ _ _ _ _ us hl => match us, hl with | [_], _ => rfl
  have m13 := PySem.W.mg_of X G a13
  have F14 := fun_mk (st := s_require_turning) l14 c14 k14
  have b14 := F14.binds (ps := ["value"]) fun _ _ _ _ _ _ us hl => match us, hl with | [_], _ => rfl
  have m14 := PySem.W.mg_of X G a14
  have F15 := fun_mk (st := s_sent) l15 c15 k15
  have b15 := F15.binds (ps := ["turning", "place"]) fun _ _ _ _ _ _ us hl => match us, hl with | [_, _], _ => rfl
  have m15 := PySem.W.mg_of X G a15
  have F16 := fun_mk (st := s_way_back) l16 c16 k16
  have b16 := F16.binds (ps := ["turning"]) fun _ _ _ _ _ _ us hl => match us, hl with | [_], _ => rfl
  have m16 := PySem.W.mg_of X G a16
  have F17 := fun_mk (st := s_stepped) l17 c17 k17
  have b17 := F17.binds (ps := ["form", "step"]) fun _ _ _ _ _ _ us hl => match us, hl with | [_, _], _ => rfl
  have m17 := PySem.W.mg_of X G a17
  have F18 := fun_mk (st := s_behind_step) l18 c18 k18
  have b18 := F18.binds (ps := ["turning", "step"]) fun _ _ _ _ _ _ us hl => match us, hl with | [_, _], _ => rfl
  have m18 := PySem.W.mg_of X G a18
  have F19 := fun_mk (st := s_swapped) l19 c19 k19
  have b19 := F19.binds (ps := ["form"]) fun _ _ _ _ _ _ us hl => match us, hl with | [_], _ => rfl
  have m19 := PySem.W.mg_of X G a19
  have F20 := fun_mk (st := s_behind_swap) l20 c20 k20
  have b20 := F20.binds (ps := ["turning"]) fun _ _ _ _ _ _ us hl => match us, hl with | [_], _ => rfl
  have m20 := PySem.W.mg_of X G a20
  have F21 := fun_mk (st := s_step_to_middle) l21 c21 k21
  have b21 := F21.binds (ps := ["form"]) fun _ _ _ _ _ _ us hl => match us, hl with | [_], _ => rfl
  have m21 := PySem.W.mg_of X G a21
  have F22 := fun_mk (st := s_least_of) l22 c22 k22
  have b22 := F22.binds (ps := ["form"]) fun _ _ _ _ _ _ us hl => match us, hl with | [_], _ => rfl
  have m22 := PySem.W.mg_of X G a22
  have F23 := fun_mk (st := s_require_bare) l23 c23 k23
  have b23 := F23.binds (ps := ["form"]) fun _ _ _ _ _ _ us hl => match us, hl with | [_], _ => rfl
  have m23 := PySem.W.mg_of X G a23
  have F24 := fun_mk (st := s_require_same_bar) l24 c24 k24
  have b24 := F24.binds (ps := ["one", "other"]) fun _ _ _ _ _ _ us hl => match us, hl with | [_, _], _ => rfl
  have m24 := PySem.W.mg_of X G a24
  have F25 := fun_mk (st := s_joint_divisor) l25 c25 k25
  have b25 := F25.binds (ps := ["one", "other"]) fun _ _ _ _ _ _ us hl => match us, hl with | [_, _], _ => rfl
  have m25 := PySem.W.mg_of X G a25
  have F26 := fun_mk (st := s_joint_middle) l26 c26 k26
  have b26 := F26.binds (ps := ["one", "other", "shares"]) fun _ _ _ _ _ _ us hl => match us, hl with | [_, _, _], _ => rfl
  have m26 := PySem.W.mg_of X G a26
  have F27 := fun_mk (st := s_joint_rows) l27 c27 k27
  have b27 := F27.binds (ps := ["one", "other", "divisor", "middle"]) fun _ _ _ _ _ _ us hl => match us, hl with | [_, _, _, _], _ => rfl
  have m27 := PySem.W.mg_of X G a27
  have F28 := fun_mk (st := s_joined_whole) l28 c28 k28
  have b28 := F28.binds (ps := ["one", "other"]) fun _ _ _ _ _ _ us hl => match us, hl with | [_, _], _ => rfl
  have m28 := PySem.W.mg_of X G a28
  have F29 := fun_mk (st := s_joined) l29 c29 k29
  have b29 := F29.binds (ps := ["one", "other"]) fun _ _ _ _ _ _ us hl => match us, hl with | [_, _], _ => rfl
  have m29 := PySem.W.mg_of X G a29
  have F30 := fun_mk (st := s_neutral) l30 c30 k30
  have b30 := F30.binds (ps := ["bar"]) fun _ _ _ _ _ _ us hl => match us, hl with | [_], _ => rfl
  have m30 := PySem.W.mg_of X G a30
  have F31 := fun_mk (st := s_round_of_class) l31 c31 k31
  have b31 := F31.binds (ps := ["form"]) fun _ _ _ _ _ _ us hl => match us, hl with | [_], _ => rfl
  have m31 := PySem.W.mg_of X G a31
  have F32 := fun_mk (st := s_round_of) l32 c32 k32
  have b32 := F32.binds (ps := ["form"]) fun _ _ _ _ _ _ us hl => match us, hl with | [_], _ => rfl
  have m32 := PySem.W.mg_of X G a32
  have F33 := fun_mk (st := s_number_written) l33 c33 k33
  have b33 := F33.binds (ps := ["number"]) fun _ _ _ _ _ _ us hl => match us, hl with | [_], _ => rfl
  have m33 := PySem.W.mg_of X G a33
  have F34 := fun_mk (st := s_written) l34 c34 k34
  have b34 := F34.binds (ps := ["form"]) fun _ _ _ _ _ _ us hl => match us, hl with | [_], _ => rfl
  have m34 := PySem.W.mg_of X G a34
  have F35 := fun_mk (st := s_require_so_many) l35 c35 k35
  have b35 := F35.binds (ps := ["forms", "least"]) fun _ _ _ _ _ _ us hl => match us, hl with | [_, _], _ => rfl
  have m35 := PySem.W.mg_of X G a35
  have F36 := fun_mk (st := s_law_cell_at) l36 c36 k36
  have b36 := F36.binds (ps := ["_law_script", "_law_k"]) fun _ _ _ _ _ _ us hl => match us, hl with | [_, _], _ => rfl
  have m36 := PySem.W.mg_of X G a36
  have F37 := fun_mk (st := s_law_divisor) l37 c37 k37
  have b37 := F37.binds (ps := ["_law_one", "_law_other"]) fun _ _ _ _ _ _ us hl => match us, hl with | [_, _], _ => rfl
  have m37 := PySem.W.mg_of X G a37
  have F38 := fun_mk (st := s_law_wide) l38 c38 k38
  have b38 := F38.binds (ps := ["_law_text", "_law_width"]) fun _ _ _ _ _ _ us hl => match us, hl with | [_, _], _ => rfl
  have m38 := PySem.W.mg_of X G a38
  have F39 := fun_mk (st := s_law_says) l39 c39 k39
  have b39 := F39.binds (ps := ["_law_question", "_law_due", "_law_width"]) fun _ _ _ _ _ _ us hl => match us, hl with | [_, _, _], _ => rfl
  have m39 := PySem.W.mg_of X G a39
  have F40 := fun_mk (st := s_law) l40 c40 k40
  have b40 := F40.binds (ps := ["_law_script"]) fun _ _ _ _ _ _ us hl => match us, hl with | [_], _ => rfl
  have m40 := PySem.W.mg_of X G a40
  have F41 := fun_mk (st := s_Question_init) l41 c41 k41
  have b41 := F41.binds (ps := ["self", "forms"]) fun _ _ _ _ _ _ us hl => match us, hl with | [_, _], _ => rfl
  have F42 := fun_mk (st := s_Question_told) l42 c42 k42
  have b42 := F42.binds (ps := ["self"]) fun _ _ _ _ _ _ us hl => match us, hl with | [_], _ => rfl
  have F43 := fun_mk (st := s_Question_line) l43 c43 k43
  have b43 := F43.binds (ps := ["self", "width"]) fun _ _ _ _ _ _ us hl => match us, hl with | [_, _], _ => rfl
  have F44 := fun_mk (st := s_LeastQuestion_told) l44 c44 k44
  have b44 := F44.binds (ps := ["self"]) fun _ _ _ _ _ _ us hl => match us, hl with | [_], _ => rfl
  have F45 := fun_mk (st := s_RoundQuestion_told) l45 c45 k45
  have b45 := F45.binds (ps := ["self"]) fun _ _ _ _ _ _ us hl => match us, hl with | [_], _ => rfl
  refine ⟨PySem.W.fnOf "law" "law" (defArgs s_law) (defBody s_law) (defScope s_law) .none kV40 dc40 pm40 an40 cd40 ct40, fun s v => .of_eq rfl, fun base _ _ => ?_⟩
  have C_NO_TURN : Con K mg "NO_TURN" (.kt [.int (1 : Int), .int (0 : Int), .int (0 : Int), .int (1 : Int)]) := con_tup (ns := [(1 : Int), (0 : Int), (0 : Int), (1 : Int)]) (PySem.W.mg_of X G caNO_TURN) clNO_TURN (.cons (.cons (.cons (.cons .nil)))) (Nat.le_of_ble_eq_true rfl)
  have C_LOWEST_LISTED_BAR : Con K mg "LOWEST_LISTED_BAR" (.int (-4000 : Int)) := con_int (PySem.W.mg_of X G caLOWEST_LISTED_BAR)
  have Q0 : QCl K C0 := ⟨⟨qa0, qb0, qc0, qd0⟩, qe0⟩
  have J0 : FL.Isi K C0 := ⟨qf0, qg0, qh0, qi0⟩
  have gm0 := PySem.W.mg_of X G g0
  have Q1 : QCl K C1 := ⟨⟨qa1, qb1, qc1, qd1⟩, qe1⟩
  have J1 : FL.Isi K C1 := ⟨qf1, qg1, qh1, qi1⟩
  have gm1 := PySem.W.mg_of X G g1
  have Q2 : QCl K C2 := ⟨⟨qa2, qb2, qc2, qd2⟩, qe2⟩
  have J2 : FL.Isi K C2 := ⟨qf2, qg2, qh2, qi2⟩
  have gm2 := PySem.W.mg_of X G g2
  have t10 := kit_t r10 qi0 w0
  have t12 := kit_f v1 r12 qi2 w2
  have t21 := kit_t r21 qi1 w1
  have t01 := kit_f v0 r01 qi1 w1
  have G_is_whole := ok_is_whole (P := l.prog) (w := w) (base := base) T F0 m0 b0
  have G_is_whole_tuple := ok_is_whole_tuple (P := l.prog) (w := w) (base := base) T G_is_whole F1 m1 b1
  have G_is_bar := ok_is_bar (P := l.prog) (w := w) (base := base) G_is_whole F2 m2 b2
  have G_require_bar := ok_require_bar (P := l.prog) (w := w) (base := base) G_is_bar F3 m3 b3
  have G_require_bar_from := ok_require_bar_from (P := l.prog) (w := w) (base := base) G_require_bar F4 m4 b4
  have G_require_whole := ok_require_whole (P := l.prog) (w := w) (base := base) G_is_whole F5 m5 b5
  have G_common_divisor := ok_common_divisor (P := l.prog) (w := w) (base := base) T F6 m6 b6
  have G_divisor_with_shares := ok_divisor_with_shares (P := l.prog) (w := w) (base := base)  F7 m7 b7
  have G_bar_of_numbers := ok_bar_of_numbers (P := l.prog) (w := w) (base := base)  F8 m8 b8
  have G_is_form := ok_is_form (P := l.prog) (w := w) (base := base) G_is_whole_tuple G_bar_of_numbers F9 m9 b9
  have G_require_form := ok_require_form (P := l.prog) (w := w) (base := base) G_is_form F10 m10 b10
  have G_bar_of := ok_bar_of (P := l.prog) (w := w) (base := base) G_require_form G_bar_of_numbers F11 m11 b11
  have G_is_bare := ok_is_bare (P := l.prog) (w := w) (base := base) G_require_form G_common_divisor F12 m12 b12
  have G_is_turning := ok_is_turning (P := l.prog) (w := w) (base := base) G_is_whole_tuple F13 m13 b13
  have G_require_turning := ok_require_turning (P := l.prog) (w := w) (base := base) G_is_turning F14 m14 b14
  have G_sent := ok_sent (P := l.prog) (w := w) (base := base)  F15 m15 b15
  have G_way_back := ok_way_back (P := l.prog) (w := w) (base := base) G_require_turning F16 m16 b16
  have G_stepped := ok_stepped (P := l.prog) (w := w) (base := base)  F17 m17 b17
  have G_behind_step := ok_behind_step (P := l.prog) (w := w) (base := base)  F18 m18 b18
  have G_swapped := ok_swapped (P := l.prog) (w := w) (base := base)  F19 m19 b19
  have G_behind_swap := ok_behind_swap (P := l.prog) (w := w) (base := base)  F20 m20 b20
  have G_step_to_middle := ok_step_to_middle (P := l.prog) (w := w) (base := base)  F21 m21 b21
  have G_least_of := ok_least_of (P := l.prog) (w := w) (base := base) G_require_form G_step_to_middle G_stepped G_behind_step G_swapped G_behind_swap C_NO_TURN F22 m22 b22
  have G_require_bare := ok_require_bare (P := l.prog) (w := w) (base := base) G_is_bare F23 m23 b23
  have G_require_same_bar := ok_require_same_bar (P := l.prog) (w := w) (base := base) G_bar_of F24 m24 b24
  have G_joint_divisor := ok_joint_divisor (P := l.prog) (w := w) (base := base) G_divisor_with_shares F25 m25 b25
  have G_joint_middle := ok_joint_middle (P := l.prog) (w := w) (base := base) G_bar_of F26 m26 b26
  have G_joint_rows := ok_joint_rows (P := l.prog) (w := w) (base := base) G_bar_of F27 m27 b27
  have G_joined_whole := ok_joined_whole (P := l.prog) (w := w) (base := base) T G_bar_of G_joint_divisor G_joint_middle G_joint_rows G_least_of G_way_back G_sent F28 m28 b28
  have G_joined := ok_joined (P := l.prog) (w := w) (base := base) G_require_form G_require_same_bar G_require_bare G_joined_whole F29 m29 b29
  have G_neutral := ok_neutral (P := l.prog) (w := w) (base := base) G_require_bar F30 m30 b30
  have G_round_of_class := ok_round_of_class (P := l.prog) (w := w) (base := base) G_bar_of G_neutral G_joined F31 m31 b31
  have G_round_of := ok_round_of (P := l.prog) (w := w) (base := base) G_require_form G_bar_of G_require_bar_from G_require_bare G_least_of G_round_of_class C_LOWEST_LISTED_BAR F32 m32 b32
  have G_number_written := ok_number_written (P := l.prog) (w := w) (base := base) T F33 m33 b33
  have G_written := ok_written (P := l.prog) (w := w) (base := base) G_require_form G_number_written F34 m34 b34
  have G_require_so_many := ok_require_so_many (P := l.prog) (w := w) (base := base) T F35 m35 b35
  have G_law_cell_at := ok_law_cell_at (P := l.prog) (w := w) (base := base) T F36 m36 b36
  have G_law_divisor := ok_law_divisor (P := l.prog) (w := w) (base := base) T F37 m37 b37
  have G_law_wide := ok_law_wide (P := l.prog) (w := w) (base := base) T F38 m38 b38
  have G_Question_init := ok_Question_init (P := l.prog) (w := w) (base := base) (mg := mg) T G_require_form F41
  have M0 : MkC l.prog w K mg base 5 "Question" C0 (p_init K) := ⟨_, _, _, ⟨qj0, a41, y41, qk0⟩, G_Question_init, gm0, b41⟩
  have M1 : MkC l.prog w K mg base 5 "LeastQuestion" C1 (p_init K) := ⟨_, _, _, ⟨qj1, hinit1, y41, qk1⟩, G_Question_init, gm1, b41⟩
  have M2 : MkC l.prog w K mg base 5 "RoundQuestion" C2 (p_init K) := ⟨_, _, _, ⟨qj2, hinit2, y41, qk2⟩, G_Question_init, gm2, b41⟩
  have G_Question_told := ok_Question_told (P := l.prog) (w := w) (base := base) (mg := mg) T F42
  have G_LeastQuestion_told := ok_LeastQuestion_told (P := l.prog) (w := w) (base := base) (mg := mg) G_require_so_many G_least_of G_written F44
  have G_RoundQuestion_told := ok_RoundQuestion_told (P := l.prog) (w := w) (base := base) (mg := mg) T G_require_so_many G_round_of G_written F45
  have Td : Tds l.prog w K mg base C0 C1 C2 := ⟨⟨Q0.cl, _, _, _, ⟨a42, y42, k42⟩, G_Question_told, b42⟩, ⟨Q1.cl, _, _, _, ⟨a44, y44, k44⟩, G_LeastQuestion_told, b44⟩, ⟨Q2.cl, _, _, _, ⟨a45, y45, k45⟩, G_RoundQuestion_told, b45⟩⟩
  have G_Question_line := ok_Question_line (P := l.prog) (w := w) (base := base) (mg := mg) Td G_require_whole F43
  have Ln : Lns l.prog w K mg base C0 C1 C2 := by
    rintro C (rfl | rfl | rfl)
    · exact ⟨Q0.cl, _, _, _, ⟨a43, y43, k43⟩, G_Question_line, b43⟩
    · exact ⟨Q1.cl, _, _, _, ⟨hline1, y43, k43⟩, G_Question_line, b43⟩
    · exact ⟨Q2.cl, _, _, _, ⟨hline2, y43, k43⟩, G_Question_line, b43⟩
  have G_law_says := ok_law_says (P := l.prog) (w := w) (base := base) T Td Ln G_law_wide F39 m39 b39
  exact ok_law T G_law_cell_at G_law_divisor G_law_says G_least_of G_round_of M0 M1 M2 Q0 Q1 Q2 J0 J1 J2 gm0 gm1 gm2 t10 t12 t21 t01 F40
end K24
open PySem PySem.W PyProof.Rows
set_option maxRecDepth 100000 in
set_option maxHeartbeats 0 in
theorem PySem.Challenge.cw_formturn_k24_questions_holds : PySem.Challenge.rw_formturn_k24_questions.Holds := by
  w_on; o_law; k_head; (case hw => w_witness2)
  k_fill
  refine FL.walk_ofB (l := PySem.Challenge.rw_formturn_k24_questions) (n := 63) (k := 14) (x := "_law_script") (Pf := CM.p_law) rfl (by decide) rfl ⟨rfl, by decide, by decide⟩ (fun w h Y => PySem.W.kIn_of Y) ?F ?S
  case F =>
    intro w mg fa h KX G hmg
    refine' K24.all_mk KX G hmg ?zzg0 ?zzqa0 ?zzqb0 ?zzqc0 ?zzqd0 ?zzqe0 ?zzqf0 ?zzqg0 ?zzqh0 ?zzqi0 ?zzqj0 ?zzqk0 ?zzg1 ?zzqa1 ?zzqb1 ?zzqc1 ?zzqd1 ?zzqe1 ?zzqf1 ?zzqg1 ?zzqh1 ?zzqi1 ?zzqj1 ?zzqk1 ?zzg2 ?zzqa2 ?zzqb2 ?zzqc2 ?zzqd2 ?zzqe2 ?zzqf2 ?zzqg2 ?zzqh2 ?zzqi2 ?zzqj2 ?zzqk2 ?a0 ?l0 ?c0 ?k0 ?a1 ?l1 ?c1 ?k1 ?a2 ?l2 ?c2 ?k2 ?a3 ?l3 ?c3 ?k3 ?a4 ?l4 ?c4 ?k4 ?a5 ?l5 ?c5 ?k5 ?a6 ?l6 ?c6 ?k6 ?a7 ?l7 ?c7 ?k7 ?a8 ?l8 ?c8 ?k8 ?a9 ?l9 ?c9 ?k9 ?a10 ?l10 ?c10 ?k10 ?a11 ?l11 ?c11 ?k11 ?a12 ?l12 ?c12 ?k12 ?a13 ?l13 ?c13 ?k13 ?a14 ?l14 ?c14 ?k14 ?a15 ?l15 ?c15 ?k15 ?a16 ?l16 ?c16 ?k16 ?a17 ?l17 ?c17 ?k17 ?a18 ?l18 ?c18 ?k18 ?a19 ?l19 ?c19 ?k19 ?a20 ?l20 ?c20 ?k20 ?a21 ?l21 ?c21 ?k21 ?a22 ?l22 ?c22 ?k22 ?a23 ?l23 ?c23 ?k23 ?a24 ?l24 ?c24 ?k24 ?a25 ?l25 ?c25 ?k25 ?a26 ?l26 ?c26 ?k26 ?a27 ?l27 ?c27 ?k27 ?a28 ?l28 ?c28 ?k28 ?a29 ?l29 ?c29 ?k29 ?a30 ?l30 ?c30 ?k30 ?a31 ?l31 ?c31 ?k31 ?a32 ?l32 ?c32 ?k32 ?a33 ?l33 ?c33 ?k33 ?a34 ?l34 ?c34 ?k34 ?a35 ?l35 ?c35 ?k35 ?a36 ?l36 ?c36 ?k36 ?a37 ?l37 ?c37 ?k37 ?a38 ?l38 ?c38 ?k38 ?a39 ?l39 ?c39 ?k39 ?a40 ?l40 ?c40 ?k40 ?a41 ?l41 ?c41 ?k41 ?y41 ?a42 ?l42 ?c42 ?k42 ?y42 ?a43 ?l43 ?c43 ?k43 ?y43 ?a44 ?l44 ?c44 ?k44 ?y44 ?a45 ?l45 ?c45 ?k45 ?y45 ?caNO_TURN ?clNO_TURN ?caLOWEST_LISTED_BAR ?zzhinit1 ?zzhinit2 ?zzhline1 ?zzhline2 ?zzr10 ?zzr12 ?zzr21 ?zzr01 ?zzw0 ?zzv0 ?zzw1 ?zzv1 ?zzw2 ?zzv2 ?z0 ?z1 ?z2 ?z3 ?z4 ?z5 ?z6 ?z7 ?z8 ?z9 ?z10 ?z11 ?z12 ?z13 ?z14 ?z15 ?z16 ?z17 ?z18 ?z19
    (case zzg0 => k_is)
    (case zzqa0 => k_is)
    (case zzqb0 => k_is)
    (case zzqc0 => k_is)
    (case zzqd0 => k_is)
    (case zzqe0 => k_is)
    (case zzqf0 => k_is)
    (case zzqg0 => k_is)
    (case zzqh0 => k_is)
    (case zzqi0 => k_is)
    (case zzqj0 => k_is)
    (case zzqk0 => k_is)
    (case zzg1 => k_is)
    (case zzqa1 => k_is)
    (case zzqb1 => k_is)
    (case zzqc1 => k_is)
    (case zzqd1 => k_is)
    (case zzqe1 => k_is)
    (case zzqf1 => k_is)
    (case zzqg1 => k_is)
    (case zzqh1 => k_is)
    (case zzqi1 => k_is)
    (case zzqj1 => k_is)
    (case zzqk1 => k_is)
    (case zzg2 => k_is)
    (case zzqa2 => k_is)
    (case zzqb2 => k_is)
    (case zzqc2 => k_is)
    (case zzqd2 => k_is)
    (case zzqe2 => k_is)
    (case zzqf2 => k_is)
    (case zzqg2 => k_is)
    (case zzqh2 => k_is)
    (case zzqi2 => k_is)
    (case zzqj2 => k_is)
    (case zzqk2 => k_is)
    (case a0 => k_is)
    (case l0 => k_is)
    (case c0 => k_is)
    (case k0 => k_is)
    (case a1 => k_is)
    (case l1 => k_is)
    (case c1 => k_is)
    (case k1 => k_is)
    (case a2 => k_is)
    (case l2 => k_is)
    (case c2 => k_is)
    (case k2 => k_is)
    (case a3 => k_is)
    (case l3 => k_is)
    (case c3 => k_is)
    (case k3 => k_is)
    (case a4 => k_is)
    (case l4 => k_is)
    (case c4 => k_is)
    (case k4 => k_is)
    (case a5 => k_is)
    (case l5 => k_is)
    (case c5 => k_is)
    (case k5 => k_is)
    (case a6 => k_is)
    (case l6 => k_is)
    (case c6 => k_is)
    (case k6 => k_is)
    (case a7 => k_is)
    (case l7 => k_is)
    (case c7 => k_is)
    (case k7 => k_is)
    (case a8 => k_is)
    (case l8 => k_is)
    (case c8 => k_is)
    (case k8 => k_is)
    (case a9 => k_is)
    (case l9 => k_is)
    (case c9 => k_is)
    (case k9 => k_is)
    (case a10 => k_is)
    (case l10 => k_is)
    (case c10 => k_is)
    (case k10 => k_is)
    (case a11 => k_is)
    (case l11 => k_is)
    (case c11 => k_is)
    (case k11 => k_is)
    (case a12 => k_is)
    (case l12 => k_is)
    (case c12 => k_is)
    (case k12 => k_is)
    (case a13 => k_is)
    (case l13 => k_is)
    (case c13 => k_is)
    (case k13 => k_is)
    (case a14 => k_is)
    (case l14 => k_is)
    (case c14 => k_is)
    (case k14 => k_is)
    (case a15 => k_is)
    (case l15 => k_is)
    (case c15 => k_is)
    (case k15 => k_is)
    (case a16 => k_is)
    (case l16 => k_is)
    (case c16 => k_is)
    (case k16 => k_is)
    (case a17 => k_is)
    (case l17 => k_is)
    (case c17 => k_is)
    (case k17 => k_is)
    (case a18 => k_is)
    (case l18 => k_is)
    (case c18 => k_is)
    (case k18 => k_is)
    (case a19 => k_is)
    (case l19 => k_is)
    (case c19 => k_is)
    (case k19 => k_is)
    (case a20 => k_is)
    (case l20 => k_is)
    (case c20 => k_is)
    (case k20 => k_is)
    (case a21 => k_is)
    (case l21 => k_is)
    (case c21 => k_is)
    (case k21 => k_is)
    (case a22 => k_is)
    (case l22 => k_is)
    (case c22 => k_is)
    (case k22 => k_is)
    (case a23 => k_is)
    (case l23 => k_is)
    (case c23 => k_is)
    (case k23 => k_is)
    (case a24 => k_is)
    (case l24 => k_is)
    (case c24 => k_is)
    (case k24 => k_is)
    (case a25 => k_is)
    (case l25 => k_is)
    (case c25 => k_is)
    (case k25 => k_is)
    (case a26 => k_is)
    (case l26 => k_is)
    (case c26 => k_is)
    (case k26 => k_is)
    (case a27 => k_is)
    (case l27 => k_is)
    (case c27 => k_is)
    (case k27 => k_is)
    (case a28 => k_is)
    (case l28 => k_is)
    (case c28 => k_is)
    (case k28 => k_is)
    (case a29 => k_is)
    (case l29 => k_is)
    (case c29 => k_is)
    (case k29 => k_is)
    (case a30 => k_is)
    (case l30 => k_is)
    (case c30 => k_is)
    (case k30 => k_is)
    (case a31 => k_is)
    (case l31 => k_is)
    (case c31 => k_is)
    (case k31 => k_is)
    (case a32 => k_is)
    (case l32 => k_is)
    (case c32 => k_is)
    (case k32 => k_is)
    (case a33 => k_is)
    (case l33 => k_is)
    (case c33 => k_is)
    (case k33 => k_is)
    (case a34 => k_is)
    (case l34 => k_is)
    (case c34 => k_is)
    (case k34 => k_is)
    (case a35 => k_is)
    (case l35 => k_is)
    (case c35 => k_is)
    (case k35 => k_is)
    (case a36 => k_is)
    (case l36 => k_is)
    (case c36 => k_is)
    (case k36 => k_is)
    (case a37 => k_is)
    (case l37 => k_is)
    (case c37 => k_is)
    (case k37 => k_is)
    (case a38 => k_is)
    (case l38 => k_is)
    (case c38 => k_is)
    (case k38 => k_is)
    (case a39 => k_is)
    (case l39 => k_is)
    (case c39 => k_is)
    (case k39 => k_is)
    (case a40 => k_is)
    (case l40 => k_is)
    (case c40 => k_is)
    (case k40 => k_is)
    (case a41 => k_is)
    (case l41 => k_is)
    (case c41 => k_is)
    (case k41 => k_is)
    (case y41 => k_is)
    (case a42 => k_is)
    (case l42 => k_is)
    (case c42 => k_is)
    (case k42 => k_is)
    (case y42 => k_is)
    (case a43 => k_is)
    (case l43 => k_is)
    (case c43 => k_is)
    (case k43 => k_is)
    (case y43 => k_is)
    (case a44 => k_is)
    (case l44 => k_is)
    (case c44 => k_is)
    (case k44 => k_is)
    (case y44 => k_is)
    (case a45 => k_is)
    (case l45 => k_is)
    (case c45 => k_is)
    (case k45 => k_is)
    (case y45 => k_is)
    (case caNO_TURN => k_is)
    (case clNO_TURN => k_is)
    (case caLOWEST_LISTED_BAR => k_is)
    (case zzhinit1 => k_is)
    (case zzhinit2 => k_is)
    (case zzhline1 => k_is)
    (case zzhline2 => k_is)
    (case zzr10 => k_is)
    (case zzr12 => k_is)
    (case zzr21 => k_is)
    (case zzr01 => k_is)
    (case zzw0 => k_is)
    (case zzv0 => k_is)
    (case zzw1 => k_is)
    (case zzv1 => k_is)
    (case zzw2 => k_is)
    (case zzv2 => k_is)
    (case z0 => k_is)
    (case z1 => k_is)
    (case z2 => k_is)
    (case z3 => k_is)
    (case z4 => k_is)
    (case z5 => k_is)
    (case z6 => k_is)
    (case z7 => k_is)
    (case z8 => k_is)
    (case z9 => k_is)
    (case z10 => k_is)
    (case z11 => k_is)
    (case z12 => k_is)
    (case z13 => k_is)
    (case z14 => k_is)
    (case z15 => k_is)
    (case z16 => k_is)
    (case z17 => k_is)
    (case z18 => k_is)
    (case z19 => k_is)
  case S => exact CM.law_sp
#print axioms PySem.Challenge.cw_formturn_k24_questions_holds
