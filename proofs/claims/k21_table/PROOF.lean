import PyProof.Rows.All
import Wide.All
import OpenK.AllK
import Wide.FinOn
import Lean
import PyProof.EqAt
import PyProof.EqKinds
import PyProof.TupleCall
import PySem.Challenge.RW_formturn_k21_table
set_option Elab.async false
set_option linter.all false
set_option maxRecDepth 100000
def PySem.W.Fast.tw11795367209810224877 : Unit := ()
def PySem.W.Fast.tw2189229029033560927 : Unit := ()
def PySem.W.Fast.tw8229150587092121267 : Unit := ()
def PySem.W.Fast.tw17158843284269499408 : Unit := ()
def PySem.W.Fast.tw11421165564596341610 : Unit := ()
def PySem.W.Fast.tw7103624163006106246 : Unit := ()
def PySem.W.Fast.tw16241404940661789150 : Unit := ()
def PySem.W.Fast.tw8384873161486354298 : Unit := ()
def PySem.W.Fast.tw942532675909989914 : Unit := ()
def PySem.W.Fast.tw12959540823489074681 : Unit := ()
def PySem.W.Fast.tw1918869665477531666 : Unit := ()
def PySem.W.Fast.tw7373230790869544622 : Unit := ()
def PySem.W.Fast.tw13787379250109647996 : Unit := ()
def PySem.W.Fast.tw12875809873725568531 : Unit := ()
def PySem.W.Fast.tw13347974726374366552 : Unit := ()
def PySem.W.Fast.tw11497019212399634506 : Unit := ()
def PySem.W.Fast.tw8070034489311873349 : Unit := ()
def PySem.W.Fast.tw2289859460926744132 : Unit := ()
def PySem.W.Fast.tw8217737423284620136 : Unit := ()
def PySem.W.Fast.tw165290968855841898 : Unit := ()
def PySem.W.Fast.tw15638919166521836607 : Unit := ()
def PySem.W.Fast.tw16048124822853668073 : Unit := ()
def PySem.W.Fast.tw17117349269335636197 : Unit := ()
def PySem.W.Fast.tw17530186496808713542 : Unit := ()
def PySem.W.Fast.tw17331703670607026691 : Unit := ()
def PySem.W.Fast.tw2566526617676111213 : Unit := ()
def PySem.W.Fast.tw14366348355452760411 : Unit := ()
def PySem.W.Fast.tw6537483989770324885 : Unit := ()
def PySem.W.Fast.tw11204820609067061734 : Unit := ()
def PySem.W.Fast.tw15626235734133983960 : Unit := ()
def PySem.W.Fast.tw11031539605822283796 : Unit := ()
def PySem.W.Fast.tw16275744770337271412 : Unit := ()
def PySem.W.Fast.tw7870677036915527297 : Unit := ()
def PySem.W.Fast.tw10873233561527983224 : Unit := ()
def PySem.W.Fast.tw14998520656813719753 : Unit := ()
def PySem.W.Fast.tw14590394516351817886 : Unit := ()
def PySem.W.Fast.tw7735789090283032769 : Unit := ()
def PySem.W.Fast.tw12568689079439294732 : Unit := ()
def PySem.W.Fast.tw15116954348323081874 : Unit := ()
def PySem.W.Fast.tw5823378128373089750 : Unit := ()
def PySem.W.Fast.tw8906569135411933675 : Unit := ()
def PySem.W.Fast.tw246661223576460067 : Unit := ()
def PySem.W.Fast.tw8744371467636896169 : Unit := ()
def PySem.W.Fast.tw6690086032789316294 : Unit := ()
def PySem.W.Fast.tw16818460287710051201 : Unit := ()
def PySem.W.Fast.tw7138410880344847981 : Unit := ()
def PySem.W.Fast.tw10423476666750905100 : Unit := ()
def PySem.W.Fast.tw9438446052132074618 : Unit := ()
def PySem.W.Fast.tw2073268655747528930 : Unit := ()
def PySem.W.Fast.tw14111737902205202813 : Unit := ()
def PySem.W.Fast.tw3484556428836428278 : Unit := ()
def PySem.W.Fast.tw18316421809207057027 : Unit := ()
def PySem.W.Fast.tw1172053029906857403 : Unit := ()
def PySem.W.Fast.tw7935223973053598686 : Unit := ()
def PySem.W.Fast.tw7567208914118006160 : Unit := ()
def PySem.W.Fast.tw2904920702607996841 : Unit := ()
def PySem.W.Fast.tw10126412431888908215 : Unit := ()
def PySem.W.Fast.tw16703475431697432437 : Unit := ()
def PySem.W.Fast.tw3822969720033714599 : Unit := ()
def PySem.W.Fast.tw16905862634047355258 : Unit := ()
def PySem.W.Fast.tw15020114670491045745 : Unit := ()
def PySem.W.Fast.tw4701277987505636754 : Unit := ()
def PySem.W.Fast.tw16109107411526725749 : Unit := ()
def PySem.W.Fast.tw14786505824764886182 : Unit := ()
def PySem.W.Fast.tw17278742418073464023 : Unit := ()
def PySem.W.Fast.tw5837352907307900451 : Unit := ()
def PySem.W.Fast.tw12863862667581465071 : Unit := ()
def PySem.W.Fast.tw10977927814370701560 : Unit := ()
def PySem.W.Fast.tw2270608129407570049 : Unit := ()
def PySem.W.Fast.tw947648726086465316 : Unit := ()
def PySem.W.Fast.tw9210580699505420013 : Unit := ()
def PySem.W.Fast.tw9774469362078758271 : Unit := ()
def PySem.W.Fast.tw14424077189598597468 : Unit := ()
def PySem.W.Fast.tw14040281384448340328 : Unit := ()
def PySem.W.Fast.tw12104142918973220581 : Unit := ()
def PySem.W.Fast.tw10574999491340957574 : Unit := ()
def PySem.W.Fast.tw18379667229035723573 : Unit := ()
def PySem.W.Fast.tw3289723947801542532 : Unit := ()
def PySem.W.Fast.tw12777940385996860784 : Unit := ()
def PySem.W.Fast.tw15962459728151557125 : Unit := ()
def PySem.W.Fast.tw8114522499699162749 : Unit := ()
def PySem.W.Fast.tw141712281589127490 : Unit := ()
def PySem.W.Fast.tw15844406267093485766 : Unit := ()
def PySem.W.Fast.tw15894112364097271865 : Unit := ()
def PySem.W.Fast.tw10654194977599590421 : Unit := ()
def PySem.W.Fast.tw6458278271154884162 : Unit := ()
def PySem.W.Fast.tw3923657539410677117 : Unit := ()
def PySem.W.Fast.tw2618618886032484635 : Unit := ()
def PySem.W.Fast.tw17108863028090568222 : Unit := ()
def PySem.W.Fast.tw5872044546635873487 : Unit := ()
def PySem.W.Fast.tw18337525412361005727 : Unit := ()
def PySem.W.Fast.tw3588169288934969463 : Unit := ()
def PySem.W.Fast.tw11871969561374542176 : Unit := ()
def PySem.W.Fast.tw4781311730105232603 : Unit := ()
def PySem.W.Fast.tw14625679443511711207 : Unit := ()
def PySem.W.Fast.tw9985649541551299899 : Unit := ()
def PySem.W.Fast.tw4963643840304117679 : Unit := ()
def PySem.W.Fast.tw12438352281362706456 : Unit := ()
def PySem.W.Fast.tw924373146331287743 : Unit := ()
def PySem.W.Fast.tw13971914428465927292 : Unit := ()
def PySem.W.Fast.tw1950384663791276327 : Unit := ()
def PySem.W.Fast.tw11379015656941149025 : Unit := ()
def PySem.W.Fast.tw15228943504836106005 : Unit := ()
def PySem.W.Fast.tw8773642680593245291 : Unit := ()
def PySem.W.Fast.tw5770824701053239643 : Unit := ()
def PySem.W.Fast.tw934473305924526258 : Unit := ()
def PySem.W.Fast.tw12452700022724334258 : Unit := ()
def PySem.W.Fast.tw13192605181363758930 : Unit := ()
def PySem.W.Fast.tw4003679950806828664 : Unit := ()
def PySem.W.Fast.tw11273846592591436164 : Unit := ()
def PySem.W.Fast.tw9112709379567438880 : Unit := ()
def PySem.W.Fast.tw7137817099479553467 : Unit := ()
def PySem.W.Fast.tw8226472391559885859 : Unit := ()
def PySem.W.Fast.tw541873819079529538 : Unit := ()
def PySem.W.Fast.tw9189382470980530184 : Unit := ()
def PySem.W.Fast.tw6371718917632581685 : Unit := ()
def PySem.W.Fast.tw16968493361372043908 : Unit := ()
def PySem.W.Fast.tw18009295509581876837 : Unit := ()
def PySem.W.Fast.tw7498480347197635936 : Unit := ()
def PySem.W.Fast.tw7035039921749784146 : Unit := ()
def PySem.W.Fast.tw216384322821415884 : Unit := ()
def PySem.W.Fast.tw10128375367484875393 : Unit := ()
def PySem.W.Fast.tw4652396260003007644 : Unit := ()
def PySem.W.Fast.tw18265885194479994678 : Unit := ()
def PySem.W.Fast.tw7295871792734898315 : Unit := ()
def PySem.W.Fast.tw8817912955209803489 : Unit := ()
def PySem.W.Fast.tw4722624087151390940 : Unit := ()
def PySem.W.Fast.tw13931796405457976412 : Unit := ()
def PySem.W.Fast.tw10126836748621184038 : Unit := ()
def PySem.W.Fast.tw16041946178720287682 : Unit := ()
def PySem.W.Fast.tw6854108370895386623 : Unit := ()
def PySem.W.Fast.tw15488425593886723873 : Unit := ()
def PySem.W.Fast.tw3319786191473747223 : Unit := ()
def PySem.W.Fast.tw5205513534743687644 : Unit := ()
def PySem.W.Fast.tw12354275793584971514 : Unit := ()
def PySem.W.Fast.tw11590891089001796781 : Unit := ()
def PySem.W.Fast.tw6936920033199357716 : Unit := ()
def PySem.W.Fast.tw9083811017339508545 : Unit := ()
def PySem.W.Fast.tw11335482267917107683 : Unit := ()
def PySem.W.Fast.tw11786763707078087464 : Unit := ()
def PySem.W.Fast.tw18386078968405958753 : Unit := ()
def PySem.W.Fast.tw17075761148554036235 : Unit := ()
def PySem.W.Fast.tw7732728454131841147 : Unit := ()
def PySem.W.Fast.tw7940924579533993260 : Unit := ()
namespace L2
open PySem PySem.Spec PyProof.Rows
abbrev Key := Sum Int Str
def keyIs : Key→Value→Bool
  | .inl k,v => Value.isInt k v
  | .inr x,v => Value.isStrOf x v
def keyH (w : World) : Key→Int
  | .inl k => hashInt k
  | .inr x => hashStr w x
theorem keyIs_shape : ∀ {k : Key} {v : Value},keyIs k v = true→(∃ i t,k = Sum.inl i∧v = Value.int i t)∨(∃ x t,k = Sum.inr x∧v = Value.str x t)
  | .inl i,v,h => by
    obtain ⟨t,e⟩ := Value.isInt_shape (k := i) (v := v) h
    exact .inl ⟨i,t,rfl,e⟩
  | .inr x,v,h => by
    obtain ⟨t,e⟩ := Value.isStrOf_shape (x := x) (v := v) h
    exact .inr ⟨x,t,rfl,e⟩
theorem keyIs_int (i : Int) (t : Tok) : keyIs (.inl i) (.int i t) = true := by simp [keyIs,Value.isInt]
theorem keyIs_str (x : Str) (t : Tok) : keyIs (.inr x) (.str x t) = true := by simp [keyIs,Value.isStrOf]
theorem key_ll (a b : Int) : decide ((Sum.inl a : Key) = Sum.inl b) = (a == b) := by
  by_cases e : a = b
  · subst e; simp
  · have h : ¬ (Sum.inl a : Key) = Sum.inl b := λ q => e (Sum.inl.inj q)
    rw [decide_eq_false h]
    exact (beq_eq_false_iff_ne.mpr e).symm
theorem key_rr (a b : Str) : decide ((Sum.inr a : Key) = Sum.inr b) = decide (a = b) := by
  by_cases e : a = b
  · subst e; simp
  · have h : ¬ (Sum.inr a : Key) = Sum.inr b := λ q => e (Sum.inr.inj q)
    rw [decide_eq_false h,decide_eq_false e]
theorem key_lr (a : Int) (b : Str) : decide ((Sum.inl a : Key) = Sum.inr b) = false := decide_eq_false (λ q => nomatch q)
theorem key_rl (a : Str) (b : Int) : decide ((Sum.inr a : Key) = Sum.inl b) = false := decide_eq_false (λ q => nomatch q)
def mixKind (prog : Program) (w : World) : PySem.KeyKind prog w Key where
  is := keyIs
  hash := keyH w
  inj := λ v a b ha hb => by
    rcases keyIs_shape ha with ⟨i,t,rfl,rfl⟩ | ⟨x,t,rfl,rfl⟩
    · rcases keyIs_shape hb with ⟨j,u,rfl,e⟩ | ⟨y,u,rfl,e⟩
      · injection e with e1 _; rw [e1]
      · exact nomatch e
    · rcases keyIs_shape hb with ⟨j,u,rfl,e⟩ | ⟨y,u,rfl,e⟩
      · exact nomatch e
      · injection e with e1 _; rw [e1]
  byValue := λ k v h => by
    rcases keyIs_shape h with ⟨i,t,rfl,rfl⟩ | ⟨x,t,rfl,rfl⟩ <;> rfl
  pyHash := λ hv h => by
    rcases keyIs_shape hv with ⟨i,t,rfl,rfl⟩ | ⟨x,t,rfl,rfl⟩
    · exact wpAny_pyHash_int h
    · exact wpAny_pyHash_str h
  eqBool := λ hu hv h => by
    rcases keyIs_shape hu with ⟨i,t,rfl,rfl⟩ | ⟨x,t,rfl,rfl⟩
    · rcases keyIs_shape hv with ⟨j,u,rfl,rfl⟩ | ⟨y,u,rfl,rfl⟩
      · rw [key_ll] at h; exact wpAny_eqBool_int h
      · rw [key_lr] at h; exact SeqAt.EqAt.int_str i t y u _ _ _ _ h
    · rcases keyIs_shape hv with ⟨j,u,rfl,rfl⟩ | ⟨y,u,rfl,rfl⟩
      · rw [key_rl] at h; exact SeqAt.EqAt.str_int x t j u _ _ _ _ h
      · rw [key_rr] at h; exact wpAny_eqBool_str h
  «strs» := λ k x t v h => by
    rcases keyIs_shape h with ⟨i,u,rfl,e⟩ | ⟨y,u,rfl,e⟩
    · exact nomatch e
    · injection e with e1 _
      subst e1
      cases v <;> rfl
theorem mixKind_int (prog : Program) (w : World) (i : Int) (t : Tok) : (mixKind prog w).is (.inl i) (.int i t) = true := keyIs_int i t
theorem mixKind_str (prog : Program) (w : World) (x : Str) (t : Tok) : (mixKind prog w).is (.inr x) (.str x t) = true := keyIs_str x t
end L2
namespace L2
open PySem PySem.Spec PyProof.Rows
inductive V where
  | non | bl (b : Bool) | int (i : Int) | str (x : Str) | byt (b : Array UInt8) | flt (b : UInt64) | ref (a : Addr) | ty (n : String)
  deriving DecidableEq
def RelV : V→Value→Prop
  | .non,u => u = Value.none
  | .bl b,u => u = Value.bool b
  | .int i,u => ∃ t,u = Value.int i t
  | .str x,u => ∃ t,u = Value.str x t
  | .byt b,u => ∃ t,u = Value.bytes b t
  | .flt b,u => ∃ t,u = Value.float b t
  | .ref a,u => u = Value.ref a
  | .ty n,u => u = Value.type n
abbrev Vals : List V → List Value → Prop := Paired RelV
theorem Vals.length {xs : List V} {us : List Value} (r : Vals xs us) : xs.length = us.length := Paired.length r
theorem Vals.get : ∀ {xs : List V} {us : List Value} {i : Nat} {x : V},Vals xs us→xs[i]? = some x→∃ u,us[i]? = some u∧RelV x u
  | _,_,_,_,.nil,e => by simp at e
  | _,_,0,_,.cons r _,e => by simp at e; subst e; exact ⟨_,rfl,r⟩
  | _,_,i + 1,x,.cons _ t,e => by
    obtain ⟨u,h1,h2⟩ := Vals.get (i := i) (x := x) t (by simpa using e)
    exact ⟨u,by simpa using h1,h2⟩
theorem Vals.append : ∀ {xs ys : List V} {us ws : List Value},Vals xs us→Vals ys ws→Vals (xs ++ ys) (us ++ ws)
  | _,_,_,_,.nil,s => s
  | _,_,_,_,.cons r t,s => .cons r (Vals.append t s)
theorem Vals.take : ∀ {xs : List V} {us : List Value} (n : Nat),Vals xs us→Vals (xs.take n) (us.take n)
  | _,_,0,_ => .nil
  | _,_,_ + 1,.nil => .nil
  | _,_,n + 1,.cons r t => .cons r (Vals.take n t)
theorem Vals.drop : ∀ {xs : List V} {us : List Value} (n : Nat),Vals xs us→Vals (xs.drop n) (us.drop n)
  | _,_,0,r => r
  | _,_,_ + 1,.nil => .nil
  | _,_,n + 1,.cons _ t => Vals.drop n t
def RelO : Option V→Option Value→Prop
  | some v,some u => RelV v u
  | none,none => True
  | _,_ => False
def KV {κ : Type} : List (κ × V)→List (κ × Value)→Prop := Paired λ (p : κ × V) (q : κ × Value) => p.1 = q.1∧RelV p.2 q.2
def kV : Key→V
  | .inl i => .int i
  | .inr x => .str x
inductive HO where
  /-- a list -/
  | lst (xs : List V)
  /-- a tuple (never changes) -/
  | tup (xs : List V)
  /-- a dict whose keys are ints and texts; one whose keys are tuples of ints and texts (the empty one is both) -/
  | dK (kvs : List (Key × V)) | dT (kvs : List (List Key × V))
  /-- a set of ints: its members,its size -/
  | set (S : Int → Bool) (n : Nat)
  /-- an instance of the class at C,its dict at dx,its attributes -/
  | ins (C dx : Addr) (fs : List (Str × V))
  /-- the dict of the instance at x -/
  | own (x : Addr)
  /-- the dict of an exception -/
  | xd (fs : List (Str × V))
  /-- a bound method,f of x -/
  | met (f x : Addr)
  /-- a range object lo,lo + 1,.. below hi -/
  | rng (lo hi : Int)
  /-- a thing that is known to the object (the script; a dict while a loop walks it): read,never written while it is so -/
  | frz (o : Obj) (u : HO)
  /-- a code object's table -/
  | tbl (ps : Array Value)
  /-- any other thing,by what is true of its one object (a def of one's own: SetO a S n := HO.ext λ h => ..) -/
  | ext (φ : Heap → Prop)
abbrev Hp := Addr → Option HO
def upd (H : Hp) (a : Addr) (o : HO) : Hp := λ b => if b = a then some o else H b
theorem upd_same {H : Hp} {a : Addr} {o : HO} : upd H a o a = some o := by unfold upd; rw [if_pos rfl]
theorem upd_ne {H : Hp} {a b : Addr} {o : HO} (h : b≠a) : upd H a o b = H b := by unfold upd; rw [if_neg h]
theorem ne_of {H : Hp} {a b : Addr} {o u : HO} (h : H a = some o) (h' : H b = some u) (d : o≠u) : a≠b := by
  intro e; subst e; rw [h] at h'; exact d (Option.some.inj h')
theorem ne_of_none {H : Hp} {a b : Addr} {o : HO} (h : H a = some o) (h' : H b = none) : a≠b := by
  intro e; subst e; rw [h] at h'; cases h'
section
variable (P : Program) (w : World)
def ObjOk (H : Hp) (h : Heap) (a : Addr) : HO→Prop
  | .lst xs => xs.length ≤ sizeLine ∧ ∃ (its : List Value) (n : Nat),Vals xs its ∧ h.get? a = some { cls := .type "list",data := .seq its.toArray n }
  | .tup xs => xs.length ≤ sizeLine ∧ ∃ its : List Value,Vals xs its ∧ IsTup h a its.toArray
  | .dK kvs => kvs.length ≤ sizeLine ∧ (a == sysModules) = false ∧ ∃ vs,KV kvs vs ∧ h.DictOf (mixKind P w) a vs
  | .dT kvs => kvs.length ≤ sizeLine ∧ (a == sysModules) = false ∧ ∃ xs : List (List Key × Addr × Value),
      Paired (λ (p : List Key × V) (q : List Key × Addr × Value) => p.1 = q.1 ∧ H q.2.1 = some (.tup (p.1.map kV)) ∧ RelV p.2 q.2.2) kvs xs ∧
      ∃ o es ep,h.get? a = some o ∧ o.ExactDict ∧ o.data = .dict es ep ∧ es.toList = xs.map (entryOfKey (tupleKind (mixKind P w))) ∧ (xs.map (·.1)).Nodup
  | .set S n => h.SetOf (intKind P w) a S n
  | .ins C dx fs => H dx = some (.own a) ∧ fs.length ≤ 1000 ∧ dx ≠ a ∧ h.get? a = some (PySem.W.instObj C dx) ∧
      ∃ mA,h.Ns1 dx mA ∧ (∀ f,RelO (fs.lookup f) (mA f)) ∧ PySem.Within mA (fs.map (·.1))
  | .own _ => ∃ o,h.get? a = some o
  | .xd fs => ∃ mA,h.Ns1 a mA ∧ ∀ f,RelO (fs.lookup f) (mA f)
  | .rng lo hi => ∃ t u v,h.get? a = some { cls := .type "range",data := .fields #[.int lo t,.int hi u,.int 1 v] }
  | .frz o u => h.get? a = some o ∧ ObjOk H h a u
  | .tbl ps => h.get? a = some { cls := .none,data := .fields ps }
  | .met f x => h.get? a = some (PySem.W.methodObj (.ref f) (.ref x))
  | .ext φ => φ h ∧ (∃ o,h.get? a = some o) ∧ ∀ h1 h2 : Heap,φ h1 → (∀ o,h1.get? a = some o → h2.get? a = some o) → φ h2
def HOk (H : Hp) (h : Heap) : Prop := ∀ a o,H a = some o→ObjOk P w H h a o
end
section
variable {P : Program} {w : World} {H H' : Hp} {h h' : Heap} {a : Addr} {o : HO}
theorem ObjOk.lt (x : ObjOk P w H h a o) : a < h.objs.size := by
  cases o with
  | lst xs => obtain ⟨_,_,_,_,e⟩ := x; exact Heap.lt_size e
  | tup xs => obtain ⟨_,_,_,p⟩ := x; exact p.lt
  | dK kvs => obtain ⟨_,_,_,_,o,_,_,e,_⟩ := x; exact Heap.lt_size e
  | dT kvs => obtain ⟨_,_,_,_,o,_,_,e,_⟩ := x; exact Heap.lt_size e
  | set S n => obtain ⟨o,_,_,_,e,_⟩ := x; exact Heap.lt_size e
  | ins C dx fs => obtain ⟨_,_,_,e,_⟩ := x; exact Heap.lt_size e
  | own y => obtain ⟨_,e⟩ := x; exact Heap.lt_size e
  | xd fs => obtain ⟨_,⟨_,_,_,e,_⟩,_⟩ := x; exact Heap.lt_size e
  | rng lo hi => obtain ⟨_,_,_,e⟩ := x; exact Heap.lt_size e
  | frz ob u => obtain ⟨e,_⟩ := x; exact Heap.lt_size e
  | tbl ps => exact Heap.lt_size (show h.get? a = some _ from x)
  | met f y => exact Heap.lt_size (show h.get? a = some _ from x)
  | ext φ => obtain ⟨_,⟨_,e⟩,_⟩ := x; exact Heap.lt_size e
theorem Paired.mapP {α β : Type} {F G : α→β→Prop} : ∀ {l₁ : List α} {l₂ : List β},Paired F l₁ l₂→(∀ a b,F a b→G a b)→Paired G l₁ l₂
  | _,_,.nil,_ => .nil
  | _,_,.cons r t,f => .cons (f _ _ r) (Paired.mapP t f)
theorem ObjOk.stay (x : ObjOk P w H h a o) (k : ∀ b u,(b = a∨H b = some (.own a))→h.get? b = some u→h'.get? b = some u)
    (ho : ∀ b,H b = some (.own a) → H' b = some (.own a)) (ht : ∀ b xs,H b = some (.tup xs) → H' b = some (.tup xs)) : ObjOk P w H' h' a o := by
  induction o with
  | lst xs => obtain ⟨z,its,n,r,e⟩ := x; exact ⟨z,its,n,r,k _ _ (.inl rfl) e⟩
  | tup xs => obtain ⟨z,its,r,ob,e,c⟩ := x; exact ⟨z,its,r,ob,k _ _ (.inl rfl) e,c⟩
  | dK kvs => obtain ⟨z,y,vs,r,ob,es,ep,e,c⟩ := x; exact ⟨z,y,vs,r,ob,es,ep,k _ _ (.inl rfl) e,c⟩
  | dT kvs =>
    obtain ⟨z,y,xs,r,ob,es,ep,e,c⟩ := x
    exact ⟨z,y,xs,Paired.mapP r λ p q z => ⟨z.1,ht _ _ z.2.1,z.2.2⟩,ob,es,ep,k _ _ (.inl rfl) e,c⟩
  | set S n => obtain ⟨ob,es,ep,t,e,c⟩ := x; exact ⟨ob,es,ep,t,k _ _ (.inl rfl) e,c⟩
  | ins C dx fs =>
    obtain ⟨d,z,ne,e,mA,⟨od,es,ep,e2,c⟩,r⟩ := x
    exact ⟨ho _ d,z,ne,k _ _ (.inl rfl) e,mA,⟨od,es,ep,k _ _ (.inr d) e2,c⟩,r⟩
  | own y => obtain ⟨ob,e⟩ := x; exact ⟨ob,k _ _ (.inl rfl) e⟩
  | xd fs => obtain ⟨mA,⟨od,es,ep,e,c⟩,r⟩ := x; exact ⟨mA,⟨od,es,ep,k _ _ (.inl rfl) e,c⟩,r⟩
  | rng lo hi => obtain ⟨t,u,v,e⟩ := x; exact ⟨t,u,v,k _ _ (.inl rfl) e⟩
  | frz ob u ih => obtain ⟨e,q⟩ := x; exact ⟨k _ _ (.inl rfl) e,ih q⟩
  | tbl ps =>
    have e : h.get? a = some { cls := .none,data := .fields ps } := x
    show h'.get? a = some { cls := .none,data := .fields ps }
    exact k a _ (.inl rfl) e
  | met f y =>
    have e : h.get? a = some (PySem.W.methodObj (.ref f) (.ref y)) := x
    show h'.get? a = some (PySem.W.methodObj (.ref f) (.ref y))
    exact k a _ (.inl rfl) e
  | ext φ => obtain ⟨p,⟨o,e⟩,st⟩ := x; exact ⟨st _ _ p λ o q => k _ _ (.inl rfl) q,⟨o,k _ _ (.inl rfl) e⟩,st⟩
theorem HOk.lt (x : HOk P w H h) (e : H a = some o) : a < h.objs.size := (x a o e).lt
theorem HOk.fresh (x : HOk P w H h) (e : h.objs.size≤a) : H a = none := by
  cases q : H a with
  | none => rfl
  | some u => exact absurd (Nat.lt_of_lt_of_le (x.lt q) e) (Nat.lt_irrefl _)
theorem HOk.kept (x : HOk P w H h) (k : ∀ b u,h.get? b = some u→h'.get? b = some u) : HOk P w H h' := λ a o e =>
  (x a o e).stay (λ b u _ q => k b u q) (λ _ q => q) λ _ _ q => q
theorem HOk.laid (x : HOk P w H h) (k : ∀ b u,h.get? b = some u→h'.get? b = some u) (hp : h.objs.size≤a) (new : ObjOk P w (upd H a o) h' a o) : HOk P w (upd H a o) h' := λ b u e => by
  have hn := x.fresh hp
  by_cases hb : b = a
  · subst hb; rw [upd_same] at e; cases e; exact new
  · rw [upd_ne hb] at e
    exact (x b u e).stay (λ c v _ q => k c v q) (λ c q => by rw [upd_ne (ne_of_none q hn)]; exact q) λ c xs q => by rw [upd_ne (ne_of_none q hn)]; exact q
end
def Rd (H : Hp) (a : Addr) (u : HO) : Prop := H a = some u∨∃ o,H a = some (.frz o u)
theorem Rd.ok {P : Program} {w : World} {H : Hp} {h : Heap} {a : Addr} {u : HO} (r : Rd H a u) (x : HOk P w H h) : ObjOk P w H h a u := by
  rcases r with r | ⟨o,r⟩
  · exact x a u r
  · obtain ⟨_,q⟩ := x a _ r
    exact q
def Mut : Option HO→Prop
  | some (.lst _) => True
  | some (.dK _) => True
  | some (.dT _) => True
  | some (.set _ _) => True
  | some (.ins _ _ _) => True
  | some (.ext _) => True
  | _ => False
section
variable {P : Program} {w : World} {H : Hp} {h h' : Heap} {x e : Addr} {o' : HO}
theorem HOk.write (ok : HOk P w H h) (mu : Mut (H x)) (he : e = x∨H e = some (.own x)) (k : ∀ b u,b≠e→h.get? b = some u→h'.get? b = some u) (heo : ∃ u,h'.get? e = some u)
    (new : ObjOk P w (upd H x o') h' x o') : HOk P w (upd H x o') h' := λ b u q => by
  have nown : ∀ c y,H c = some (.own y) → c ≠ x := λ c y r z => by subst z; rw [r] at mu; exact mu
  have ntup : ∀ c xs,H c = some (.tup xs) → c ≠ x := λ c xs r z => by subst z; rw [r] at mu; exact mu
  by_cases hb : b = x
  · subst hb; rw [upd_same] at q; cases q; exact new
  · rw [upd_ne hb] at q
    by_cases hbe : b = e
    · have q' : H b = some (.own x) := by
        rcases he with z | z
        · exact absurd (hbe.trans z) hb
        · rw [hbe]; exact z
      rw [q] at q'; cases q'
      obtain ⟨v,hv⟩ := heo
      exact ⟨v,by rw [hbe]; exact hv⟩
    · refine (ok b u q).stay (λ c v hc r => k c v ?_ r) (λ c r => by rw [upd_ne (nown c b r)]; exact r) λ c xs r => by rw [upd_ne (ntup c xs r)]; exact r
      rcases hc with rfl | hc
      · exact hbe
      · rintro rfl
        rcases he with z | z
        · exact nown c b hc z
        · rw [hc] at z; cases z; exact hb rfl
end
structure Un (fs ex : List Addr) (H H' : Hp) (h h' : Heap) : Prop where
  keep : ∀ b o,h.get? b = some o → H b = none → b ∉ fs → b ∉ ex → h'.get? b = some o
  slot : ∀ b o,h.get? b = some o → H b = none → b ∈ fs → b ∉ ex → ∃ sl,h'.get? b = some { o with slots := sl }
  free : ∀ b o,h.get? b = some o → H b = none → b ∉ ex → H' b = none
  there : ∀ b o,h.get? b = some o → b ∉ ex → ∃ o',h'.get? b = some o'
  tups : ∀ b xs,H b = some (.tup xs) → H' b = some (.tup xs)
  frzs : ∀ b o u,H b = some (.frz o u) → H' b = some (.frz o u)
  tbls : ∀ b ps,H b = some (.tbl ps) → ∃ more,H' b = some (.tbl (ps ++ more))
section
variable {fs fs' ex ex' : List Addr} {H H1 H2 : Hp} {h h1 h2 h' : Heap} {a x e : Addr} {o : HO}
theorem Un.any (u : Un fs ex H H1 h h1) {b : Addr} {ob : Obj} (q : h.get? b = some ob) (n : H b = none) (hx : b ∉ ex) : ∃ sl,h1.get? b = some { ob with slots := sl } := by
  by_cases hb : b ∈ fs
  · exact u.slot b ob q n hb hx
  · exact ⟨ob.slots,u.keep b ob q n hb hx⟩
theorem Un.kept (k : ∀ b u,h.get? b = some u→h'.get? b = some u) : Un fs ex H H h h' :=
  ⟨λ b ob q _ _ _ => k b ob q,λ b ob q _ _ _ => ⟨ob.slots,k b ob q⟩,λ _ _ _ n _ => n,λ b ob q _ => ⟨ob,k b ob q⟩,λ _ _ q => q,λ _ _ _ q => q,λ _ ps q => ⟨#[],by rw [q]; simp⟩⟩
theorem Un.refl : Un fs ex H H h h := Un.kept λ _ _ q => q
theorem Un.laid (k : ∀ b u,h.get? b = some u→h'.get? b = some u) (hp : h.objs.size≤a) (hn : H a = none) : Un fs ex H (upd H a o) h h' where
  keep := λ b u q _ _ _ => k b u q
  slot := λ b u q _ _ _ => ⟨u.slots,k b u q⟩
  free := λ b u q n _ => by rw [upd_ne (Nat.ne_of_lt (Nat.lt_of_lt_of_le (Heap.lt_size q) hp))]; exact n
  there := λ b u q _ => ⟨u,k b u q⟩
  tups := λ b xs q => by rw [upd_ne (ne_of_none q hn)]; exact q
  frzs := λ b u xs q => by rw [upd_ne (ne_of_none q hn)]; exact q
  tbls := λ b ps q => ⟨#[],by rw [upd_ne (ne_of_none q hn),q]; simp⟩
theorem Un.write (mu : Mut (H x)) (he : e = x∨H e = some (.own x)) (k : ∀ b u,b≠e→h.get? b = some u→h'.get? b = some u) (heo : ∃ u,h'.get? e = some u) : Un fs ex H (upd H x o) h h' := by
  have hx : ∀ b,H b = none → b ≠ x := λ b n z => by subst z; rw [n] at mu; exact mu
  have hb : ∀ b,H b = none → b ≠ e := λ b n z => by
    subst z
    rcases he with r | r
    · exact hx b n r
    · rw [n] at r; cases r
  have hm : ∀ b u,H b = some u → ¬ Mut (some u) → b ≠ x := λ b u q nm z => by subst z; rw [q] at mu; exact nm mu
  refine ⟨λ b u q n _ _ => k b u (hb b n) q,λ b u q n _ _ => ⟨u.slots,k b u (hb b n) q⟩,λ b u q n _ => by rw [upd_ne (hx b n)]; exact n,λ b u q _ => ?_,
    λ b xs q => by rw [upd_ne (hm b _ q λ z => z)]; exact q,λ b u xs q => by rw [upd_ne (hm b _ q λ z => z)]; exact q,λ b ps q => ⟨#[],by rw [upd_ne (hm b _ q λ z => z),q]; simp⟩⟩
  by_cases hbe : b = e
  · subst hbe; exact heo
  · exact ⟨u,k b u hbe q⟩
end
def trk (h : Heap) (H : Hp) : List Addr := (List.range h.objs.size).filter λ a => (H a).isSome
def hidT (h : Heap) (H : Hp) : Heap := PySem.W.hideAll h (trk h H)
theorem hidT_size (h : Heap) (H : Hp) : (hidT h H).objs.size = h.objs.size := PySem.W.hideAll_size _ _
theorem hidT_get {h : Heap} {H : Hp} {b : Addr} {o : Obj} (e : h.get? b = some o) (n : H b = none) : (hidT h H).get? b = some o :=
  PySem.W.hideAll_get _ e λ hm => by
    have q : (H b).isSome = true := (List.mem_filter.mp hm).2
    rw [n] at q; simp at q
theorem of_hidT {h : Heap} {H : Hp} {b : Addr} {o : Obj} (e : (hidT h H).get? b = some o) : h.get? b = some o∧H b = none := by
  have e' : h.get? b = some o := PySem.W.of_hideAll (trk h H) e
  refine ⟨e',?_⟩
  cases q : H b with
  | none => rfl
  | some x =>
    have hm : b ∈ trk h H := List.mem_filter.mpr ⟨List.mem_range.mpr (Heap.lt_size e'),by simp [q]⟩
    have z : (hidT h H).get? b = none := PySem.W.hideAll_none (trk h H) hm
    rw [z] at e; cases e
end L2
namespace L2
open PySem PySem.Spec PyProof.Rows
structure Mod (K : PySem.W.Frag) (mg : Str→Option Value) (base : Heap) : Prop where
  kin : K.In base
  glob : base.Ns mainGlobals mg
  blt : ∃ mb,base.Ns builtinsNs mb ∧ ∀ x : Str,x ≠ "__name__" → mb x = bootBuiltins x
  nolimit : base.NoLimit
structure Cx where
  prog : Program
  w : World
  K : PySem.W.Frag
  mg : Str → Option Value
  base : Heap
  A : Around
  N : List Str
  s₀ : Shared
  H₀ : Hp
  env : Env
  outer : List Env
  stack : List Env
  ex : List Addr
  fn : Str → Bool
  calm : Bool
  pn : List (Addr × Obj)
  xe : Value → Shared → Prop
def frs (l : List Env) : List Addr := l.filterMap (·.frame)
abbrev Cx.fs (X : Cx) : List Addr := frs X.outer
def Vis (sc : Scope) (x : Str) : Prop := sc.names.lookup x = some .local∨sc.names.lookup x = some .cell∨sc.names.lookup x = some .free
def Loc (sc : Scope) (x : Str) : Prop := sc.names.lookup x = some .local∨sc.names.lookup x = some .cell
def Look (env : Env) (h : Heap) (m : Str→Option Value) (x : Str) (u : Value) : Prop :=
  (env.kindOf x = some .local ∧ m x = some u) ∨ ((env.kindOf x = some .cell ∨ env.kindOf x = some .free) ∧ ∃ c,env.cells.lookup x = some c ∧ h.IsCell c (some u))
structure Cx.Ok (X : Cx) : Prop where
  mod : Mod X.K X.mg X.base
  kind : X.env.scope.kind = .function
  glob : X.env.globals = mainGlobals
  blt : X.env.builtins = builtinsNs
  above : X.s₀.heap.objs.size ≤ X.env.locals
  inj : ∀ x y c,X.env.cells.lookup x = some c → X.env.cells.lookup y = some c → x = y
  has : ∀ x,(X.env.kindOf x = some .cell ∨ X.env.kindOf x = some .free) → ∃ c,X.env.cells.lookup x = some c
  cab : ∀ x c,X.fn x = true → X.env.cells.lookup x = some c → X.s₀.heap.objs.size ≤ c
  hd : X.calm = true → X.A.handled = none
  frames : X.A.frames = some X.stack
  stk : X.stack = X.outer ∨ (X.stack = X.env :: X.outer ∧ X.env.frame = some X.env.locals)
  exf : ∀ b ∈ X.ex,b ≠ X.env.locals ∧ ∀ x c,X.env.cells.lookup x = some c → c ≠ b
  bs : ∀ b o,X.base.get? b = some o → X.s₀.heap.get? b = some o ∧ X.H₀ b = none
  bsz : X.base.objs.size ≤ X.s₀.heap.objs.size
  noex : ∀ b o,X.base.get? b = some o → b ∉ X.ex
  exfs : ∀ b ∈ X.ex,b ∉ X.fs
  funs : X.s₀.heap.FunFrames X.base X.outer
  frf : ∀ b ∈ X.fs,X.H₀ b = none
structure Inv (X : Cx) (pins : List (Addr × Obj)) (σ : List (Option V)) (H : Hp) (s : Shared) : Prop where
  ok : X.Ok
  os : s.os = X.s₀.os
  bare : AllBare s.gens
  base : Un X.fs X.ex X.H₀ H X.s₀.heap s.heap
  loc : ∃ m,s.heap.Ns X.env.locals m ∧ ∀ (i : Nat) (x : Str) (v : V),X.N[i]? = some x → σ[i]? = some (some v) → Vis X.env.scope x → ∃ u,RelV v u ∧ Look X.env s.heap m x u
  cell : ∀ x c,X.env.cells.lookup x = some c → ∃ v,s.heap.IsCell c v
  free : H X.env.locals = none
  freeC : ∀ x c,X.env.cells.lookup x = some c → H c = none
  pin : ∀ p ∈ X.pn ++ pins,s.heap.get? p.1 = some p.2 ∧ H p.1 = none ∧ p.1 ≠ X.env.locals ∧ p.1 ∉ X.fs ∧ ∀ v,p.2.data ≠ .cell v
  hok : HOk X.prog X.w H s.heap
  len : σ.length = X.N.length
section
variable {X : Cx} {pins : List (Addr × Obj)} {σ : List (Option V)} {H H' : Hp} {s : Shared} {h' : Heap}
theorem Cx.Ok.nofr (ok : X.Ok) {b : Addr} {o : Obj} (e : X.base.get? b = some o) : b ∉ X.fs := λ hb => by
  have := (ok.funs.mem hb).1
  rw [e] at this; cases this
theorem Inv.bs (I : Inv X pins σ H s) : ∀ b o,X.base.get? b = some o→s.heap.get? b = some o∧H b = none := λ b o e =>
  ⟨I.base.keep b o (I.ok.bs b o e).1 (I.ok.bs b o e).2 (I.ok.nofr e) (I.ok.noex b o e),I.base.free b o (I.ok.bs b o e).1 (I.ok.bs b o e).2 (I.ok.noex b o e)⟩
theorem Inv.bk (I : Inv X pins σ H s) : ∀ b o,X.base.get? b = some o→s.heap.get? b = some o := λ b o e => (I.bs b o e).1
theorem Inv.mod (I : Inv X pins σ H s) : Mod X.K X.mg X.base := I.ok.mod
theorem Inv.kIn (I : Inv X pins σ H s) : X.K.In s.heap := I.ok.mod.kin.keeps I.bk
theorem Inv.lt (I : Inv X pins σ H s) : X.env.locals < s.heap.objs.size := let ⟨_,hn,_⟩ := I.loc; hn.lt
theorem Inv.sz (I : Inv X pins σ H s) : X.s₀.heap.objs.size≤s.heap.objs.size := Nat.le_trans I.ok.above (Nat.le_of_lt I.lt)
theorem Inv.nofs (I : Inv X pins σ H s) {a : Addr} (h : s.heap.objs.size≤a) : a ∉ X.fs := λ hb => by
  obtain ⟨_,o,ho,_⟩ := I.ok.funs.mem hb
  exact absurd (Nat.lt_of_lt_of_le (Heap.lt_size ho) (Nat.le_trans I.sz h)) (Nat.lt_irrefl _)
theorem Inv.cne (I : Inv X pins σ H s) : ∀ x c,X.env.cells.lookup x = some c→c≠X.env.locals := λ x c e z => by
  obtain ⟨v,o,ho,hd⟩ := I.cell x c e
  obtain ⟨m,⟨o',es,ep,ho',hd',_⟩,_⟩ := I.loc
  rw [z,ho'] at ho; cases ho; rw [hd'] at hd; cases hd
theorem Inv.funs (I : Inv X pins σ H s) : s.heap.FunFrames X.base X.outer := by
  have all : ∀ (l : List Env),(∀ b ∈ frs l,b ∈ X.fs) → X.s₀.heap.FunFrames X.base l → s.heap.FunFrames X.base l := by
    intro l
    induction l with
    | nil => intro _ _; trivial
    | cons env r ih =>
      intro hs hl
      obtain ⟨hk,⟨L,o,hf,hn,ho,hd⟩,hr⟩ := hl
      have hL : L ∈ X.fs := hs L (by unfold frs; rw [List.filterMap_cons,hf]; exact List.mem_cons_self)
      obtain ⟨sl,e⟩ := I.base.slot L o ho (I.ok.frf L hL) hL λ z => I.ok.exfs L z hL
      exact ⟨hk,⟨L,_,hf,hn,e,hd⟩,ih (λ b hb => hs b (by unfold frs; rw [List.filterMap_cons,hf]; exact List.mem_cons_of_mem _ hb)) hr⟩
  exact all X.outer (λ _ hb => hb) I.ok.funs
theorem Inv.stack (I : Inv X pins σ H s) : s.heap.FunFrames X.base X.stack := by
  rcases I.ok.stk with e | ⟨e,hf⟩
  · rw [e]; exact I.funs
  · rw [e]
    obtain ⟨m,hn,_⟩ := I.loc
    refine .cons (by rw [I.ok.kind]; decide) hf hn ?_ I.funs
    exact Heap.get?_none_of_le (Nat.le_trans I.ok.bsz I.ok.above)
theorem Inv.stkSub (I : Inv X pins σ H s) : ∀ b∈frs X.stack,b∈X.env.locals :: X.fs := λ b hb => by
  rcases I.ok.stk with e | ⟨e,hf⟩
  · rw [e] at hb; exact List.mem_cons_of_mem _ hb
  · rw [e] at hb
    unfold frs at hb
    rw [List.filterMap_cons,hf] at hb
    exact hb
theorem Inv.stkFree (I : Inv X pins σ H s) : ∀ b∈frs X.stack,H b = none := λ b hb => by
  rcases List.mem_cons.mp (I.stkSub b hb) with e | hb
  · rw [e]; exact I.free
  · obtain ⟨_,o,ho,_⟩ := I.ok.funs.mem hb
    exact I.base.free b o ho (I.ok.frf b hb) λ z => I.ok.exfs b z hb
theorem Inv.step {g' : Array GenState} {t' : Nat} {d' : Drawn} {ch : List Addr} (I : Inv X pins σ H s)
    (hch : ∀ b ∈ ch,(b ∈ X.ex ∨ X.s₀.heap.objs.size ≤ b) ∧ b ≠ X.env.locals ∧ (∀ x c,X.env.cells.lookup x = some c → c ≠ b) ∧ ∀ p ∈ X.pn ++ pins,p.1 ≠ b)
    (keep : ∀ b o,b ≠ X.env.locals → b ∉ X.fs → b ∉ ch → s.heap.get? b = some o → H b = none → h'.get? b = some o)
    (slot : ∀ b o,b ≠ X.env.locals → b ∈ X.fs → b ∉ ch → s.heap.get? b = some o → H b = none → ∃ sl,h'.get? b = some { o with slots := sl }) (free : ∀ b o,b ∉ ch → s.heap.get? b = some o → H b = none → H' b = none)
    (there : ∀ b o,b ∉ ch → s.heap.get? b = some o → ∃ o',h'.get? b = some o')
    (tups : ∀ b xs,H b = some (.tup xs) → H' b = some (.tup xs)) (frzs : ∀ b o u,H b = some (.frz o u) → H' b = some (.frz o u)) (tbls : ∀ b ps,H b = some (.tbl ps) → ∃ more,H' b = some (.tbl (ps ++ more)))
    (ns : ∀ m,s.heap.Ns X.env.locals m → h'.Ns X.env.locals m) (hok : HOk X.prog X.w H' h') (hg : AllBare g') :
    Inv X pins σ H' { s with heap := h',gens := g',drawn := d',toks := t' } := by
  have neL : ∀ b o,X.s₀.heap.get? b = some o → b ≠ X.env.locals := λ b o e => Nat.ne_of_lt (Nat.lt_of_lt_of_le (Heap.lt_size e) I.ok.above)
  have neC : ∀ b o,X.s₀.heap.get? b = some o → b ∉ X.ex → b ∉ ch := λ b o e hx hb => by
    rcases (hch b hb).1 with z | z
    · exact hx z
    · exact absurd (Nat.lt_of_lt_of_le (Heap.lt_size e) z) (Nat.lt_irrefl _)
  have cellK : ∀ x c,X.env.cells.lookup x = some c → ∀ v,s.heap.IsCell c v → h'.IsCell c v := λ x c e v ⟨o,ho,hd⟩ => by
    have nch : c ∉ ch := λ z => (hch c z).2.2.1 x c e rfl
    by_cases hc : c ∈ X.fs
    · obtain ⟨sl,q⟩ := slot c o (I.cne x c e) hc nch ho (I.freeC x c e)
      exact ⟨_,q,hd⟩
    · exact ⟨o,keep c o (I.cne x c e) hc nch ho (I.freeC x c e),hd⟩
  refine ⟨I.ok,I.os,hg,⟨λ b o e n hb hx => ?_,λ b o e n hb hx => ?_,λ b o e n hx => ?_,λ b o e hx => ?_,λ b xs e => tups b xs (I.base.tups b xs e),λ b o xs e => frzs b o xs (I.base.frzs b o xs e),λ b ps e => ?_⟩,?_,λ x c e => ?_,?_,λ x c e => ?_,λ p hp => ?_,hok,I.len⟩
  · exact keep b o (neL b o e) hb (neC b o e hx) (I.base.keep b o e n hb hx) (I.base.free b o e n hx)
  · obtain ⟨sl,e1⟩ := I.base.slot b o e n hb hx
    obtain ⟨sl',e2⟩ := slot b _ (neL b o e) hb (neC b o e hx) e1 (I.base.free b o e n hx)
    exact ⟨sl',e2⟩
  · obtain ⟨o',e1⟩ := I.base.there b o e hx
    exact free b o' (neC b o e hx) e1 (I.base.free b o e n hx)
  · obtain ⟨o',e1⟩ := I.base.there b o e hx
    exact there b o' (neC b o e hx) e1
  · obtain ⟨m1,e1⟩ := I.base.tbls b ps e
    obtain ⟨m2,e2⟩ := tbls b _ e1
    exact ⟨m1 ++ m2,by rw [e2,Array.append_assoc]⟩
  · obtain ⟨m,hn,hl⟩ := I.loc
    refine ⟨m,ns m hn,λ i x v e1 e2 e3 => ?_⟩
    obtain ⟨u,r,l⟩ := hl i x v e1 e2 e3
    refine ⟨u,r,?_⟩
    rcases l with l | ⟨k,c,e,z⟩
    · exact .inl l
    · exact .inr ⟨k,c,e,cellK x c e _ z⟩
  · obtain ⟨v,z⟩ := I.cell x c e
    exact ⟨v,cellK x c e v z⟩
  · obtain ⟨m,⟨o,_,_,ho,_⟩,_⟩ := I.loc
    exact free _ o (λ z => (hch _ z).2.1 rfl) ho I.free
  · obtain ⟨v,o,ho,hd⟩ := I.cell x c e
    exact free c o (λ z => (hch c z).2.2.1 x c e rfl) ho (I.freeC x c e)
  · obtain ⟨e,n,ne,nf,d⟩ := I.pin p hp
    have nch : p.1 ∉ ch := λ z => (hch p.1 z).2.2.2 p hp rfl
    exact ⟨keep p.1 p.2 ne nf nch e n,free p.1 p.2 nch e n,ne,nf,d⟩
theorem Inv.un {t' : Nat} (I : Inv X pins σ H s) (u : Un X.fs [] H H' s.heap h') (hok : HOk X.prog X.w H' h') : Inv X pins σ H' { s with heap := h',toks := t' } := by
  obtain ⟨m,⟨o,es,ep,ho,r⟩,_⟩ := id I.loc
  obtain ⟨sl,hL⟩ := u.any ho I.free (by simp)
  exact I.step (g' := s.gens) (d' := s.drawn) (ch := []) (λ _ z => nomatch z) (λ b o _ hb _ e n => u.keep b o e n hb (by simp)) (λ b o _ hb _ e n => u.slot b o e n hb (by simp)) (λ b o _ e n => u.free b o e n (by simp)) (λ b o _ e => u.there b o e (by simp)) u.tups u.frzs u.tbls (λ m' hm => by
    obtain ⟨o',es',ep',ho',r'⟩ := hm
    rw [ho] at ho'; cases ho'
    exact ⟨_,es',ep',hL,r'⟩) hok I.bare
theorem Inv.call {g' : Array GenState} {t' : Nat} {d' : Drawn} {ch : List Addr} (I : Inv X pins σ H s) (u : Un (frs X.stack) ch H H' s.heap h') (hok : HOk X.prog X.w H' h') (hg : AllBare g')
    (hch : ∀ b ∈ ch,(b ∈ X.ex ∨ X.s₀.heap.objs.size ≤ b) ∧ b ≠ X.env.locals ∧ (∀ x c,X.env.cells.lookup x = some c → c ≠ b) ∧ ∀ p ∈ X.pn ++ pins,p.1 ≠ b) :
    Inv X pins σ H' { s with heap := h',gens := g',drawn := d',toks := t' } := by
  obtain ⟨m,⟨o,es,ep,ho,r⟩,_⟩ := id I.loc
  obtain ⟨sl,hL⟩ := u.any ho I.free λ z => (hch _ z).2.1 rfl
  exact I.step (ch := ch) hch (λ b o hL hb hc e n => u.keep b o e n (λ z => (List.mem_cons.mp (I.stkSub b z)).elim hL hb) hc) (λ b o _ _ hc e n => u.any e n hc) (λ b o hc e n => u.free b o e n hc) (λ b o hc e => u.there b o e hc) u.tups u.frzs u.tbls (λ m' hm => by
    obtain ⟨o',es',ep',ho',r'⟩ := hm
    rw [ho] at ho'; cases ho'
    exact ⟨_,es',ep',hL,r'⟩) hok hg
theorem Inv.turned {t' : Nat} {it : Addr} (I : Inv X pins σ H s) (k : ∀ b o,b≠it→s.heap.get? b = some o→h'.get? b = some o) (hn : H it = none) (hL : it≠X.env.locals)
    (h1 : it ∈ X.ex ∨ X.s₀.heap.objs.size ≤ it) (h2 : ∀ x c,X.env.cells.lookup x = some c → c ≠ it) (h3 : ∀ p ∈ X.pn ++ pins,p.1 ≠ it) : Inv X pins σ H { s with heap := h',toks := t' } := by
  have nit : ∀ b u,H b = some u → b ≠ it := λ b u e z => by rw [z,hn] at e; cases e
  refine I.step (g' := s.gens) (d' := s.drawn) (ch := [it]) (λ b hb => ?_) (λ b o _ _ hc e _ => k b o (λ z => hc (by simp [z])) e) (λ b o _ _ hc e _ => ⟨o.slots,k b o (λ z => hc (by simp [z])) e⟩) (λ _ _ _ _ n => n)
    (λ b o hc e => ⟨o,k b o (λ z => hc (by simp [z])) e⟩) (λ _ _ e => e) (λ _ _ _ e => e) (λ b ps e => ⟨#[],by rw [e]; simp⟩) (λ m hm => ?_) (λ b u e => ?_) I.bare
  · have e : b = it := by simpa using hb
    subst e
    exact ⟨h1,hL,h2,h3⟩
  · obtain ⟨o,es,ep,ho,r⟩ := hm
    exact ⟨o,es,ep,k _ o (Ne.symm hL) ho,r⟩
  · refine (I.hok b u e).stay (λ c v hc q => k c v ?_ q) (λ _ q => q) λ _ _ q => q
    rcases hc with z | z
    · rw [z]; exact nit b u e
    · exact nit c _ z
theorem Inv.tok (I : Inv X pins σ H s) (t : Nat) : Inv X pins σ H { s with toks := t } := I.un (h' := s.heap) (t' := t) Un.refl I.hok
theorem Inv.kept {t' : Nat} (I : Inv X pins σ H s) (k : ∀ b u,s.heap.get? b = some u→h'.get? b = some u) : Inv X pins σ H { s with heap := h',toks := t' } := I.un (Un.kept k) (I.hok.kept k)
theorem Inv.laid {a : Addr} {o : HO} {t' : Nat} (I : Inv X pins σ H s) (k : ∀ b u,s.heap.get? b = some u→h'.get? b = some u) (hp : s.heap.objs.size≤a) (new : ObjOk X.prog X.w (upd H a o) h' a o) :
    Inv X pins σ (upd H a o) { s with heap := h',toks := t' } := I.un (Un.laid k hp (I.hok.fresh hp)) (I.hok.laid k hp new)
theorem Inv.write {x e : Addr} {o : HO} {t' : Nat} (I : Inv X pins σ H s) (mu : Mut (H x)) (he : e = x∨H e = some (.own x)) (k : ∀ b u,b≠e→s.heap.get? b = some u→h'.get? b = some u) (heo : ∃ u,h'.get? e = some u)
    (new : ObjOk X.prog X.w (upd H x o) h' x o) : Inv X pins σ (upd H x o) { s with heap := h',toks := t' } := I.un (Un.write mu he k heo) (I.hok.write mu he k heo new)
theorem Inv.pins_of {pins' : List (Addr × Obj)} (I : Inv X pins σ H s) (h : ∀ p∈pins',s.heap.get? p.1 = some p.2∧H p.1 = none∧p.1≠X.env.locals∧p.1 ∉ X.fs∧∀ v,p.2.data≠.cell v) : Inv X pins' σ H s :=
  ⟨I.ok,I.os,I.bare,I.base,I.loc,I.cell,I.free,I.freeC,λ p hp => (List.mem_append.mp hp).elim (λ z => I.pin p (List.mem_append_left _ z)) (h p),I.hok,I.len⟩
theorem nodup_ix {N : List Str} (hN : N.Nodup) {i j : Nat} {x : Str} (a : N[i]? = some x) (b : N[j]? = some x) : i = j := by
  obtain ⟨h1,e1⟩ := List.getElem?_eq_some_iff.mp a
  obtain ⟨h2,e2⟩ := List.getElem?_eq_some_iff.mp b
  exact (List.getElem_inj hN).mp (e1.trans e2.symm)
theorem store_ok2 {M : Model} {A : Around} {E : Value→Shared→Prop} {i : Nat} {x : Str} {v : V} {u : Value} {Q : Unit→Shared→Prop} (I : Inv X pins σ H s) (hN : X.N.Nodup) (hi : X.N[i]? = some x) (hx : Loc X.env.scope x) (r : RelV v u)
    (h : ∀ s',Inv X pins (σ.set i (some v)) H s' → (∃ a,Heap.SameBut a s.heap s'.heap ∧ (a = X.env.locals ∨ X.env.cells.lookup x = some a)) → Q () s') (hf : X.fn x = true ∨ X.env.scope.names.lookup x = some .local := by first | exact .inl rfl | exact .inr rfl | assumption) : wpAny M A (storeName X.env x u) Q E s := by
  obtain ⟨m,hn,hl⟩ := id I.loc
  have hcls : (X.env.scope.kind == .class || (X.env.scope.kind == .module && X.env.locals != X.env.globals)) = false := by rw [I.ok.kind]; rfl
  have hiσ : i < σ.length := by rw [I.len]; exact (List.getElem?_eq_some_iff.mp hi).1
  have cne := I.cne
  have tracked : ∀ {a : Addr} {h' : Heap},(∃ o,s.heap.get? a = some o ∧ H a = none) → Heap.SameBut a s.heap h' → HOk X.prog X.w H h' := λ {a h'} ha hs b ob e => by
    obtain ⟨_,_,hfree⟩ := ha
    refine (I.hok b ob e).stay (λ c w' hc q => (hs.2 c ?_).trans q) (λ _ q => q) λ _ _ q => q
    rintro rfl
    rcases hc with rfl | hc
    · rw [hfree] at e; cases e
    · rw [hfree] at hc; cases hc
  rcases hx with hk | hk
  · refine wpAny_storeName_local hk hn (λ h' hn' hs => ?_) hcls
    obtain ⟨oL,_,_,hoL,_⟩ := id hn
    refine h _ ⟨I.ok,I.os,I.bare,⟨λ b o e n hb hx => ?_,λ b o e n hb hx => ?_,I.base.free,λ b o e hx => ?_,I.base.tups,I.base.frzs,I.base.tbls⟩,⟨_,hn',λ j y v' e1 e2 e3 => ?_⟩,λ y c e => ?_,I.free,I.freeC,λ p hp => ?_,tracked ⟨oL,hoL,I.free⟩ hs,by simpa using I.len⟩ ⟨_,hs,.inl rfl⟩
    · exact (hs.2 b (Nat.ne_of_lt (Nat.lt_of_lt_of_le (Heap.lt_size e) I.ok.above))).trans (I.base.keep b o e n hb hx)
    · obtain ⟨sl,e1⟩ := I.base.slot b o e n hb hx
      exact ⟨sl,(hs.2 b (Nat.ne_of_lt (Nat.lt_of_lt_of_le (Heap.lt_size e) I.ok.above))).trans e1⟩
    · obtain ⟨o',e1⟩ := I.base.there b o e hx
      exact ⟨o',(hs.2 b (Nat.ne_of_lt (Nat.lt_of_lt_of_le (Heap.lt_size e) I.ok.above))).trans e1⟩
    · by_cases hj : j = i
      · subst hj
        rw [hi] at e1; cases e1
        rw [List.getElem?_set_self hiσ] at e2
        cases e2
        exact ⟨u,r,.inl ⟨hk,by simp⟩⟩
      · rw [List.getElem?_set_ne (Ne.symm hj)] at e2
        obtain ⟨u',r',q⟩ := hl j y v' e1 e2 e3
        refine ⟨u',r',?_⟩
        rcases q with ⟨k,e⟩ | ⟨k,c,e,z⟩
        · refine .inl ⟨k,?_⟩
          have : y ≠ x := λ e => hj (nodup_ix hN e1 (e ▸ hi))
          simp [this,e]
        · exact .inr ⟨k,c,e,z.sameBut hs (cne y c e)⟩
    · obtain ⟨w',z⟩ := I.cell y c e
      exact ⟨w',z.sameBut hs (cne y c e)⟩
    · obtain ⟨e,n,ne,nf,d⟩ := I.pin p hp
      exact ⟨(hs.2 p.1 ne).trans e,n,ne,nf,d⟩
  · have hfn : X.fn x = true := by
      rcases hf with z | z
      · exact z
      · rw [z] at hk; cases hk
    obtain ⟨c,hc⟩ := I.ok.has x (.inl hk)
    obtain ⟨w',z⟩ := I.cell x c hc
    refine wpAny_storeName_cell I.ok.kind hk hc z (λ h' hc' hs => ?_)
    obtain ⟨oc,hoc,hocd⟩ := id z
    refine h { s with heap := h' } ⟨I.ok,I.os,I.bare,⟨λ b o e n hb hx => ?_,λ b o e n hb hx => ?_,I.base.free,λ b o e hx => ?_,I.base.tups,I.base.frzs,I.base.tbls⟩,⟨m,hn.sameBut hs (Ne.symm (cne x c hc)),λ j y v' e1 e2 e3 => ?_⟩,λ y c' e => ?_,I.free,I.freeC,λ p hp => ?_,tracked ⟨oc,hoc,I.freeC x c hc⟩ hs,by simpa using I.len⟩ ⟨c,hs,.inr hc⟩
    · exact (hs.2 b (Nat.ne_of_lt (Nat.lt_of_lt_of_le (Heap.lt_size e) (I.ok.cab x c hfn hc)))).trans (I.base.keep b o e n hb hx)
    · obtain ⟨sl,e1⟩ := I.base.slot b o e n hb hx
      exact ⟨sl,(hs.2 b (Nat.ne_of_lt (Nat.lt_of_lt_of_le (Heap.lt_size e) (I.ok.cab x c hfn hc)))).trans e1⟩
    · obtain ⟨o',e1⟩ := I.base.there b o e hx
      exact ⟨o',(hs.2 b (Nat.ne_of_lt (Nat.lt_of_lt_of_le (Heap.lt_size e) (I.ok.cab x c hfn hc)))).trans e1⟩
    · by_cases hj : j = i
      · subst hj
        rw [hi] at e1; cases e1
        rw [List.getElem?_set_self hiσ] at e2
        cases e2
        exact ⟨u,r,.inr ⟨.inl hk,c,hc,hc'⟩⟩
      · rw [List.getElem?_set_ne (Ne.symm hj)] at e2
        obtain ⟨u',r',q⟩ := hl j y v' e1 e2 e3
        refine ⟨u',r',?_⟩
        rcases q with q | ⟨k,c',e,z'⟩
        · exact .inl q
        · refine .inr ⟨k,c',e,z'.sameBut hs ?_⟩
          rintro rfl
          exact hj (nodup_ix hN e1 (I.ok.inj _ _ _ e hc ▸ hi))
    · by_cases hcc : c' = c
      · subst hcc; exact ⟨_,hc'⟩
      · obtain ⟨w2,z2⟩ := I.cell y c' e
        exact ⟨w2,z2.sameBut hs hcc⟩
    · obtain ⟨e,n,ne,nf,d⟩ := I.pin p hp
      refine ⟨(hs.2 p.1 ?_).trans e,n,ne,nf,d⟩
      intro q
      rw [q,hoc] at e
      have q' : oc = p.2 := Option.some.inj e
      exact d w' (by rw [← q']; exact hocd)
theorem store_ok {M : Model} {A : Around} {E : Value→Shared→Prop} {i : Nat} {x : Str} {v : V} {u : Value} {Q : Unit→Shared→Prop} (I : Inv X pins σ H s) (hN : X.N.Nodup) (hi : X.N[i]? = some x) (hx : Loc X.env.scope x) (r : RelV v u)
    (h : ∀ s',Inv X pins (σ.set i (some v)) H s' → Q () s') (hf : X.fn x = true ∨ X.env.scope.names.lookup x = some .local := by first | exact .inl rfl | exact .inr rfl | assumption) : wpAny M A (storeName X.env x u) Q E s :=
  store_ok2 I hN hi hx r (λ s' I' _ => h s' I') hf
theorem Inv.call' {s' : Shared} {ch : List Addr} (I : Inv X pins σ H s) (ho : s'.os = s.os) (u : Un (frs X.stack) ch H H' s.heap s'.heap) (hok : HOk X.prog X.w H' s'.heap) (hg : AllBare s'.gens)
    (hch : ∀ b ∈ ch,(b ∈ X.ex ∨ X.s₀.heap.objs.size ≤ b) ∧ b ≠ X.env.locals ∧ (∀ x c,X.env.cells.lookup x = some c → c ≠ b) ∧ ∀ p ∈ X.pn ++ pins,p.1 ≠ b) : Inv X pins σ H' s' := by
  obtain ⟨h',g',d',t',o'⟩ := s'
  have e : o' = s.os := ho
  subst e
  exact I.call (g' := g') (t' := t') (d' := d') u hok hg hch
end
abbrev XK := Value → Option Addr → Hp → Prop
abbrev St := List (Option V)
abbrev VK := V → Hp → Prop
abbrev TE := St → Hp → VK → Prop
abbrev TT := St → Hp → (Bool → Hp → Prop) → Prop
abbrev TA := St → Hp → (List V → Hp → Prop) → Prop
structure Ends where
  nx : St → Hp → Prop
  rt : VK
  bk : St → Hp → Prop := λ _ _ => False
  ct : St → Hp → Prop := λ _ _ => False
abbrev TS := Ends → St → Hp → Prop
def EP (X : Cx) (pins : List (Addr × Obj)) (σ : St) (Q : VK) (u : Value) (s' : Shared) : Prop := ∃ v H',Inv X pins σ H' s'∧RelV v u∧Q v H'
def TP (X : Cx) (pins : List (Addr × Obj)) (σ : St) (Q : Bool→Hp→Prop) (b : Bool) (s' : Shared) : Prop := ∃ H',Inv X pins σ H' s'∧Q b H'
def AP (X : Cx) (pins : List (Addr × Obj)) (σ : St) (Q : List V→Hp→Prop) (us : List Value) (s' : Shared) : Prop := ∃ vs H',Inv X pins σ H' s'∧Vals vs us∧Q vs H'
def SP (X : Cx) (pins : List (Addr × Obj)) (D : Ends) (f : Flow) (s' : Shared) : Prop :=
  match f with
  | .next => ∃ σ' H',Inv X pins σ' H' s' ∧ D.nx σ' H'
  | .brk => ∃ σ' H',Inv X pins σ' H' s' ∧ D.bk σ' H'
  | .cont => ∃ σ' H',Inv X pins σ' H' s' ∧ D.ct σ' H'
  | .ret u => ∃ v σ' H',Inv X pins σ' H' s' ∧ RelV v u ∧ D.rt v H'
def PE (X : Cx) (e : Expr) (t : TE) : Prop :=
  ∀ (pins : List (Addr × Obj)) (s : Shared) (σ : St) (H : Hp) (Q : VK),Inv X pins σ H s → t σ H Q → wpAny (model X.prog X.w) X.A (eval e X.env) (EP X pins σ Q) X.xe s
def PT (X : Cx) (e : Expr) (t : TT) : Prop :=
  ∀ (pins : List (Addr × Obj)) (s : Shared) (σ : St) (H : Hp) (Q : Bool → Hp → Prop),Inv X pins σ H s → t σ H Q → wpAny (model X.prog X.w) X.A (isTrue e X.env (eval e X.env)) (TP X pins σ Q) X.xe s
def PW (X : Cx) (e : Expr) (t : TT) : Prop :=
  ∀ (whole : Sem Value) (pins : List (Addr × Obj)) (s : Shared) (σ : St) (H : Hp) (Q : Bool → Hp → Prop),Inv X pins σ H s → t σ H Q → wpAny (model X.prog X.w) X.A (isTrue e X.env whole) (TP X pins σ Q) X.xe s
theorem PW.pt {X : Cx} {e : Expr} {t : TT} (h : PW X e t) : PT X e t := h _
def PA (X : Cx) (es : List Expr) (t : TA) : Prop :=
  ∀ (pos : Pos) (pins : List (Addr × Obj)) (s : Shared) (σ : St) (H : Hp) (Q : List V → Hp → Prop),Inv X pins σ H s → t σ H Q → wpAny (model X.prog X.w) X.A (spliced (backTo pos (starEach es X.env))) (AP X pins σ Q) X.xe s
def PS (X : Cx) (st : Stmt) (t : TS) : Prop :=
  ∀ (pins : List (Addr × Obj)) (s : Shared) (σ : St) (H : Hp) (D : Ends),Inv X pins σ H s → t D σ H → wpAny (model X.prog X.w) X.A (exec st X.env) (SP X pins D) X.xe s
def PSs (X : Cx) (st : List Stmt) (t : TS) : Prop :=
  ∀ (pins : List (Addr × Obj)) (s : Shared) (σ : St) (H : Hp) (D : Ends),Inv X pins σ H s → t D σ H → wpAny (model X.prog X.w) X.A (execs st X.env) (SP X pins D) X.xe s
theorem thn {α : Type} {t : Sem α} {Q Q' : α→Shared→Prop} {M : Model} {A : Around} {E : Value→Shared→Prop} {s : Shared} (h : wpAny M A t Q E s) (hQ : ∀ a s,Q a s→Q' a s) : wpAny M A t Q' E s := wpAny_mono h hQ λ _ _ x => x
end L2
namespace L2
open PySem PySem.Spec PyProof.Rows
section
variable {X : Cx}
theorem bin {a b : Expr} {ta tb : TE} (ha : PE X a ta) (hb : PE X b tb) {pins : List (Addr × Obj)} {s : Shared} {σ : St} {H : Hp} {R : V→V→Hp→Prop} (I : Inv X pins σ H s) (h : ta σ H λ x H1 => tb σ H1 λ y H2 => R x y H2)
    {α : Type} {Q : α → Shared → Prop} {f : Value → Value → Sem α}
    (hf : ∀ v u s2 x y H2,Inv X pins σ H2 s2 → RelV x v → RelV y u → R x y H2 → wpAny (model X.prog X.w) X.A (f v u) Q X.xe s2) :
    wpAny (model X.prog X.w) X.A (eval a X.env) (λ v s₁ => wpAny (model X.prog X.w) X.A (eval b X.env) (λ u s₂ => wpAny (model X.prog X.w) X.A (f v u) Q X.xe s₂) X.xe s₁) X.xe s := by
  refine thn (ha pins s σ H _ I h) λ v s1 ⟨x,H1,I1,r1,q1⟩ => ?_
  refine thn (hb pins s1 σ H1 _ I1 q1) λ u s2 ⟨y,H2,I2,r2,q2⟩ => ?_
  exact hf v u s2 x y H2 I2 r1 r2 q2
def tVar (i : Nat) : TE := λ σ H Q => ∃ v,σ[i]? = some (some v)∧Q v H
def tC (v : V) : TE := λ _ H Q => Q v H
theorem pe_var {i : Nat} {x : Str} {pos : Pos} (hN : X.N[i]? = some x) (hv : Vis X.env.scope x) (hd : (x == ("__debug__" : Str)) = false := by decide) (hcd : (x == ("__classdict__" : Str)) = false := by decide) : PE X (.Name x pos) (tVar i) := by
  intro pins s σ H Q I h
  obtain ⟨v,e,h⟩ := h
  obtain ⟨m,hn,hl⟩ := I.loc
  obtain ⟨u,r,l⟩ := hl i x v hN e hv
  have fin : EP X pins σ Q u s := ⟨v,H,I,r,h⟩
  rcases l with ⟨hk,hm⟩ | ⟨hk,c,hc,hcell⟩
  · exact wpAny_Name (wpAny_loadName_local I.ok.kind hk hn hm fin) hd
  · rcases hk with hk | hk
    · exact wpAny_Name (wpAny_loadName_cell I.ok.kind hk hc hcell fin) hd
    · exact wpAny_Name (wpAny_loadName_free I.ok.kind hk hc hcell fin hcd) hd
theorem pe_int {i j pos} : PE X (.Constant (.int i) j pos) (tC (.int i)) := λ _ _ _ H _ I h => wpAny_Constant_int ⟨.int i,H,I.tok _,⟨_,rfl⟩,h⟩
theorem pe_bl {b j pos} : PE X (.Constant (.bool b) j pos) (tC (.bl b)) := λ _ _ _ H _ I h => Constant_bool ⟨.bl b,H,I,rfl,h⟩
theorem pe_str {x j pos} : PE X (.Constant (.str x) j pos) (tC (.str x)) := λ _ _ _ H _ I h => Calls.Constant_str ⟨.str x,H,I.tok _,⟨_,rfl⟩,h⟩
def Gl (X : Cx) (x : Str) : Prop := X.env.kindOf x = some .globalImplicit
theorem ld_glob {E : Value→Shared→Prop} {pins : List (Addr × Obj)} {s : Shared} {σ : St} {H : Hp} {x : Str} {u : Value} {pos : Pos} {Q : Value→Shared→Prop} (I : Inv X pins σ H s) (hg : Gl X x) (hm : X.mg x = some u) (h : Q u s)
    (hd : (x == ("__debug__" : Str)) = false := by decide) : wpAny (model X.prog X.w) X.A (eval (.Name x pos) X.env) Q E s :=
  Calls.Name_function_global I.ok.kind hg (Calls.loadGlobal_global (by rw [I.ok.glob]; exact I.mod.glob.keeps I.bk) hm h) hd
theorem ld_blt {E : Value→Shared→Prop} {pins : List (Addr × Obj)} {s : Shared} {σ : St} {H : Hp} {x : Str} {u : Value} {pos : Pos} {Q : Value→Shared→Prop} (I : Inv X pins σ H s) (hg : Gl X x) (hm : X.mg x = none) (hv : bootBuiltins x = some u) (h : Q u s)
    (hn : x ≠ "__name__" := by decide) (hd : (x == ("__debug__" : Str)) = false := by decide) : wpAny (model X.prog X.w) X.A (eval (.Name x pos) X.env) Q E s := by
  obtain ⟨mb,h1,h2⟩ := I.mod.blt
  exact Calls.Name_function_global I.ok.kind hg (Calls.loadGlobal_builtin (by rw [I.ok.glob]; exact I.mod.glob.keeps I.bk) hm (by rw [I.ok.blt]; exact h1.keeps I.bk) ((h2 x hn).trans hv) h) hd
theorem pe_glob {x : Str} {v : V} {u : Value} {pos : Pos} (hg : Gl X x) (hm : X.mg x = some u) (r : RelV v u) (hd : (x == ("__debug__" : Str)) = false := by decide) : PE X (.Name x pos) (tC v) :=
  λ _ _ _ H _ I h => ld_glob I hg hm ⟨v,H,I,r,h⟩ hd
theorem pe_bltn {x : Str} {v : V} {u : Value} {pos : Pos} (hg : Gl X x) (hm : X.mg x = none) (hv : bootBuiltins x = some u) (r : RelV v u) (hn : x≠"__name__" := by decide) (hd : (x == ("__debug__" : Str)) = false := by decide) : PE X (.Name x pos) (tC v) :=
  λ _ _ _ H _ I h => ld_blt I hg hm hv ⟨v,H,I,r,h⟩ hn hd
variable {a b : Expr} {ta tb : TE} {pos : Pos}
def PC (X : Cx) (op : CmpOp) (a b : Expr) (t : TE) : Prop :=
  ∀ (pins : List (Addr × Obj)) (s : Shared) (σ : St) (H : Hp) (Q : VK),Inv X pins σ H s → t σ H Q →
    wpAny (model X.prog X.w) X.A (eval a X.env) (λ v s₁ => wpAny (model X.prog X.w) X.A (eval b X.env) (λ u s₂ => wpAny (model X.prog X.w) X.A (compareOp op v u) (EP X pins σ Q) X.xe s₂) X.xe s₁) X.xe s
def tB (t : TE) : TT := λ σ H Q => t σ H λ x H1 => ∃ c,x = .bl c∧Q c H1
theorem pt_cmp {op : CmpOp} {t : TE} (h : PC X op a b t) (h1 : behindInMarks op b = false := by first | exact nobehind _ (by decide) (by decide) | rfl) : PT X (.Compare a [op] [b] pos) (tB t) := by
  intro pins s σ H Q I hw
  refine wpAny_isTrue_Compare1 (thn (h pins s σ H _ I hw) λ v s1 h1 => thn h1 λ u s2 h2 => thn h2 λ c s3 ⟨x,H1,I1,r1,q1⟩ => ?_) h1
  obtain ⟨d,rfl,q⟩ := q1
  cases r1
  exact wpAny_truthy_bool ⟨H1,I1,q⟩
theorem pt_val {e : Expr} {t : TE} (h : PE X e t) (he : ∀ whole,isTrue e X.env whole = (do let v ← whole; standAt e.pos; holding [v] (truthy v)) := by intro _; rfl) : PT X e (tB t) := by
  intro pins s σ H Q I hw
  refine isTrue_plain (thn (h pins s σ H _ I hw) λ v s1 ⟨x,H1,I1,r1,q1⟩ => ?_) (he _)
  obtain ⟨d,rfl,q⟩ := q1
  cases r1
  exact wpAny_truthy_bool ⟨H1,I1,q⟩
variable {tA tB' : TT} {rest : List Expr}
def tAnd (t u : TT) : TT := λ σ H Q => t σ H λ c H1 => if c = true then u σ H1 Q else Q false H1
def tOr (t u : TT) : TT := λ σ H Q => t σ H λ c H1 => if c = true then Q true H1 else u σ H1 Q
def tNot (t : TT) : TT := λ σ H Q => t σ H λ c H1 => Q (!c) H1
theorem pw_and1 (ha : PT X a tA) : PW X (.BoolOp .And [a] pos) tA := by
  intro wh pins s σ H Q I h
  refine isTrue_and (thn (ha pins s σ H Q I h) λ c s1 e => ?_)
  cases c with
  | true => exact isTrue_and_nil e
  | false => exact e
theorem pw_or1 (ha : PT X a tA) : PW X (.BoolOp .Or [a] pos) tA := by
  intro wh pins s σ H Q I h
  refine isTrue_or (thn (ha pins s σ H Q I h) λ c s1 e => ?_)
  cases c with
  | false => exact isTrue_or_nil e
  | true => exact e
theorem pw_and (ha : PT X a tA) (hb : PW X (.BoolOp .And (b :: rest) pos) tB') : PW X (.BoolOp .And (a :: b :: rest) pos) (tAnd tA tB') := by
  intro wh pins s σ H Q I h
  refine isTrue_and (thn (ha pins s σ H _ I h) λ c s1 ⟨H1,I1,q1⟩ => ?_)
  cases c with
  | true => exact hb wh pins s1 σ H1 Q I1 q1
  | false => exact ⟨H1,I1,q1⟩
theorem pw_or (ha : PT X a tA) (hb : PW X (.BoolOp .Or (b :: rest) pos) tB') : PW X (.BoolOp .Or (a :: b :: rest) pos) (tOr tA tB') := by
  intro wh pins s σ H Q I h
  refine isTrue_or (thn (ha pins s σ H _ I h) λ c s1 ⟨H1,I1,q1⟩ => ?_)
  cases c with
  | true => exact ⟨H1,I1,q1⟩
  | false => exact hb wh pins s1 σ H1 Q I1 q1
theorem pt_not (ha : PT X a tA) : PT X (.UnaryOp .Not a pos) (tNot tA) := by
  intro pins s σ H Q I h
  exact isTrue_not (ha pins s σ H (λ c H1 => Q (!c) H1) I h)
def tAndV (ta tb : TE) : TE := λ σ H Q => ta σ H λ x H1 => ∃ c,x = .bl c∧if c = true then tb σ H1 Q else Q (.bl false) H1
def tOrV (ta tb : TE) : TE := λ σ H Q => ta σ H λ x H1 => ∃ c,x = .bl c∧if c = true then Q (.bl true) H1 else tb σ H1 Q
def tNotV (ta : TE) : TE := λ σ H Q => ta σ H λ x H1 => ∃ c,x = .bl c∧Q (.bl (!c)) H1
theorem pe_one {op} {t : TE} (h : PE X a t) : PE X (.BoolOp op [a] pos) t := λ pins s σ H Q I hw => BoolOp_one (h pins s σ H Q I hw)
theorem pe_and (ha : PE X a ta) (hb : PE X (.BoolOp .And (b :: rest) pos) tb) : PE X (.BoolOp .And (a :: b :: rest) pos) (tAndV ta tb) := by
  intro pins s σ H Q I h
  refine BoolOp_and (thn (ha pins s σ H _ I h) λ v s1 ⟨x,H1,I1,r1,q1⟩ => ?_)
  obtain ⟨c,rfl,q1⟩ := q1
  cases r1
  refine wpAny_truthy_bool ?_
  cases c with
  | true => exact hb pins s1 σ H1 Q I1 q1
  | false => exact ⟨.bl false,H1,I1,rfl,q1⟩
theorem pe_or (ha : PE X a ta) (hb : PE X (.BoolOp .Or (b :: rest) pos) tb) : PE X (.BoolOp .Or (a :: b :: rest) pos) (tOrV ta tb) := by
  intro pins s σ H Q I h
  refine BoolOp_or (thn (ha pins s σ H _ I h) λ v s1 ⟨x,H1,I1,r1,q1⟩ => ?_)
  obtain ⟨c,rfl,q1⟩ := q1
  cases r1
  refine wpAny_truthy_bool ?_
  cases c with
  | false => exact hb pins s1 σ H1 Q I1 q1
  | true => exact ⟨.bl true,H1,I1,rfl,q1⟩
theorem pe_not (ha : PE X a ta) : PE X (.UnaryOp .Not a pos) (tNotV ta) := by
  intro pins s σ H Q I h
  refine UnaryOp_ (thn (ha pins s σ H _ I h) λ v s1 ⟨x,H1,I1,r1,q1⟩ => ?_)
  obtain ⟨c,rfl,q1⟩ := q1
  cases r1
  exact not_of (wpAny_truthy_bool ⟨.bl (!c),H1,I1,rfl,q1⟩)
def tIf (t : TT) (ta tb : TE) : TE := λ σ H Q => t σ H λ c H1 => if c = true then ta σ H1 Q else tb σ H1 Q
theorem pe_ifExp {c : Expr} (hc : PT X c tA) (ha : PE X a ta) (hb : PE X b tb) : PE X (.IfExp c a b pos) (tIf tA ta tb) := by
  intro pins s σ H Q I h
  refine wpAny_IfExp (thn (hc pins s σ H _ I h) λ d s1 ⟨H1,I1,q1⟩ => ?_)
  cases d with
  | true => exact ha pins s1 σ H1 Q I1 q1
  | false => exact hb pins s1 σ H1 Q I1 q1
end
end L2
namespace L2
open PySem PySem.Spec PyProof.Rows
def SqL (K : PySem.W.Frag) (H : Hp) (a : Addr) (xs : List V) : Prop :=
  Rd H a (.lst xs) ∨
    ∃ (o : Obj) (its : Array Value) (n : Nat),K.lookup a = some o ∧ o.cls = .type "list" ∧ o.dict = none ∧ o.data = .seq its n ∧ its.size ≤ sizeLine ∧ Vals xs its.toList
def SqT (K : PySem.W.Frag) (H : Hp) (a : Addr) (xs : List V) : Prop :=
  Rd H a (.tup xs) ∨
    ∃ (o : Obj) (its : Array Value) (n : Nat),K.lookup a = some o ∧ o.cls = .type "tuple" ∧ o.data = .seq its n ∧ its.size ≤ sizeLine ∧ Vals xs its.toList
def absV : Value→Option V
  | .none => some .non
  | .bool b => some (.bl b)
  | .int i _ => some (.int i)
  | .str x _ => some (.str x)
  | .bytes b _ => some (.byt b)
  | .float b _ => some (.flt b)
  | .ref a => some (.ref a)
  | .type n => some (.ty n)
  | _ => none
theorem RelV.abs {x : V} {u : Value} (r : RelV x u) : absV u = some x := by
  cases x with
  | non => cases r; rfl
  | bl _ => cases r; rfl
  | int _ => obtain ⟨t,rfl⟩ := r; rfl
  | str _ => obtain ⟨t,rfl⟩ := r; rfl
  | byt _ => obtain ⟨t,rfl⟩ := r; rfl
  | flt _ => obtain ⟨t,rfl⟩ := r; rfl
  | ref _ => cases r; rfl
  | ty _ => cases r; rfl
theorem RelV.inj {x y : V} {u : Value} (r : RelV x u) (q : RelV y u) : x = y := Option.some.inj (r.abs.symm.trans q.abs)
theorem Vals.inj : ∀ {xs ys : List V} {us : List Value},Vals xs us→Vals ys us→xs = ys
  | _,_,_,.nil,.nil => rfl
  | _,_,_,.cons r t,.cons r' t' => by rw [r.inj r',Vals.inj t t']
section
variable {X : Cx} {pins : List (Addr × Obj)} {σ : St} {H : Hp} {s : Shared} {a : Addr} {xs ys : List V}
theorem SqL.of {K : PySem.W.Frag} (h : H a = some (.lst xs)) : SqL K H a xs := .inl (.inl h)
theorem SqT.of {K : PySem.W.Frag} (h : H a = some (.tup xs)) : SqT K H a xs := .inl (.inl h)
theorem Inv.list (I : Inv X pins σ H s) (h : SqL X.K H a xs) : ∃ its : List Value,Vals xs its∧PlainL s.heap a its.toArray∧xs.length≤sizeLine := by
  rcases h with h | ⟨o,its,n,hk,hc,hd,hs,hz,r⟩
  · obtain ⟨z,its,n,r,e⟩ := h.ok I.hok
    exact ⟨its,r,⟨_,n,e,rfl,rfl,rfl⟩,z⟩
  · refine ⟨its.toList,r,⟨o,n,I.kIn a o hk,hc,hd,by simpa using hs⟩,?_⟩
    have e := r.length
    simp only [Array.length_toList] at e
    omega
theorem Inv.tuple (I : Inv X pins σ H s) (h : SqT X.K H a xs) : ∃ its : List Value,Vals xs its∧IsTup s.heap a its.toArray∧xs.length≤sizeLine := by
  rcases h with h | ⟨o,its,n,hk,hc,hs,hz,r⟩
  · obtain ⟨z,its,r,p⟩ := h.ok I.hok
    exact ⟨its,r,p,z⟩
  · refine ⟨its.toList,r,⟨o,I.kIn a o hk,hc,n,by simpa using hs⟩,?_⟩
    have e := r.length
    simp only [Array.length_toList] at e
    omega
theorem Inv.list_inj (I : Inv X pins σ H s) (h : SqL X.K H a xs) (h' : SqL X.K H a ys) : xs = ys := by
  obtain ⟨its,r,⟨o,n,e,_,_,d⟩,_⟩ := I.list h
  obtain ⟨its',r',⟨o',n',e',_,_,d'⟩,_⟩ := I.list h'
  rw [e] at e'; cases e'
  rw [d] at d'
  injection d' with d1 _
  have : its = its' := by simpa using congrArg Array.toList d1
  subst this
  exact r.inj r'
theorem Inv.tuple_inj (I : Inv X pins σ H s) (h : SqT X.K H a xs) (h' : SqT X.K H a ys) : xs = ys := by
  obtain ⟨its,r,⟨o,e,_,n,d⟩,_⟩ := I.tuple h
  obtain ⟨its',r',⟨o',e',_,n',d'⟩,_⟩ := I.tuple h'
  rw [e] at e'; cases e'
  rw [d] at d'
  injection d' with d1 _
  have : its = its' := by simpa using congrArg Array.toList d1
  subst this
  exact r.inj r'
end
abbrev Cx.wish (X : Cx) (E : Value → Shared → Prop) : Cx := { X with xe := E }
abbrev Cx.nox (X : Cx) : Cx := X.wish λ _ _ => False
theorem Cx.Ok.wish {X : Cx} (ok : X.Ok) (E : Value→Shared→Prop) : (X.wish E).Ok :=
  ⟨ok.mod,ok.kind,ok.glob,ok.blt,ok.above,ok.inj,ok.has,ok.cab,ok.hd,ok.frames,ok.stk,ok.exf,ok.bs,ok.bsz,ok.noex,ok.exfs,ok.funs,ok.frf⟩
theorem Cx.Ok.unwish {X : Cx} {E : Value→Shared→Prop} (ok : (X.wish E).Ok) : X.Ok :=
  ⟨ok.mod,ok.kind,ok.glob,ok.blt,ok.above,ok.inj,ok.has,ok.cab,ok.hd,ok.frames,ok.stk,ok.exf,ok.bs,ok.bsz,ok.noex,ok.exfs,ok.funs,ok.frf⟩
section
variable {X : Cx} {pins : List (Addr × Obj)} {σ : St} {H : Hp} {s : Shared} {E : Value→Shared→Prop}
theorem Inv.wish (I : Inv X pins σ H s) (E : Value→Shared→Prop) : Inv (X.wish E) pins σ H s := ⟨I.ok.wish E,I.os,I.bare,I.base,I.loc,I.cell,I.free,I.freeC,I.pin,I.hok,I.len⟩
theorem Inv.unwish (I : Inv (X.wish E) pins σ H s) : Inv X pins σ H s := ⟨I.ok.unwish,I.os,I.bare,I.base,I.loc,I.cell,I.free,I.freeC,I.pin,I.hok,I.len⟩
theorem SP.unwish {D : Ends} {f : Flow} {s' : Shared} (h : SP (X.wish E) pins D f s') : SP X pins D f s' := by
  cases f with
  | next => obtain ⟨σ',H',I,q⟩ := h; exact ⟨σ',H',I.unwish,q⟩
  | brk => obtain ⟨σ',H',I,q⟩ := h; exact ⟨σ',H',I.unwish,q⟩
  | cont => obtain ⟨σ',H',I,q⟩ := h; exact ⟨σ',H',I.unwish,q⟩
  | ret u => obtain ⟨v,σ',H',I,r,q⟩ := h; exact ⟨v,σ',H',I.unwish,r,q⟩
theorem PSs.nox {st : List Stmt} {t : TS} (h : PSs X.nox st t) : PSs X st t := λ pins s σ H D I hw =>
  wpAny_mono (h pins s σ H D (I.wish _) hw) (λ _ _ q => q.unwish) λ _ _ z => False.elim z
end
section
variable {X : Cx} {st : Stmt} {rest : List Stmt} {t u : TS} {e : Expr} {te : TE} {pos : Pos}
def tNext : TS := λ D σ H => D.nx σ H
def tSeq (t u : TS) : TS := λ D σ H => t { D with nx := u D } σ H
theorem pss_nil : PSs X [] tNext := λ _ _ σ H _ I h => wpAny_execs_nil ⟨σ,H,I,h⟩
theorem pss_cons (h1 : PS X st t) (h2 : PSs X rest u) : PSs X (st :: rest) (tSeq t u) := by
  intro pins s σ H D I h
  refine wpAny_execs_cons (thn (h1 pins s σ H { D with nx := u D } I h) λ f s1 q => ?_)
  cases f with
  | next =>
    obtain ⟨σ',H',I',q⟩ := q
    exact h2 pins s1 σ' H' D I' q
  | ret v => exact q
  | brk => exact q
  | cont => exact q
theorem Inv.quiet {pins : List (Addr × Obj)} {σ : St} {H : Hp} {s : Shared} (I : Inv X pins σ H s) : interactive X.env = false := by simp [interactive,I.ok.kind]
def tDrop (te : TE) : TS := λ D σ H => te σ H λ _ H1 => D.nx σ H1
theorem ps_expr (he : PE X e te) (hs : swapsWith e none pos.line X.env = pure false := by rfl) : PS X (.Expr e pos) (tDrop te) := by
  intro pins s σ H D I h
  exact wpAny_Expr_any (thn (he pins s σ H _ I h) λ v s1 ⟨x,H1,I1,r1,q1⟩ => ⟨σ,H1,I1,q1⟩) I.quiet hs
def tRet (te : TE) : TS := λ D σ H => te σ H D.rt
theorem ps_ret (he : PE X e te) : PS X (.Return (some e) pos) (tRet te) := by
  intro pins s σ H D I h
  exact wpAny_Return_some (thn (he pins s σ H _ I h) λ v s1 ⟨x,H1,I1,r1,q1⟩ => ⟨x,σ,H1,I1,r1,q1⟩)
def tIfS (c : TT) (t u : TS) : TS := λ D σ H => c σ H λ b H1 => if b = true then t D σ H1 else u D σ H1
theorem ps_if {c : Expr} {a b : List Stmt} {tc : TT} (hc : PT X c tc) (ha : PSs X a t) (hb : PSs X b u) : PS X (.If c a b pos) (tIfS tc t u) := by
  intro pins s σ H D I h
  refine wpAny_If (thn (hc pins s σ H _ I h) λ d s1 ⟨H1,I1,q1⟩ => ?_)
  cases d with
  | true => exact ha pins s1 σ H1 D I1 q1
  | false => exact hb pins s1 σ H1 D I1 q1
def tNever : TS := λ _ _ _ => False
theorem pss_never {sts : List Stmt} : PSs X sts tNever := λ _ _ _ _ _ _ h => h.elim
end
abbrev TG := V → St → Hp → (St → Hp → Prop) → Prop
abbrev TGs := List V → St → Hp → (St → Hp → Prop) → Prop
def PG (X : Cx) (target : Expr) (t : TG) : Prop :=
  ∀ (pins : List (Addr × Obj)) (s : Shared) (σ : St) (H : Hp) (v : V) (u : Value) (Q : St → Hp → Prop),Inv X pins σ H s → RelV v u → t v σ H Q →
    wpAny (model X.prog X.w) X.A (assign target X.env u) (λ _ s' => ∃ σ' H',Inv X pins σ' H' s' ∧ Q σ' H') X.xe s
def PGs (X : Cx) (ts : List Expr) (t : TGs) : Prop :=
  ∀ (pins : List (Addr × Obj)) (s : Shared) (σ : St) (H : Hp) (vs : List V) (us : List Value) (Q : St → Hp → Prop),Inv X pins σ H s → Vals vs us → t vs σ H Q →
    wpAny (model X.prog X.w) X.A (assignInOrder ((assignEach ts X.env).map (·.2)) us) (λ _ s' => ∃ σ' H',Inv X pins σ' H' s' ∧ Q σ' H') X.xe s
abbrev TIp := V → V → Hp → VK → Prop
def PIp (X : Cx) (op : Operator) (t : TIp) : Prop :=
  ∀ (pins : List (Addr × Obj)) (s : Shared) (σ : St) (H : Hp) (x y : V) (v u : Value) (Q : VK),Inv X pins σ H s → RelV x v → RelV y u → t x y H Q →
    wpAny (model X.prog X.w) X.A (inplaceOp op v u) (EP X pins σ Q) X.xe s
section
variable {X : Cx} {pos : Pos}
def gName (i : Nat) : TG := λ v σ H Q => Q (σ.set i (some v)) H
theorem pg_name {i : Nat} {x : Str} (hN : X.N.Nodup) (hi : X.N[i]? = some x) (hx : Loc X.env.scope x) (hf : X.fn x = true∨X.env.scope.names.lookup x = some .local := by first | exact .inl rfl | exact .inr rfl | assumption) : PG X (.Name x pos) (gName i) := by
  intro pins s σ H v u Q I r h
  exact wpAny_assign_Name (store_ok I hN hi hx r (λ s' I' => ⟨_,H,I',h⟩) hf)
def gNil : TGs := λ vs σ H Q => vs = []∧Q σ H
def gCons (t : TG) (u : TGs) : TGs := λ vs σ H Q => ∃ v r,vs = v :: r∧t v σ H λ σ' H' => u r σ' H' Q
theorem pgs_nil : PGs X [] gNil := by
  intro pins s σ H vs us Q I r h
  obtain ⟨e,h⟩ := h
  subst e
  cases r
  exact assignInOrder_nil ⟨σ,H,I,h⟩
theorem pgs_cons {e : Expr} {es : List Expr} {t : TG} {u : TGs} (h1 : PG X e t) (h2 : PGs X es u)
    (hs : (assignEach (e :: es) X.env).map (·.2) = assign e X.env :: (assignEach es X.env).map (·.2) := by rfl) : PGs X (e :: es) (gCons t u) := by
  intro pins s σ H vs us Q I r h
  obtain ⟨v,vr,e1,h⟩ := h
  subst e1
  cases r with
  | cons r rr =>
    rw [hs]
    refine assignInOrder_cons (thn (h1 pins s σ H _ _ _ I r h) λ _ s1 ⟨σ1,H1,I1,q1⟩ => ?_)
    exact h2 pins s1 σ1 H1 _ _ Q I1 rr q1
def gTup (K : PySem.W.Frag) (n : Nat) (t : TGs) : TG := λ v σ H Q => ∃ a xs,v = .ref a∧SqT K H a xs∧xs.length = n∧t xs σ H Q
theorem pg_tup {es : List Expr} {k : Nat} {t : TGs} {n : Nat} (hc : X.calm = true) (h : PGs X es t)
    (hn : (assignEach es X.env).length = n := by rfl) (hst : (assignEach es X.env).findIdx? (·.1) = none := by rfl) : PG X (.Tuple es k pos) (gTup X.K n t) := by
  intro pins s σ H v u Q I r hw
  obtain ⟨a,xs,e1,hq,hl,hw⟩ := hw
  subst e1
  cases r
  obtain ⟨its,rv,ht,hz⟩ := I.tuple hq
  refine assign_Tuple_tuple (I.ok.hd hc) ht (by simp [hn,← hl,rv.length]) hst λ h' hx => ?_
  have I1 : Inv X pins σ H { s with heap := h' } := I.kept (t' := s.toks) λ b o e => hx b o (Nat.ne_of_lt (Heap.lt_size e)) e
  exact h pins _ σ H xs _ Q I1 (by simpa using rv) hw
def tAsg (te : TE) (g : TG) : TS := λ D σ H => te σ H λ x H1 => g x σ H1 D.nx
theorem ps_set {i : Nat} {x : Str} {e : Expr} {te : TE} {pos' : Pos} (hN : X.N.Nodup) (hi : X.N[i]? = some x) (hx : Loc X.env.scope x) (he : PE X e te) (hs : swapsWith e (some (.Name x pos')) pos.line X.env = pure false := by rfl) (hf : X.fn x = true∨X.env.scope.names.lookup x = some .local := by first | exact .inl rfl | exact .inr rfl | assumption) :
    PS X (.Assign [.Name x pos'] e pos) (tAsg te (gName i)) := by
  intro pins s σ H D I h
  refine wpAny_Assign_Name (thn (he pins s σ H _ I h) λ v s1 ⟨y,H1,I1,r1,q1⟩ => ?_) hs
  exact store_ok I1 hN hi hx r1 (λ s2 I2 => ⟨_,H1,I2,q1⟩) hf
def tAug (i : Nat) (te : TE) (ti : TIp) : TS := λ D σ H => ∃ x,σ[i]? = some (some x)∧te σ H λ y H1 => ti x y H1 λ z H2 => D.nx (σ.set i (some z)) H2
theorem ps_aug {i : Nat} {x : Str} {e : Expr} {te : TE} {op : Operator} {ti : TIp} {pos' : Pos} (hN : X.N.Nodup) (hi : X.N[i]? = some x) (hx : Loc X.env.scope x) (he : PE X e te) (ho : PIp X op ti) (hf : X.fn x = true∨X.env.scope.names.lookup x = some .local := by first | exact .inl rfl | exact .inr rfl | assumption) :
    PS X (.AugAssign (.Name x pos') op e pos) (tAug i te ti) := by
  intro pins s σ H D I h
  obtain ⟨v,e1,h⟩ := h
  obtain ⟨m,hn,hl⟩ := I.loc
  have vis : Vis X.env.scope x := by rcases hx with k | k; exact .inl k; exact .inr (.inl k)
  obtain ⟨u,r,l⟩ := hl i x v hi e1 vis
  refine wpAny_AugAssign_Name ?_
  have go : wpAny (model X.prog X.w) X.A (eval e X.env) (λ w s₂ => wpAny (model X.prog X.w) X.A (inplaceOp op u w) (λ r s₃ => wpAny (model X.prog X.w) X.A (storeName X.env x r) (λ _ => SP X pins D .next) X.xe s₃) X.xe s₂) X.xe s := by
    refine thn (he pins s σ H _ I h) λ w s1 ⟨y,H1,I1,r1,q1⟩ => ?_
    refine thn (ho pins s1 σ H1 v y u w _ I1 r r1 q1) λ z s2 ⟨zv,H2,I2,r2,q2⟩ => ?_
    exact store_ok I2 hN hi hx r2 (λ s3 I3 => ⟨_,H2,I3,q2⟩) hf
  rcases l with ⟨hk,hm⟩ | ⟨hk,c,hc,hcell⟩
  · exact wpAny_loadName_local I.ok.kind hk hn hm go
  · rcases hk with hk | hk
    · exact wpAny_loadName_cell I.ok.kind hk hc hcell go
    · rcases hx with k | k
      · have : X.env.scope.names.lookup x = some .free := hk
        rw [k] at this; cases this
      · have : X.env.scope.names.lookup x = some .free := hk
        rw [k] at this; cases this
def ipI (f : Int→Int→Int) : TIp := λ x y H Q => ∃ i j,x = .int i∧y = .int j∧Q (.int (f i j)) H
theorem ip_add : PIp X .Add (ipI λ i j => i + j) := by
  intro pins s σ H x y v u Q I r1 r2 h
  obtain ⟨i,j,e1,e2,q⟩ := h
  subst e1; subst e2
  obtain ⟨t,rfl⟩ := r1
  obtain ⟨t',rfl⟩ := r2
  exact iadd_int ⟨.int _,H,I.tok _,⟨_,rfl⟩,q⟩
end
section
variable {X : Cx} {pos : Pos}
def tWhile (c : TT) (tb : TS) : TS := λ D σ H => ∃ W : Nat→St→Hp→Prop,(∃ m,W m σ H)∧∀ m σ H,W m σ H →
  c σ H λ b H1 => if b = true then ∃ N : St → Hp → Prop,(∀ σ' H',N σ' H' → ∃ m',m' < m ∧ W m' σ' H') ∧ tb { D with nx := N,ct := N,bk := D.nx } σ H1 else D.nx σ H1
theorem ps_while {c : Expr} {body : List Stmt} {tc : TT} {tb : TS} (hp : PassesOwn (model X.prog X.w) X.A X.env X.xe) (hc : PT X c tc) (hb : PSs X body tb) : PS X (.While c body [] pos) (tWhile tc tb) := by
  intro pins s σ H D I h
  obtain ⟨W,⟨m0,w0⟩,turn⟩ := h
  refine wpAny_While (codeAny_whileLoop (λ n s' => ∃ σ' H',Inv X pins σ' H' s' ∧ W n σ' H') ?_ m0 ⟨σ,H,I,w0⟩)
  rintro n s1 ⟨σ1,H1,I1,w1⟩
  refine wpAny_passesOwn hp (thn (hc pins s1 σ1 H1 _ I1 (turn n σ1 H1 w1)) λ b s2 ⟨H2,I2,q2⟩ => ?_)
  cases b with
  | true =>
    obtain ⟨N,hN,q2⟩ := q2
    rw [if_pos rfl]
    refine wpAny_passesOwn hp (thn (hb pins s2 σ1 H2 _ I2 q2) λ f s3 q3 => ?_)
    cases f with
    | next =>
      obtain ⟨σ3,H3,I3,n3⟩ := q3
      obtain ⟨m',hm,w3⟩ := hN σ3 H3 n3
      exact ⟨m',hm,σ3,H3,I3,w3⟩
    | cont =>
      obtain ⟨σ3,H3,I3,n3⟩ := q3
      obtain ⟨m',hm,w3⟩ := hN σ3 H3 n3
      exact ⟨m',hm,σ3,H3,I3,w3⟩
    | brk => exact q3
    | ret v => exact q3
  | false =>
    rw [if_neg Bool.false_ne_true]
    exact wpAny_execs_nil ⟨σ1,H2,I2,q2⟩
end
structure It where
  go : Nat → Hp → Prop
  yld : Nat → Hp → V → Hp → Prop
  stop : Nat → Hp → Prop
def FpOk (X : Cx) (pins : List (Addr × Obj)) (H : Hp) (b : Addr) : Prop :=
  H b = none ∧ b ≠ X.env.locals ∧ b ∉ X.fs ∧ (b ∈ X.ex ∨ X.s₀.heap.objs.size ≤ b) ∧ (∀ x c,X.env.cells.lookup x = some c → c ≠ b) ∧ ∀ p ∈ X.pn ++ pins,p.1 ≠ b
theorem Inv.fpOk {X : Cx} {pins : List (Addr × Obj)} {σ : St} {H H' : Hp} {s : Shared} {b : Addr} (I : Inv X pins σ H s) (hb : s.heap.objs.size≤b) (hn : H' b = none) : FpOk X pins H' b := by
  refine ⟨hn,Nat.ne_of_gt (Nat.lt_of_lt_of_le I.lt hb),I.nofs hb,.inr (Nat.le_trans I.sz hb),λ x c e z => ?_,λ p hp z => ?_⟩
  · obtain ⟨v,q⟩ := I.cell x c e
    exact absurd (Nat.lt_of_lt_of_le q.lt (by rw [z]; exact hb)) (Nat.lt_irrefl _)
  · exact absurd (Nat.lt_of_lt_of_le (Heap.lt_size (I.pin p hp).1) (by rw [z]; exact hb)) (Nat.lt_irrefl _)
structure Turn (P : Program) (w : World) (K : PySem.W.Frag) (tg : Expr) (J : It) (fp : List Addr) (it : Addr) (tn : Nat→Heap→Prop) : Prop where
  mem : it ∈ fp
  obj : ∀ i h,tn i h → ∀ b ∈ fp,∃ o,h.get? b = some o ∧ ∀ v,o.data ≠ .cell v
  keep : ∀ i h h',tn i h → (∀ b ∈ fp,∀ o,h.get? b = some o → h'.get? b = some o) → tn i h'
  item : ∀ (X : Cx),X.prog = P → X.w = w → X.K = K → X.calm = true → ∀ (i : Nat) (pins : List (Addr × Obj)) (s : Shared) (σ : St) (H : Hp) (E : Value → Shared → Prop),Inv X pins σ H s → (∀ b ∈ fp,FpOk X pins H b) → tn i s.heap → J.go i H →
    wpAny (model P w) X.A (pyNext (.ref it)) (λ r s1 => ∃ u,r = some u ∧
      wpAny (model P w) X.A (letOwnedTupleGo tg (.ref it) u) (λ _ s2 => ∃ x H',Inv X pins σ H' s2 ∧ RelV x u ∧ J.yld i H x H' ∧ tn (i + 1) s2.heap ∧ ∀ b ∈ fp,H' b = none) E s1) E s
  done : ∀ (X : Cx),X.prog = P → X.w = w → X.K = K → X.calm = true → ∀ (i : Nat) (pins : List (Addr × Obj)) (s : Shared) (σ : St) (H : Hp) (E : Value → Shared → Prop),Inv X pins σ H s → (∀ b ∈ fp,FpOk X pins H b) → tn i s.heap → J.stop i H →
    wpAny (model P w) X.A (pyNext (.ref it)) (λ r s1 => r = none ∧ Inv X pins σ H s1) E s
  self : ∀ (A : Around) (i : Nat) (s : Shared) (Q : Value → Shared → Prop) (E : Value → Shared → Prop),tn i s.heap → Q (.ref it) s → wpAny (model P w) A (pyIter (.ref it)) Q E s
abbrev TI := St → Hp → (It → Hp → Prop) → Prop
def PIE (X : Cx) (pins : List (Addr × Obj)) (σ : St) (tg : Expr) (R : It→Hp→Prop) (itv : Value) (s2 : Shared) : Prop :=
  ∃ (it : Addr) (fp : List Addr) (tn : Nat → Heap → Prop) (J : It) (H' : Hp),itv = .ref it ∧ Inv X pins σ H' s2 ∧ Turn X.prog X.w X.K tg J fp it tn ∧ tn 0 s2.heap ∧ (∀ b ∈ fp,FpOk X pins H' b) ∧ R J H'
def PI (X : Cx) (tg iter : Expr) (wi : TI) : Prop :=
  ∀ (pins : List (Addr × Obj)) (s : Shared) (σ : St) (H : Hp) (R : It → Hp → Prop),Inv X pins σ H s → wi σ H R →
    wpAny (model X.prog X.w) X.A (eval iter X.env) (λ v s1 => wpAny (model X.prog X.w) X.A (pyIter v) (PIE X pins σ tg R) X.xe s1) X.xe s
theorem go_of {M : Model} {A : Around} {E : Value→Shared→Prop} {s : Shared} {tg : Expr} {it : Addr} {u : Value} {o : Obj} {n : String} {vs : Array Value} {Q : Unit→Shared→Prop} (ho : s.heap.get? it = some o) (hc : o.cls = .type n) (hd : o.data = .fields vs)
    (hn : ["enumerate", "zip", "dict_itemiterator", "dict_reverseitemiterator", "odict_iterator", "itertools.zip_longest", "itertools.pairwise"].contains n = false) (hQ : Q () s) : wpAny M A (letOwnedTupleGo tg (.ref it) u) Q E s := by
  unfold letOwnedTupleGo
  cases tg <;> first
    | exact wpAny_pure hQ
    | (cases u <;> first
        | exact wpAny_pure hQ
        | (refine wpAny_bind (wpAny_load ho ?_)
           rw [hc,hd]
           show wpAny M A (if (["enumerate", "zip", "dict_itemiterator", "dict_reverseitemiterator", "odict_iterator", "itertools.zip_longest", "itertools.pairwise"].contains n && vs[0]? == some (rawInt _)) = true then _ else _) Q E s
           rw [if_neg (by intro h; rw [hn,Bool.false_and] at h; cases h)]
           exact wpAny_pure hQ))
def Itl (K : PySem.W.Frag) (a : Addr) : It :=
  ⟨λ i H => ∃ xs x,SqL K H a xs ∧ xs[i]? = some x,λ i H x H' => H' = H ∧ ∀ xs,SqL K H a xs → xs[i]? = some x,λ i H => ∃ xs,SqL K H a xs ∧ xs.length ≤ i⟩
def Itt (K : PySem.W.Frag) (a : Addr) : It :=
  ⟨λ i H => ∃ xs x,SqT K H a xs ∧ xs[i]? = some x,λ i H x H' => H' = H ∧ ∀ xs,SqT K H a xs → xs[i]? = some x,λ i H => ∃ xs,SqT K H a xs ∧ xs.length ≤ i⟩
def Itr (lo : Int) (n : Nat) : It := ⟨λ i _ => i < n,λ i H x H' => H' = H∧x = .int (lo + i),λ i _ => n≤i⟩
theorem turn_list {P : Program} {w : World} {K : PySem.W.Frag} {tg : Expr} (a it : Addr) : Turn P w K tg (Itl K a) [it] it (λ i h => h.IsListIter it a i) where
  mem := by simp
  obj := λ i h st b hb => by
    have e : b = it := by simpa using hb
    subst e
    obtain ⟨o,e,c,d⟩ := st
    exact ⟨o,e,λ v z => by rw [d] at z; cases z⟩
  keep := λ i h h' st k => st.at λ o e => k it (by simp) o e
  item := by
    intro X hP hw hK hc i pins s σ H E I hf st hg
    subst hP hw hK
    obtain ⟨xs,x,hq,hx⟩ := hg
    obtain ⟨its,rv,p,hz⟩ := I.list hq
    obtain ⟨u,hu,ru⟩ := rv.get hx
    obtain ⟨f0,f1,f2,f3,f4,f5⟩ := hf it (by simp)
    refine wpAny_pyNext_list_item st p.isList (x := u) (by simpa using hu) λ h' st' sb => ?_
    have I1 : Inv X pins σ H { s with heap := h' } := I.turned (t' := s.toks) (λ b o hb e => (sb.2 b hb).trans e) f0 f1 f3 f4 f5
    obtain ⟨o,e,c,d⟩ := id st'
    exact ⟨u,rfl,go_of (s := { s with heap := h' }) e c d (by decide) ⟨x,H,I1,ru,⟨rfl,λ ys hy => by rw [I.list_inj hy hq]; exact hx⟩,st',λ b hb => (hf b hb).1⟩⟩
  done := by
    intro X hP hw hK hc i pins s σ H E I hf st hg
    subst hP hw hK
    obtain ⟨xs,hq,hx⟩ := hg
    obtain ⟨its,rv,p,hz⟩ := I.list hq
    obtain ⟨f0,f1,f2,f3,f4,f5⟩ := hf it (by simp)
    have hl := rv.length
    exact wpAny_pyNext_list_end (I.ok.hd hc) st p.isList (by simp; omega) λ h' eb => ⟨rfl,I.turned (t' := s.toks) (λ b o hb e => eb b o hb e) f0 f1 f3 f4 f5⟩
  self := λ _ _ _ _ _ st h => wpAny_pyIter_listiter st h
theorem turn_tuple {P : Program} {w : World} {K : PySem.W.Frag} {tg : Expr} (a it : Addr) : Turn P w K tg (Itt K a) [it] it (λ i h => h.IsTupleIter it a i) where
  mem := by simp
  obj := λ i h st b hb => by
    have e : b = it := by simpa using hb
    subst e
    obtain ⟨o,e,c,d⟩ := st
    exact ⟨o,e,λ v z => by rw [d] at z; cases z⟩
  keep := λ i h h' st k => st.at λ o e => k it (by simp) o e
  item := by
    intro X hP hw hK hc i pins s σ H E I hf st hg
    subst hP hw hK
    obtain ⟨xs,x,hq,hx⟩ := hg
    obtain ⟨its,rv,p,hz⟩ := I.tuple hq
    obtain ⟨u,hu,ru⟩ := rv.get hx
    obtain ⟨f0,f1,f2,f3,f4,f5⟩ := hf it (by simp)
    refine wpAny_pyNext_tuple_item st (show s.heap.IsTuple a its.toArray from p) (x := u) (by simpa using hu) λ h' st' sb => ?_
    have I1 : Inv X pins σ H { s with heap := h' } := I.turned (t' := s.toks) (λ b o hb e => (sb.2 b hb).trans e) f0 f1 f3 f4 f5
    obtain ⟨o,e,c,d⟩ := id st'
    exact ⟨u,rfl,go_of (s := { s with heap := h' }) e c d (by decide) ⟨x,H,I1,ru,⟨rfl,λ ys hy => by rw [I.tuple_inj hy hq]; exact hx⟩,st',λ b hb => (hf b hb).1⟩⟩
  done := by
    intro X hP hw hK hc i pins s σ H E I hf st hg
    subst hP hw hK
    obtain ⟨xs,hq,hx⟩ := hg
    obtain ⟨its,rv,p,hz⟩ := I.tuple hq
    obtain ⟨f0,f1,f2,f3,f4,f5⟩ := hf it (by simp)
    have hl := rv.length
    exact wpAny_pyNext_tuple_end (I.ok.hd hc) st (show s.heap.IsTuple a its.toArray from p) (by simp; omega) λ h' eb => ⟨rfl,I.turned (t' := s.toks) (λ b o hb e => eb b o hb e) f0 f1 f3 f4 f5⟩
  self := λ _ _ _ _ _ st h => wpAny_pyIter_tupleiter st h
theorem turn_range {P : Program} {w : World} {K : PySem.W.Frag} {tg : Expr} (it : Addr) (lo : Int) (n : Nat) : Turn P w K tg (Itr lo n) [it] it (λ i h => IsRangeIter h it (lo + (i : Nat) * 1) ((n : Int) - (i : Nat)) 1) where
  mem := by simp
  obj := λ i h st b hb => by
    have e : b = it := by simpa using hb
    subst e
    exact ⟨_,st,λ v z => by
      have z' : Data.fields _ = Data.cell v := z
      cases z'⟩
  keep := λ i h h' st k => k it (by simp) _ st
  item := by
    intro X hP hw hK hc i pins s σ H E I hf st hg
    subst hP hw hK
    obtain ⟨f0,f1,f2,f3,f4,f5⟩ := hf it (by simp)
    have W := Walks.range (prog := X.prog) (w := X.w) (I.ok.hd hc) it lo 1 n
    refine W.item i s _ _ hg st λ v h' tk hv st' kk => ?_
    obtain ⟨t,rfl⟩ := hv
    have I1 : Inv X pins σ H { s with heap := h',toks := tk } := I.turned (λ b o hb e => kk b o (by simpa using hb) e) f0 f1 f3 f4 f5
    refine ⟨_,rfl,go_of (s := { s with heap := h',toks := tk }) (n := "range_iterator") st' rfl rfl (by decide) ⟨.int (lo + i),H,I1,⟨t,?_⟩,⟨rfl,rfl⟩,st',λ b hb => (hf b hb).1⟩⟩
    rw [Int.mul_one]
  done := by
    intro X hP hw hK hc i pins s σ H E I hf st hg
    subst hP hw hK
    obtain ⟨f0,f1,f2,f3,f4,f5⟩ := hf it (by simp)
    exact wpAny_pyNext_range_end (I.ok.hd hc) st (by have : n ≤ i := hg; omega) λ h' eb => ⟨rfl,I.turned (t' := s.toks) (λ b o hb e => eb b o hb e) f0 f1 f3 f4 f5⟩
  self := λ _ _ _ _ _ st h => wpAny_pyIter_rangeiter st h
end L2
namespace L2
open PySem PySem.Spec PyProof.Rows
section
variable {X : Cx} {tg : Expr}
def iList (K : PySem.W.Frag) (tl : TE) : TI := λ σ H R => tl σ H λ x H1 => ∃ a,x = .ref a∧(∃ xs,SqL K H1 a xs)∧R (Itl K a) H1
def iTup (K : PySem.W.Frag) (tl : TE) : TI := λ σ H R => tl σ H λ x H1 => ∃ a,x = .ref a∧(∃ xs,SqT K H1 a xs)∧R (Itt K a) H1
theorem pi_list {l : Expr} {tl : TE} (hl : PE X l tl) : PI X tg l (iList X.K tl) := by
  intro pins s σ H R I h
  refine thn (hl pins s σ H _ I h) λ v s1 ⟨x,H1,I1,r1,q1⟩ => ?_
  obtain ⟨a,e,⟨xs,hq⟩,q⟩ := q1
  subst e
  cases r1
  obtain ⟨its,rv,p,hz⟩ := I1.list hq
  refine wpAny_pyIter_list p.isList ?_
  refine ⟨s1.heap.objs.size,[s1.heap.objs.size],_,_,H1,rfl,I1.kept (t' := s1.toks) λ b o e => Heap.get?_push_of_some _ e,turn_list a _,⟨_,Heap.get?_push_size _ rfl,rfl,rfl⟩,λ b hb => ?_,q⟩
  have e : b = s1.heap.objs.size := by simpa using hb
  subst e
  exact I1.fpOk (Nat.le_refl _) (I1.hok.fresh (Nat.le_refl _))
theorem pi_tup {l : Expr} {tl : TE} (hl : PE X l tl) : PI X tg l (iTup X.K tl) := by
  intro pins s σ H R I h
  refine thn (hl pins s σ H _ I h) λ v s1 ⟨x,H1,I1,r1,q1⟩ => ?_
  obtain ⟨a,e,⟨xs,hq⟩,q⟩ := q1
  subst e
  cases r1
  obtain ⟨its,rv,p,hz⟩ := I1.tuple hq
  refine wpAny_pyIter_tuple (show s1.heap.IsTuple a its.toArray from p) ?_
  refine ⟨s1.heap.objs.size,[s1.heap.objs.size],_,_,H1,rfl,I1.kept (t' := s1.toks) λ b o e => Heap.get?_push_of_some _ e,turn_tuple a _,⟨_,Heap.get?_push_size _ rfl,rfl,rfl⟩,λ b hb => ?_,q⟩
  have e : b = s1.heap.objs.size := by simpa using hb
  subst e
  exact I1.fpOk (Nat.le_refl _) (I1.hok.fresh (Nat.le_refl _))
theorem range_it {pins : List (Addr × Obj)} {σ : St} {H : Hp} {s : Shared} {R : It→Hp→Prop} {E : Value→Shared→Prop} {lo hi : Int} {t u v : Tok} {tk : Nat} (I : Inv X pins σ H s) (h1 : -(2 ^ 62)≤lo) (h2 : lo < 2 ^ 62) (h3 : -(2 ^ 62)≤hi) (h4 : hi < 2 ^ 62)
    (q : R (Itr lo (hi - lo).toNat) H) : wpAny (model X.prog X.w) X.A (pyIter (.ref s.heap.objs.size)) (PIE X pins σ tg R) E { s with heap := s.heap.push { cls := .type "range",data := .fields #[.int lo t,.int hi u,.int 1 v] },toks := tk } := by
  refine wpAny_pyIter_range (IsRange.new ..) (small_one h1 h2 h3 h4) ?_
  have I1 : Inv X pins σ H { s with heap := s.heap.push { cls := .type "range",data := .fields #[.int lo t,.int hi u,.int 1 v] },toks := tk } := I.kept λ b o e => Heap.get?_push_of_some _ e
  refine ⟨(s.heap.push { cls := .type "range",data := .fields #[.int lo t,.int hi u,.int 1 v] }).objs.size,[(s.heap.push { cls := .type "range",data := .fields #[.int lo t,.int hi u,.int 1 v] }).objs.size],_,_,H,rfl,
    I1.kept (t' := tk) λ b o e => Heap.get?_push_of_some _ e,turn_range _ lo (hi - lo).toNat,?_,λ b hb => ?_,q⟩
  · have e1 : lo + ((0 : Nat) : Int) * 1 = lo := by simp
    have e2 : (((hi - lo).toNat : Nat) : Int) - ((0 : Nat) : Int) = Builtin.Range.rangeSize lo hi 1 := by rw [rangeSize_one]; split <;> omega
    show IsRangeIter _ _ (lo + ((0 : Nat) : Int) * 1) ((((hi - lo).toNat : Nat) : Int) - ((0 : Nat) : Int)) 1
    rw [e1,e2]
    exact Heap.get?_push_size _ rfl
  · have e : b = (s.heap.push { cls := .type "range",data := .fields #[.int lo t,.int hi u,.int 1 v] }).objs.size := by simpa using hb
    subst e
    exact I1.fpOk (Nat.le_refl _) (I1.hok.fresh (Nat.le_refl _))
def iRng1 (ta : TA) : TI := λ σ H R => ta σ H λ vs H1 => ∃ j : Int,vs = [.int j]∧-(2 ^ 62)≤j∧j < 2 ^ 62∧R (Itr 0 j.toNat) H1
def iRng2 (ta : TA) : TI := λ σ H R => ta σ H λ vs H1 => ∃ i j : Int,vs = [.int i,.int j]∧(-(2 ^ 62)≤i∧i < 2 ^ 62∧-(2 ^ 62)≤j∧j < 2 ^ 62)∧R (Itr i (j - i).toNat) H1
theorem pi_range1 {a : Expr} {ta : TA} {p pos : Pos} (hg : Gl X "range") (hm : X.mg "range" = none) (ha : PA X [a] ta) (hs : starEach [a] X.env = [(false,eval a X.env)] := by rfl) : PI X tg (.Call (.Name "range" p) [a] [] pos) (iRng1 ta) := by
  intro pins s σ H R I h
  refine Call_ (ld_blt I hg hm boot_range (PyProof.Rows.callWith_type1 (thn (ha pos pins s σ H _ I h) λ us s1 ⟨vs,H1,I1,r1,q1⟩ => ?_) hs rfl))
  obtain ⟨j,e,q1,q2,q⟩ := q1
  subst e
  cases r1 with
  | cons r rr =>
    cases rr
    obtain ⟨t,rfl⟩ := r
    exact call_range_1 (range_it I1 (by omega) (by omega) q1 q2 (by simpa using q))
theorem pi_range2 {a b : Expr} {ta : TA} {p pos : Pos} (hg : Gl X "range") (hm : X.mg "range" = none) (ha : PA X [a,b] ta) (hs : starEach [a,b] X.env = [(false,eval a X.env),(false,eval b X.env)] := by rfl) (hs2 : starEach [b] X.env = [(false,eval b X.env)] := by rfl) :
    PI X tg (.Call (.Name "range" p) [a,b] [] pos) (iRng2 ta) := by
  intro pins s σ H R I h
  refine Call_ (ld_blt I hg hm boot_range (PyProof.Rows.callWith_type1 (thn (ha pos pins s σ H _ I h) λ us s1 ⟨vs,H1,I1,r1,q1⟩ => ?_) (by rw [hs,hs2]) (by rw [hs2]; rfl)))
  obtain ⟨i,j,e,⟨q1,q2,q3,q4⟩,q⟩ := q1
  subst e
  cases r1 with
  | cons r rr =>
    cases rr with
    | cons r' rr =>
      cases rr
      obtain ⟨t,rfl⟩ := r
      obtain ⟨t',rfl⟩ := r'
      exact call_range_2 (range_it I1 q1 q2 q3 q4 q)
def tFor (wi : TI) (g : TG) (tb : TS) : TS := λ D σ H => wi σ H λ J H1 => ∃ W : Nat→Nat→St→Hp→Prop,(∃ m,W 0 m σ H1)∧∀ i m σ H,W i m σ H →
  (J.stop i H ∧ D.nx σ H) ∨ (J.go i H ∧ ∃ N : St → Hp → Prop,(∀ σ' H',N σ' H' → ∃ m',m' < m ∧ W (i + 1) m' σ' H') ∧ ∀ x H',J.yld i H x H' → g x σ H' λ σ2 H2 => tb { D with nx := N,ct := N,bk := D.nx } σ2 H2)
def pinsAt (fp : List Addr) (h : Heap) : List (Addr × Obj) := fp.filterMap λ b => (h.get? b).map λ o => (b,o)
theorem mem_pinsAt {fp : List Addr} {h : Heap} {b : Addr} {o : Obj} (hb : b∈fp) (e : h.get? b = some o) : (b,o)∈pinsAt fp h := List.mem_filterMap.mpr ⟨b,hb,by rw [e]; rfl⟩
theorem of_pinsAt {fp : List Addr} {h : Heap} {p : Addr × Obj} (hp : p∈pinsAt fp h) : p.1∈fp∧h.get? p.1 = some p.2 := by
  obtain ⟨b,hb,e⟩ := List.mem_filterMap.mp hp
  cases q : h.get? b with
  | none => rw [q] at e; cases e
  | some o =>
    rw [q] at e
    have e' : (b,o) = p := Option.some.inj e
    subst e'
    exact ⟨hb,q⟩
theorem Inv.pinned {pins : List (Addr × Obj)} {σ : St} {H : Hp} {s : Shared} {fp : List Addr} (I : Inv X pins σ H s) (hf : ∀ b∈fp,FpOk X pins H b) (ho : ∀ b∈fp,∃ o,s.heap.get? b = some o∧∀ v,o.data≠.cell v) : Inv X (pins ++ pinsAt fp s.heap) σ H s :=
  I.pins_of λ p hp => (List.mem_append.mp hp).elim (λ z => I.pin p (List.mem_append_right _ z)) λ z => by
    obtain ⟨hb,e⟩ := of_pinsAt z
    obtain ⟨f0,f1,f2,_⟩ := hf p.1 hb
    obtain ⟨o,e',d⟩ := ho p.1 hb
    rw [e] at e'; cases e'
    exact ⟨e,f0,f1,f2,d⟩
theorem Inv.unpinned {pins pl : List (Addr × Obj)} {σ : St} {H : Hp} {s : Shared} (I : Inv X (pins ++ pl) σ H s) : Inv X pins σ H s := I.pins_of λ p hp => I.pin p (List.mem_append_right _ (List.mem_append_left _ hp))
theorem ps_for {iter : Expr} {body : List Stmt} {wi : TI} {g : TG} {tb : TS} {pos : Pos} (hp : PassesOwn (model X.prog X.w) X.A X.env X.xe) (hc : X.calm = true) (hi : PI X tg iter wi) (hg : PG X tg g) (hb : PSs X body tb)
    (hs : ∀ x,foldedSetIterable iter X.env x = pure x := by intro _; rfl) : PS X (.For tg iter body [] pos) (tFor wi g tb) := by
  intro pins s σ H D I h
  refine wpAny_For (thn (hi pins s σ H _ I h) λ v s1 h1 => thn h1 λ itv s2 h2 => ?_) hs
  obtain ⟨it,fp,tn,J,H2,e,I2,T,st2,f2,W,⟨m0,w0⟩,turn⟩ := h2
  subst e
  -- what stays true of the iterator's objects through the loop
  have stat : ∀ {H' : Hp},(∀ b ∈ fp,H' b = none) → ∀ b ∈ fp,FpOk X pins H' b := λ hn b hb => ⟨hn b hb,(f2 b hb).2⟩
  refine codeAny_forLoop_any (λ n s' => ∃ i σ' H',Inv X pins σ' H' s' ∧ tn i s'.heap ∧ (∀ b ∈ fp,H' b = none) ∧ W i n σ' H') ?_ m0 ⟨0,σ,H2,I2,st2,λ b hb => (f2 b hb).1,w0⟩
  rintro n s3 ⟨i,σ3,H3,I3,st3,fr3,w3⟩
  rcases turn i n σ3 H3 w3 with ⟨stop,qn⟩ | ⟨go,N,hN,step⟩
  · refine wpAny_passesOwn hp (thn (T.done X rfl rfl rfl hc i pins s3 σ3 H3 X.xe I3 (stat fr3) st3 stop) λ r s4 ⟨hr,I4⟩ => ?_)
    subst hr
    exact wpAny_execs_nil ⟨σ3,H3,I4,qn⟩
  · refine wpAny_passesOwn hp (thn (T.item X rfl rfl rfl hc i pins s3 σ3 H3 X.xe I3 (stat fr3) st3 go) λ r s4 ⟨u,hr,h4⟩ => ?_)
    subst hr
    refine wpAny_passesOwn hp (thn h4 λ _ s5 ⟨x,H5,I5,r5,y5,st5,fr5⟩ => ?_)
    have I5' := I5.pinned (stat fr5) (T.obj _ _ st5)
    refine wpAny_passesOwn hp (thn (hg _ s5 σ3 H5 x u _ I5' r5 (step x H5 y5)) λ _ s6 ⟨σ6,H6,I6,q6⟩ => ?_)
    refine wpAny_passesOwn hp (thn (hb _ s6 σ6 H6 _ I6 q6) λ f s7 q7 => ?_)
    have again : ∀ {σ7 : St} {H7 : Hp},Inv X (pins ++ pinsAt fp s5.heap) σ7 H7 s7 → N σ7 H7 → ∃ m,m < n ∧ ∃ i σ' H',Inv X pins σ' H' s7 ∧ tn i s7.heap ∧ (∀ b ∈ fp,H' b = none) ∧ W i m σ' H' := λ {σ7 H7} I7 n7 => by
      obtain ⟨m',hm,w7⟩ := hN σ7 H7 n7
      refine ⟨m',hm,i + 1,σ7,H7,I7.unpinned,T.keep _ _ _ st5 λ b hb o e => (I7.pin (b,o) (List.mem_append_right _ (List.mem_append_right _ (mem_pinsAt hb e)))).1,λ b hb => ?_,w7⟩
      obtain ⟨o,e,d⟩ := T.obj _ _ st5 b hb
      exact (I7.pin (b,o) (List.mem_append_right _ (List.mem_append_right _ (mem_pinsAt hb e)))).2.1
    cases f with
    | next => obtain ⟨σ7,H7,I7,n7⟩ := q7; exact again I7 n7
    | cont => obtain ⟨σ7,H7,I7,n7⟩ := q7; exact again I7 n7
    | brk => obtain ⟨σ7,H7,I7,q7⟩ := q7; exact ⟨σ7,H7,I7.unpinned,q7⟩
    | ret v => obtain ⟨x7,σ7,H7,I7,r7,q7⟩ := q7; exact ⟨x7,σ7,H7,I7.unpinned,r7,q7⟩
end
end L2
namespace L2
open PySem PySem.Spec PyProof.Rows
abbrev R2 := V → V → Hp → VK → Prop
def OpR (X : Cx) (f : Value→Value→Sem Value) (r : R2) : Prop :=
  ∀ (pins : List (Addr × Obj)) (s : Shared) (σ : St) (H : Hp) (x y : V) (v u : Value) (Q : VK),Inv X pins σ H s → RelV x v → RelV y u → r x y H Q →
    wpAny (model X.prog X.w) X.A (f v u) (EP X pins σ Q) X.xe s
def UnR (X : Cx) (f : Value→Sem Value) (r : V→Hp→VK→Prop) : Prop :=
  ∀ (pins : List (Addr × Obj)) (s : Shared) (σ : St) (H : Hp) (x : V) (v : Value) (Q : VK),Inv X pins σ H s → RelV x v → r x H Q →
    wpAny (model X.prog X.w) X.A (f v) (EP X pins σ Q) X.xe s
def CallR (X : Cx) (f : Value) (r : List V→Hp→VK→Prop) : Prop :=
  ∀ (pins : List (Addr × Obj)) (s : Shared) (σ : St) (H : Hp) (xs : List V) (us : List Value) (Q : VK),Inv X pins σ H s → Vals xs us → r xs H Q →
    wpAny (model X.prog X.w) X.A (call f us) (EP X pins σ Q) X.xe s
def TruR (X : Cx) (r : V→Hp→(Bool→Hp→Prop)→Prop) : Prop :=
  ∀ (pins : List (Addr × Obj)) (s : Shared) (σ : St) (H : Hp) (x : V) (v : Value) (Q : Bool → Hp → Prop),Inv X pins σ H s → RelV x v → r x H Q →
    wpAny (model X.prog X.w) X.A (truthy v) (TP X pins σ Q) X.xe s
def tOp (r : R2) (ta tb : TE) : TE := λ σ H Q => ta σ H λ x H1 => tb σ H1 λ y H2 => r x y H2 Q
def tUn (r : V→Hp→VK→Prop) (ta : TE) : TE := λ σ H Q => ta σ H λ x H1 => r x H1 Q
def rI (C : Int→Int→Prop) (g : Int→Int→V) : R2 := λ x y H Q => ∃ i j,x = .int i∧y = .int j∧C i j∧Q (g i j) H
def rI0 (g : Int→Int→V) : R2 := λ x y H Q => ∃ i j,x = .int i∧y = .int j∧Q (g i j) H
def rU (g : Int→V) : V→Hp→VK→Prop := λ x H Q => ∃ i,x = .int i∧Q (g i) H
section
variable {X : Cx} {a b c : Expr} {ta tb tc : TE} {pos : Pos}
theorem binT (ha : PE X a ta) (hb : PE X b tb) {pins : List (Addr × Obj)} {s : Shared} {σ : St} {H : Hp} {R : V→V→Hp→Prop} (I : Inv X pins σ H s)
    (h : ta σ H λ x H1 => tb σ H1 λ y H2 => R x y H2) {Q : Value → Shared → Prop} {f : Value → Value → Sem Value}
    (hf : ∀ v u s2 x y H2,Inv X pins σ H2 s2 → RelV x v → RelV y u → R x y H2 → wpAny (model X.prog X.w) X.A (f v u) Q X.xe s2) :
    wpAny (model X.prog X.w) X.A (eval a X.env) (λ v s₁ => wpAny (model X.prog X.w) X.A (eval b X.env) (λ u s₂ => wpAny (model X.prog X.w) X.A (f v u) Q X.xe s₂) X.xe s₁) X.xe s := by
  refine thn (ha pins s σ H _ I h) λ v s1 ⟨x,H1,I1,r1,q1⟩ => ?_
  refine thn (hb pins s1 σ H1 _ I1 q1) λ u s2 ⟨y,H2,I2,r2,q2⟩ => ?_
  exact hf v u s2 x y H2 I2 r1 r2 q2
theorem pe_op {op : Operator} {r : R2} (ho : OpR X (binaryOp op) r) (ha : PE X a ta) (hb : PE X b tb) : PE X (.BinOp a op b pos) (tOp r ta tb) := by
  intro pins s σ H Q I h
  exact wpAny_BinOp (binT ha hb I h λ v u s2 x y H2 I2 rx ry q => ho pins s2 σ H2 x y v u Q I2 rx ry q)
theorem pe_un {op : UnaryOp} {r : V→Hp→VK→Prop} (ho : UnR X (unaryOp op) r) (ha : PE X a ta) : PE X (.UnaryOp op a pos) (tUn r ta) := by
  intro pins s σ H Q I h
  exact UnaryOp_ (thn (ha pins s σ H _ I h) λ v s1 ⟨x,H1,I1,r1,q1⟩ => ho pins s1 σ H1 x v Q I1 r1 q1)
theorem opI {f : Value→Value→Sem Value} {C : Int→Int→Prop} {g : Int→Int→Int}
    (rule : ∀ (i j : Int) (t u : Tok) (s : Shared) (Q : Value → Shared → Prop) (E : Value → Shared → Prop),C i j → Q (.int (g i j) s.toks) { s with toks := s.toks + 1 } → wpAny (model X.prog X.w) X.A (f (.int i t) (.int j u)) Q E s) :
    OpR X f (rI C λ i j => .int (g i j)) := by
  intro pins s σ H x y v u Q I rx ry h
  obtain ⟨i,j,rfl,rfl,hc,q⟩ := h
  obtain ⟨t,rfl⟩ := rx
  obtain ⟨t',rfl⟩ := ry
  exact rule i j t t' s _ _ hc ⟨.int (g i j),H,I.tok _,⟨_,rfl⟩,q⟩
theorem opI0 {f : Value→Value→Sem Value} {g : Int→Int→Int}
    (rule : ∀ (i j : Int) (t u : Tok) (s : Shared) (Q : Value → Shared → Prop) (E : Value → Shared → Prop),Q (.int (g i j) s.toks) { s with toks := s.toks + 1 } → wpAny (model X.prog X.w) X.A (f (.int i t) (.int j u)) Q E s) :
    OpR X f (rI0 λ i j => .int (g i j)) := by
  intro pins s σ H x y v u Q I rx ry h
  obtain ⟨i,j,rfl,rfl,q⟩ := h
  obtain ⟨t,rfl⟩ := rx
  obtain ⟨t',rfl⟩ := ry
  exact rule i j t t' s _ _ ⟨.int (g i j),H,I.tok _,⟨_,rfl⟩,q⟩
theorem opB0 {f : Value→Value→Sem Value} {g : Int→Int→Bool}
    (rule : ∀ (i j : Int) (t u : Tok) (s : Shared) (Q : Value → Shared → Prop) (E : Value → Shared → Prop),Q (.bool (g i j)) s → wpAny (model X.prog X.w) X.A (f (.int i t) (.int j u)) Q E s) :
    OpR X f (rI0 λ i j => .bl (g i j)) := by
  intro pins s σ H x y v u Q I rx ry h
  obtain ⟨i,j,rfl,rfl,q⟩ := h
  obtain ⟨t,rfl⟩ := rx
  obtain ⟨t',rfl⟩ := ry
  exact rule i j t t' s _ _ ⟨.bl (g i j),H,I,rfl,q⟩
theorem op_add : OpR X (binaryOp .Add) (rI0 λ i j => .int (i + j)) := opI0 λ _ _ _ _ _ _ _ q => add_int q
theorem op_sub : OpR X (binaryOp .Sub) (rI0 λ i j => .int (i - j)) := opI0 λ _ _ _ _ _ _ _ q => sub_int q
theorem op_mod : OpR X (binaryOp .Mod) (rI (λ _ j => 0 < j) λ i j => .int (i % j)) := opI λ i j _ _ _ _ _ hc q => by
  have h1 : (0 : Int) < j := hc
  exact mod_int' (by omega) (by rw [Int.fmod_eq_emod_of_nonneg i (by omega)]; exact q)
theorem unI {f : Value→Sem Value} {g : Int→Int}
    (rule : ∀ (i : Int) (t : Tok) (s : Shared) (Q : Value → Shared → Prop) (E : Value → Shared → Prop),Q (.int (g i) s.toks) { s with toks := s.toks + 1 } → wpAny (model X.prog X.w) X.A (f (.int i t)) Q E s) :
    UnR X f (rU λ i => .int (g i)) := by
  intro pins s σ H x v Q I rx h
  obtain ⟨i,rfl,q⟩ := h
  obtain ⟨t,rfl⟩ := rx
  exact rule i t s _ _ ⟨.int (g i),H,I.tok _,⟨_,rfl⟩,q⟩
theorem un_neg : UnR X (unaryOp .USub) (rU λ i => .int (-i)) := unI λ _ _ _ _ _ q => neg_int q
end
def scal : V→V→Bool
  | .non,.non => true | .non,.int _ => true | .int _,.non => true | .non,.bl _ => true | .bl _,.non => true | .non,.str _ => true | .str _,.non => true
  | .int _,.int _ => true | .bl _,.bl _ => true | .str _,.str _ => true | .byt _,.byt _ => true
  | .int _,.str _ => true | .str _,.int _ => true | .bl _,.str _ => true | .str _,.bl _ => true
  | _,_ => false
def rEq : R2 := λ x y H Q => scal x y = true∧Q (.bl (decide (x = y))) H
def rNe : R2 := λ x y H Q => scal x y = true∧Q (.bl (!decide (x = y))) H
theorem dec_int {i j : Int} : decide (V.int i = V.int j) = (i == j) := by
  rw [Bool.eq_iff_iff]
  simp
theorem dec_bl {i j : Bool} : decide (V.bl i = V.bl j) = (i == j) := by
  rw [Bool.eq_iff_iff]
  simp
theorem dec_str {i j : Str} : decide (V.str i = V.str j) = (i == j) := by
  rw [Bool.eq_iff_iff]
  simp
theorem dec_byt {i j : Array UInt8} : decide (V.byt i = V.byt j) = (i.toList == j.toList) := by
  rw [Bool.eq_iff_iff]
  cases i
  cases j
  simp
section
variable {X : Cx} {a b c : Expr} {ta tb tc : TE} {pos : Pos}
theorem fin_bl {pins : List (Addr × Obj)} {σ : St} {H : Hp} {s : Shared} {Q : VK} {k k' : Bool} (I : Inv X pins σ H s) (q : Q (.bl k) H) (e : k = k') : EP X pins σ Q (.bool k') s := by
  subst e
  exact ⟨.bl k,H,I,rfl,q⟩
theorem op_eq : OpR X (compareOp .Eq) rEq := by
  intro pins s σ H x y v u Q I rx ry h
  obtain ⟨hs,q⟩ := h
  cases x with
  | non =>
    cases rx
    cases y with
    | non => cases ry; exact PySem.EqNone.eq_none_none (fin_bl I q (by simp))
    | bl j => cases ry; exact PySem.EqNone.eq_none_bool (fin_bl I q (by simp))
    | int j => obtain ⟨t',rfl⟩ := ry; exact PySem.EqNone.eq_none_int (fin_bl I q (by simp))
    | str j => obtain ⟨t',rfl⟩ := ry; exact PySem.EqNone.eq_none_str (fin_bl I q (by simp))
    | _ => exact absurd (show false = true from hs) Bool.false_ne_true
  | bl i =>
    cases rx
    cases y with
    | non => cases ry; exact PySem.EqNone.eq_bool_none (fin_bl I q (by simp))
    | bl j => cases ry; exact eq_bool (fin_bl I q dec_bl)
    | str j => obtain ⟨t',rfl⟩ := ry; exact PySem.EqMixed.eq_bool_str (fin_bl I q (by simp))
    | _ => exact absurd (show false = true from hs) Bool.false_ne_true
  | int i =>
    obtain ⟨t,rfl⟩ := rx
    cases y with
    | non => cases ry; exact PySem.EqNone.eq_int_none (fin_bl I q (by simp))
    | int j => obtain ⟨t',rfl⟩ := ry; exact eq_int (fin_bl I q dec_int)
    | str j => obtain ⟨t',rfl⟩ := ry; exact PySem.EqMixed.eq_int_str (fin_bl I q (by simp))
    | _ => exact absurd (show false = true from hs) Bool.false_ne_true
  | str i =>
    obtain ⟨t,rfl⟩ := rx
    cases y with
    | non => cases ry; exact PySem.EqNone.eq_str_none (fin_bl I q (by simp))
    | bl j => cases ry; exact PySem.EqMixed.eq_str_bool (fin_bl I q (by simp))
    | int j => obtain ⟨t',rfl⟩ := ry; exact PySem.EqMixed.eq_str_int (fin_bl I q (by simp))
    | str j => obtain ⟨t',rfl⟩ := ry; exact eq_str (fin_bl I q dec_str)
    | _ => exact absurd (show false = true from hs) Bool.false_ne_true
  | byt i =>
    obtain ⟨t,rfl⟩ := rx
    cases y with
    | byt j => obtain ⟨t',rfl⟩ := ry; exact PySem.W.eq_bytes (fin_bl I q dec_byt)
    | _ => exact absurd (show false = true from hs) Bool.false_ne_true
  | _ => cases y <;> exact absurd (show false = true from hs) Bool.false_ne_true
theorem op_ne : OpR X (compareOp .NotEq) rNe := by
  intro pins s σ H x y v u Q I rx ry h
  obtain ⟨hs,q⟩ := h
  cases x with
  | non =>
    cases rx
    cases y with
    | non => cases ry; exact PySem.EqNone.ne_none_none (fin_bl I q (by simp))
    | bl j => cases ry; exact PySem.EqNone.ne_none_bool (fin_bl I q (by simp))
    | int j => obtain ⟨t',rfl⟩ := ry; exact PySem.EqNone.ne_none_int (fin_bl I q (by simp))
    | str j => obtain ⟨t',rfl⟩ := ry; exact PySem.EqNone.ne_none_str (fin_bl I q (by simp))
    | _ => exact absurd (show false = true from hs) Bool.false_ne_true
  | bl i =>
    cases rx
    cases y with
    | non => cases ry; exact PySem.EqNone.ne_bool_none (fin_bl I q (by simp))
    | bl j => cases ry; exact ne_bool (fin_bl I q (congrArg not dec_bl))
    | str j => obtain ⟨t',rfl⟩ := ry; exact PySem.EqMixed.ne_bool_str (fin_bl I q (by simp))
    | _ => exact absurd (show false = true from hs) Bool.false_ne_true
  | int i =>
    obtain ⟨t,rfl⟩ := rx
    cases y with
    | non => cases ry; exact PySem.EqNone.ne_int_none (fin_bl I q (by simp))
    | int j => obtain ⟨t',rfl⟩ := ry; exact ne_int (fin_bl I q (congrArg not dec_int))
    | str j => obtain ⟨t',rfl⟩ := ry; exact PySem.EqMixed.ne_int_str (fin_bl I q (by simp))
    | _ => exact absurd (show false = true from hs) Bool.false_ne_true
  | str i =>
    obtain ⟨t,rfl⟩ := rx
    cases y with
    | non => cases ry; exact PySem.EqNone.ne_str_none (fin_bl I q (by simp))
    | bl j => cases ry; exact PySem.EqMixed.ne_str_bool (fin_bl I q (by simp))
    | int j => obtain ⟨t',rfl⟩ := ry; exact PySem.EqMixed.ne_str_int (fin_bl I q (by simp))
    | str j => obtain ⟨t',rfl⟩ := ry; exact ne_str (fin_bl I q (congrArg not dec_str))
    | _ => exact absurd (show false = true from hs) Bool.false_ne_true
  | byt i =>
    obtain ⟨t,rfl⟩ := rx
    cases y with
    | byt j => obtain ⟨t',rfl⟩ := ry; exact PySem.W.ne_bytes (fin_bl I q (congrArg not dec_byt))
    | _ => exact absurd (show false = true from hs) Bool.false_ne_true
  | _ => cases y <;> exact absurd (show false = true from hs) Bool.false_ne_true
theorem op_lt : OpR X (compareOp .Lt) (rI0 λ i j => .bl (decide (i < j))) := opB0 λ _ _ _ _ _ _ _ q => lt_int q
theorem op_le : OpR X (compareOp .LtE) (rI0 λ i j => .bl (decide (i≤j))) := opB0 λ _ _ _ _ _ _ _ q => le_int q
theorem op_gt : OpR X (compareOp .Gt) (rI0 λ i j => .bl (decide (j < i))) := opB0 λ _ _ _ _ _ _ _ q => gt_int q
theorem op_ge : OpR X (compareOp .GtE) (rI0 λ i j => .bl (decide (j≤i))) := opB0 λ _ _ _ _ _ _ _ q => ge_int q
theorem nomark (b : Expr) {op : CmpOp} (h : op≠.In := by decide) (h2 : op≠.NotIn := by decide) : behindInMarks op b = false := by
  have e1 : (op == CmpOp.In) = false := by cases op <;> first | rfl | exact absurd rfl h
  have e2 : (op == CmpOp.NotIn) = false := by cases op <;> first | rfl | exact absurd rfl h2
  cases b <;> simp [behindInMarks,e1,e2]
theorem pe_cmpR {op : CmpOp} {r : R2} (ho : OpR X (compareOp op) r) (ha : PE X a ta) (hb : PE X b tb) (hm : behindInMarks op b = false) : PE X (.Compare a [op] [b] pos) (tOp r ta tb) := by
  intro pins s σ H Q I h
  exact wpAny_Compare1 (binT ha hb I h λ v u s2 x y H2 I2 rx ry q => ho pins s2 σ H2 x y v u Q I2 rx ry q) hm
def tTest (t : TE) : TT := λ σ H Q => t σ H λ x H' => ∃ k,x = .bl k∧Q k H'
theorem pt_cmpR {op : CmpOp} {r : R2} (ho : OpR X (compareOp op) r) (ha : PE X a ta) (hb : PE X b tb) (hm : behindInMarks op b = false) : PT X (.Compare a [op] [b] pos) (tTest (tOp r ta tb)) := by
  intro pins s σ H Q I h
  refine wpAny_isTrue_Compare1 (thn (ha pins s σ H _ I h) λ v s1 ⟨x,H1,I1,r1,q1⟩ => thn (hb pins s1 σ H1 _ I1 q1) λ u s2 ⟨y,H2,I2,r2,q2⟩ =>
    thn (ho pins s2 σ H2 x y v u _ I2 r1 r2 q2) λ c s3 ⟨z,H3,I3,r3,k,e,q3⟩ => ?_) hm
  subst e
  cases r3
  exact wpAny_truthy_bool ⟨H3,I3,q3⟩
def TruV (K : PySem.W.Frag) (x : V) (H : Hp) (k : Bool) : Prop :=
  match x with
  | .non => k = false
  | .bl b => k = b
  | .int i => k = (i != 0)
  | .str y => y.length ≤ sizeLine ∧ k = ((y.length : Int) != 0)
  | .byt y => y.size ≤ sizeLine ∧ k = ((y.size : Int) != 0)
  | .ref p => (∃ xs,SqL K H p xs ∧ k = !xs.isEmpty) ∨ (∃ xs,SqT K H p xs ∧ k = !xs.isEmpty) ∨ ∃ kvs,H p = some (.dK kvs) ∧ k = !kvs.isEmpty
  | _ => False
theorem isEmpty_kv {κ : Type} {kvs : List (κ × V)} {vs : List (κ × Value)} (r : KV kvs vs) : (!vs.isEmpty) = !kvs.isEmpty := by
  cases r <;> rfl
theorem isEmpty_of {xs : List V} {its : List Value} (r : Vals xs its) : (!its.toArray.isEmpty) = !xs.isEmpty := by
  cases r <;> simp
theorem line63 : (sizeLine : Nat) < 2 ^ 63 := by rw [sizeLine_eq]; decide
theorem tru_ok : TruR X (λ x H Q => ∃ k,TruV X.K x H k∧Q k H) := by
  intro pins s σ H x v Q I rx h
  obtain ⟨k,e,q⟩ := h
  have hl := line63
  have hs : sizeLine = 16777216 := sizeLine_eq
  cases x with
  | non =>
    cases rx
    have e' : k = false := e
    subst e'
    exact truthy_none ⟨H,I,q⟩
  | bl b =>
    cases rx
    have e' : k = b := e
    subst e'
    exact wpAny_truthy_bool ⟨H,I,q⟩
  | int i =>
    obtain ⟨t,rfl⟩ := rx
    have e' : k = (i != 0) := e
    subst e'
    exact PySem.P.truthy_int ⟨H,I,q⟩
  | str y =>
    obtain ⟨t,rfl⟩ := rx
    obtain ⟨hy,e'⟩ : y.length ≤ sizeLine ∧ k = ((y.length : Int) != 0) := e
    subst e'
    exact PySem.P.truthy_str (by omega) ⟨H,I.tok _,q⟩
  | byt y =>
    obtain ⟨t,rfl⟩ := rx
    obtain ⟨hy,e'⟩ : y.size ≤ sizeLine ∧ k = ((y.size : Int) != 0) := e
    subst e'
    exact PySem.W.truthy_bytes (by omega) ⟨H,I.tok _,q⟩
  | ref p =>
    cases rx
    have e' : (∃ xs,SqL X.K H p xs ∧ k = !xs.isEmpty) ∨ (∃ xs,SqT X.K H p xs ∧ k = !xs.isEmpty) ∨ ∃ kvs,H p = some (.dK kvs) ∧ k = !kvs.isEmpty := e
    rcases e' with ⟨xs,hx,e'⟩ | ⟨xs,hx,e'⟩ | ⟨kvs,hx,e'⟩
    · subst e'
      obtain ⟨its,r,pl,hz⟩ := I.list hx
      have hlen := r.length
      exact wpAny_truthy_list pl.isList (by simp only [List.size_toArray]; omega) ⟨H,I.tok _,by rw [isEmpty_of r]; exact q⟩
    · subst e'
      obtain ⟨its,r,pl,hz⟩ := I.tuple hx
      have hlen := r.length
      exact truthy_tuple pl (by simp only [List.size_toArray]; omega) ⟨H,I.tok _,by rw [isEmpty_of r]; exact q⟩
    · subst e'
      obtain ⟨hz,hS,vs,r,m⟩ : kvs.length ≤ sizeLine ∧ (p == sysModules) = false ∧ ∃ vs,KV kvs vs ∧ s.heap.DictOf (mixKind X.prog X.w) p vs := I.hok p _ hx
      have hlen : kvs.length = vs.length := Paired.length r
      exact wpAny_truthy_dict hS m (by omega) ⟨H,I.tok _,by rw [isEmpty_kv r]; exact q⟩
  | _ => exact (show False from e).elim
theorem op_add_str : OpR X (binaryOp .Add) (λ x y H Q => ∃ i j,x = .str i∧y = .str j∧i.length + j.length≤sizeLine∧Q (.str (i ++ j)) H) := by
  intro pins s σ H x y v u Q I rx ry h
  obtain ⟨i,j,rfl,rfl,hz,q⟩ := h
  obtain ⟨t,rfl⟩ := rx
  obtain ⟨t',rfl⟩ := ry
  exact add_str (λ t' tk => ⟨.str (i ++ j),H,I.tok _,⟨_,rfl⟩,q⟩) hz
theorem vals1 {x : V} {us : List Value} (r : Vals [x] us) : ∃ u,us = [u]∧RelV x u := by
  cases r with
  | cons r1 r2 => cases r2; exact ⟨_,rfl,r1⟩
theorem vals2 {x y : V} {us : List Value} (r : Vals [x,y] us) : ∃ u w',us = [u,w']∧RelV x u∧RelV y w' := by
  cases r with
  | cons r1 r2 =>
    cases r2 with
    | cons r3 r4 => cases r4; exact ⟨_,_,rfl,r1,r3⟩
theorem call_abs : CallR X (.builtin "abs") (λ xs H Q => ∃ i,xs = [.int i]∧Q (.int (if i < 0 then -i else i)) H) := by
  intro pins s σ H xs us Q I r h
  obtain ⟨i,rfl,q⟩ := h
  obtain ⟨u,rfl,t,rfl⟩ := vals1 r
  exact call_abs_int λ u tk => ⟨.int (if i < 0 then -i else i),H,I.tok _,⟨_,rfl⟩,q⟩
theorem call_str_int : CallR X (.type "str") (λ xs H Q => ∃ i,xs = [.int i]∧i.natAbs.log2 < 1920∧Q (.str (toString i)) H) := by
  intro pins s σ H xs us Q I r h
  obtain ⟨i,rfl,hz,q⟩ := h
  obtain ⟨u,rfl,t,rfl⟩ := vals1 r
  exact PySem.P.str_of_int hz ⟨.str _,H,I.tok _,⟨_,rfl⟩,q⟩
def LenV (K : PySem.W.Frag) (x : V) (H : Hp) (n : Nat) : Prop :=
  match x with
  | .str y => y.length ≤ sizeLine ∧ n = y.length
  | .byt y => y.size ≤ sizeLine ∧ n = y.size
  | .ref p => (∃ xs,SqL K H p xs ∧ n = xs.length) ∨ ∃ xs,SqT K H p xs ∧ n = xs.length
  | _ => False
theorem call_len : CallR X (.builtin "len") (λ xs H Q => ∃ x n,xs = [x]∧LenV X.K x H n∧Q (.int n) H) := by
  intro pins s σ H xs us Q I r h
  obtain ⟨x,n,rfl,e,q⟩ := h
  obtain ⟨u,rfl,rx⟩ := vals1 r
  have hl := line63
  have hs : sizeLine = 16777216 := sizeLine_eq
  cases x with
  | str y =>
    obtain ⟨t,rfl⟩ := rx
    obtain ⟨hy,e'⟩ : y.length ≤ sizeLine ∧ n = y.length := e
    subst e'
    exact len_str (by omega) ⟨.int _,H,I.tok _,⟨_,rfl⟩,q⟩
  | byt y =>
    obtain ⟨t,rfl⟩ := rx
    obtain ⟨hy,e'⟩ : y.size ≤ sizeLine ∧ n = y.size := e
    subst e'
    exact PySem.W.len_bytes (by omega) ⟨.int _,H,I.tok _,⟨_,rfl⟩,q⟩
  | ref p =>
    cases rx
    have e' : (∃ xs,SqL X.K H p xs ∧ n = xs.length) ∨ ∃ xs,SqT X.K H p xs ∧ n = xs.length := e
    rcases e' with ⟨xs,hx,e'⟩ | ⟨xs,hx,e'⟩
    · subst e'
      obtain ⟨its,r',pl,hz⟩ := I.list hx
      have hlen := r'.length
      exact Calls.call_len_list pl.isList (by simp only [List.size_toArray]; omega) ⟨.int xs.length,H,I.tok _,⟨_,by simp only [List.size_toArray]; rw [hlen]⟩,q⟩
    · subst e'
      obtain ⟨its,r',pl,hz⟩ := I.tuple hx
      have hlen := r'.length
      exact len_tuple pl (by simp only [List.size_toArray]; omega) ⟨.int xs.length,H,I.tok _,⟨_,by simp only [List.size_toArray]; rw [hlen]⟩,q⟩
  | _ => exact (show False from e).elim
end
end L2
namespace L2
open PySem PySem.Spec PyProof.Rows
structure ObjM (h : Heap) (x dx C : Addr) (mA : Str→Option Value) : Prop where
  obj : h.get? x = some (PySem.W.instObj C dx)
  ns : h.Ns1 dx mA
  ne : dx ≠ x
theorem lookIn_ns {h : Heap} {dx : Addr} {mA : Str→Option Value} (n : h.Ns1 dx mA) : ∃ od,h.get? dx = some od∧∀ name,PySem.W.lookIn name od = some (mA name) := by
  obtain ⟨o,es,ep,ho,hd,hk,_,hm⟩ := n
  refine ⟨o,ho,λ name => ?_⟩
  have e := hm name
  unfold nsFind findBy at e
  rw [← Array.find?_toList] at e
  unfold PySem.W.lookIn
  rw [hd]
  dsimp only
  split
  · rename_i y q
    rw [q] at e
    exact congrArg some e
  · rename_i q
    rw [q] at e
    have a : es.toList.any (·.refKey) = false := by
      rw [List.any_eq_false]
      intro y hy
      obtain ⟨z,t,hkey⟩ := hk y (Array.mem_toList_iff.mp hy)
      simp [DictEntry.refKey,hkey]
    have a' : ¬ es.toList.any (·.refKey) = true := by rw [a]; exact Bool.false_ne_true
    rw [if_neg a']
    exact congrArg some e
theorem ObjM.look {h : Heap} {x dx C : Addr} {mA : Str→Option Value} (I : ObjM h x dx C mA) : ∃ od,PySem.W.InstAt h x (PySem.W.instObj C dx) C (some od)∧∀ name,PySem.W.lookIn name od = some (mA name) :=
  let ⟨od,ho,hl⟩ := lookIn_ns I.ns
  ⟨od,⟨I.obj,rfl,rfl,ho⟩,hl⟩
section
variable {prog : Program} {w : World} {A : Around} {E : Value→Shared→Prop} {s : Shared} {K : PySem.W.Frag} {x dx C f : Addr} {mA : Str→Option Value} {name : Str} {v : Value}
end
theorem RelO.some_of {v : V} {o : Option Value} (r : RelO (some v) o) : ∃ u,o = some u∧RelV v u := by
  cases o with
  | none => exact (show False from r).elim
  | some u => exact ⟨u,rfl,r⟩
section
variable {P : Program} {w : World} {H H' : Hp} {h h' : Heap} {a C dx : Addr} {fs fs' : List (Str × V)}
theorem ins_get (hok : HOk P w H h) (e : H a = some (.ins C dx fs)) : ∃ mA,ObjM h a dx C mA∧(∀ f,RelO (fs.lookup f) (mA f))∧PySem.Within mA (fs.map (·.1))∧fs.length≤1000∧H dx = some (.own a) := by
  obtain ⟨d,z,ne,ob,mA,n,r,q⟩ := (show ObjOk P w H h a (.ins C dx fs) from hok a _ e)
  exact ⟨mA,⟨ob,n,ne⟩,r,q,z,d⟩
end
structure Cls (K : PySem.W.Frag) (C : Addr) : Prop where
  pg : PySem.W.plainGet K C Str.empty = true
  hd : PySem.W.hasDictIn K C = true
  po : PySem.W.plainOver K C = true
  sa : PySem.W.findIn K (.ref C) "__setattr__" = some (some (.builtin "object.__setattr__"))
theorem Cls.get {K : PySem.W.Frag} {C : Addr} (c : Cls K C) (f : Str) : PySem.W.plainGet K C f = true := c.pg
section
variable {X : Cx} {pins : List (Addr × Obj)} {σ : St} {H : Hp} {s : Shared} {a C dx : Addr} {fs : List (Str × V)} {f : Str} {v : V} {A : Around} {E : Value→Shared→Prop}
end
section
variable {X : Cx} {o e value : Expr} {f : Str} {pos pos' tpos : Pos} {ta tv : TE}
end
section
variable {X : Cx} {pins : List (Addr × Obj)} {σ : St} {H : Hp} {s : Shared} {A : Around} {E : Value→Shared→Prop} {Q : Value→Shared→Prop} {c : Value} {b : Bool}
inductive TyOf (K : PySem.W.Frag) (H : Hp) : V → Value → Prop where
  | non : TyOf K H .non (.type "NoneType")
  | bl (x : Bool) : TyOf K H (.bl x) (.type "bool")
  | int (i : Int) : TyOf K H (.int i) (.type "int")
  | str (x : Str) : TyOf K H (.str x) (.type "str")
  | flt (x : UInt64) : TyOf K H (.flt x) (.type "float")
  | lst {a : Addr} {xs : List V} (e : H a = some (.lst xs)) : TyOf K H (.ref a) (.type "list")
  | frz {a : Addr} {o : Obj} {xs : List V} (e : H a = some (.frz o (.lst xs))) : TyOf K H (.ref a) (.type "list")
  | tup {a : Addr} {xs : List V} (e : H a = some (.tup xs)) : TyOf K H (.ref a) (.type "tuple")
  | dK {a : Addr} {kvs : List (Key × V)} (e : H a = some (.dK kvs)) : TyOf K H (.ref a) (.type "dict")
  | dT {a : Addr} {kvs : List (List Key × V)} (e : H a = some (.dT kvs)) : TyOf K H (.ref a) (.type "dict")
  | ins {a C dx : Addr} {fs : List (Str × V)} (e : H a = some (.ins C dx fs)) (cl : Cls K C) (ha : PySem.W.findIn K (.ref C) "__class__" = some (some (.builtin "object.__class__")))
      (hn : PySem.W.specialIn K (.builtin "object.__class__") "__get__" = some (some (.builtin "getset_descriptor.__get__"))) (htk : PySem.W.takesIn K (.builtin "object.__class__") = some true)
      (hm : PySem.W.mroIn K C (.type "object") = some true) : TyOf K H (.ref a) (.ref C)
theorem isinst_ok {x : V} {u t : Value} (I : Inv X pins σ H s) (rx : RelV x u) (ty : TyOf X.K H x t) (e : PySem.W.kitOne X.K t c = some b) (h : ∀ tk,Q (.bool b) { s with toks := tk }) :
    wpAny (model X.prog X.w) A (call (.builtin "isinstance") [u,c]) Q E s := by
  cases ty with
  | non => cases (show u = Value.none from rx); exact PySem.W.kia_one PySem.W.kitx_none I.kIn True.intro e (λ z => nomatch z) h
  | bl y => cases (show u = Value.bool y from rx); exact PySem.W.kia_one PySem.W.kitx_bool I.kIn True.intro e (λ z => nomatch z) h
  | int i => obtain ⟨t,q⟩ := (show ∃ t,u = Value.int i t from rx); cases q; exact PySem.W.kia_one PySem.W.kitx_int I.kIn True.intro e (λ z => nomatch z) h
  | str y => obtain ⟨t,q⟩ := (show ∃ t,u = Value.str y t from rx); cases q; exact PySem.W.kia_one PySem.W.kitx_str I.kIn True.intro e (λ z => nomatch z) h
  | flt y => obtain ⟨t,q⟩ := (show ∃ t,u = Value.float y t from rx); cases q; exact PySem.W.kia_one PySem.W.kitx_float I.kIn True.intro e (λ z => nomatch z) h
  | @lst a xs ea =>
    cases (show u = Value.ref a from rx)
    obtain ⟨_,_,n,_,h1⟩ := (show ObjOk X.prog X.w H s.heap a (.lst xs) from I.hok a _ ea)
    exact PySem.W.kia_one PySem.W.kitx_list I.kIn ⟨_,h1,rfl⟩ e (λ z => nomatch z) h
  | @frz a ob xs ea =>
    cases (show u = Value.ref a from rx)
    obtain ⟨_,_,_,n,_,h1⟩ := (show ObjOk X.prog X.w H s.heap a (.frz ob (.lst xs)) from I.hok a _ ea)
    exact PySem.W.kia_one PySem.W.kitx_list I.kIn ⟨_,h1,rfl⟩ e (λ z => nomatch z) h
  | @tup a xs ea =>
    cases (show u = Value.ref a from rx)
    obtain ⟨_,_,_,p⟩ := (show ObjOk X.prog X.w H s.heap a (.tup xs) from I.hok a _ ea)
    obtain ⟨o,h1,h2,_⟩ := p
    exact PySem.W.kia_one PySem.W.kitx_tuple I.kIn ⟨o,h1,h2⟩ e (λ z => nomatch z) h
  | @dK a kvs ea =>
    cases (show u = Value.ref a from rx)
    obtain ⟨_,_,vs,_,p⟩ := (show ObjOk X.prog X.w H s.heap a (.dK kvs) from I.hok a _ ea)
    obtain ⟨o,es,ep,h1,h2,_⟩ := p
    exact PySem.W.kia_one PySem.W.kitx_dict I.kIn ⟨o,h1,h2.1⟩ e (λ z => nomatch z) h
  | @dT a kvs ea =>
    cases (show u = Value.ref a from rx)
    obtain ⟨_,_,xs,_,o,es,ep,h1,h2,_⟩ := (show ObjOk X.prog X.w H s.heap a (.dT kvs) from I.hok a _ ea)
    exact PySem.W.kia_one PySem.W.kitx_dict I.kIn ⟨o,h1,h2.1⟩ e (λ z => nomatch z) h
  | @ins a C dx fs ea cl ha hn htk hm =>
    cases (show u = Value.ref a from rx)
    obtain ⟨mA,O,_⟩ := ins_get I.hok ea
    obtain ⟨od,J,_⟩ := O.look
    exact PySem.W.kia_one (PySem.W.kitx_own (cl.get _) cl.hd ha hn htk hm) I.kIn J e (λ z => nomatch z) h
end
end L2
namespace L2
open PySem PySem.Spec PyProof.Rows
structure Room (k : Nat) (A : Around) : Prop where
  hd : A.handled = none
  dp : A.depth + 3 * k + 5 < recursionLimit
  un : A.units + 16 * k + 200 < cLine
theorem Room.mono {j k : Nat} {A : Around} (r : Room k A) (h : j≤k) : Room j A := ⟨r.hd,by have := r.dp; omega,by have := r.un; omega⟩
theorem Room.deeper {k : Nat} {A : Around} (r : Room (k + 1) A) (env : Env) : Room k (A.deeper env) :=
  ⟨r.hd,by have := r.dp; show A.depth + 1 + 3 * k + 5 < _; omega,by have := r.un; show A.units + 3 + 16 * k + 200 < _; omega⟩
theorem Room.depth {k : Nat} {A : Around} (r : Room k A) : A.depth < recursionLimit := by have := r.dp; omega
theorem Room.units {k : Nat} {A : Around} (r : Room k A) : A.units + 64 < cLine := by have := r.un; omega
def tNil : TA := λ _ H Q => Q [] H
def tCons (ta : TE) (tr : TA) : TA := λ σ H Q => ta σ H λ x H1 => tr σ H1 λ xs H2 => Q (x :: xs) H2
section
variable {X : Cx} {e : Expr} {es : List Expr} {te : TE} {t : TA} {pos : Pos}
theorem pa_nil : PA X [] tNil := λ _ _ _ _ H Q I h => Calls.spliced_nil ⟨[],H,I,.nil,h⟩
theorem pa_cons (ha : PE X e te) (hr : PA X es t) (hs : starEach (e :: es) X.env = (false,eval e X.env) :: starEach es X.env := by rfl) : PA X (e :: es) (tCons te t) := by
  intro pos pins s σ H Q I h
  rw [hs]
  show wpAny _ _ (spliced ((false,eval e X.env) :: backTo pos (starEach es X.env))) _ _ s
  refine Calls.spliced_cons (thn (ha pins s σ H _ I h) λ u s1 ⟨x,H1,I1,r1,q1⟩ => ?_)
  exact thn (hr pos pins s1 σ H1 _ I1 q1) λ us s2 ⟨xs,H2,I2,r2,q2⟩ => ⟨x :: xs,H2,I2,.cons r1 r2,q2⟩
def tTup (t : TA) : TE := λ σ H Q => t σ H λ xs H1 => xs.length≤sizeLine∧∀ p,H1 p = none→Q (.ref p) (upd H1 p (.tup xs))
def tLst (t : TA) : TE := λ σ H Q => t σ H λ xs H1 => xs.length≤sizeLine∧∀ p,H1 p = none→Q (.ref p) (upd H1 p (.lst xs))
theorem pe_tup {x1} (h : PA X es t) : PE X (.Tuple es x1 pos) (tTup t) := by
  intro pins s σ H Q I hq
  refine wpAny_Tuple_spliced (thn (h pos pins s σ H _ I hq) λ us s1 ⟨xs,H1,I1,r,z,q⟩ => ⟨by rw [← r.length]; exact z,?_⟩)
  have hf : H1 s1.heap.objs.size = none := I1.hok.fresh (Nat.le_refl _)
  refine ⟨.ref s1.heap.objs.size,upd H1 s1.heap.objs.size (.tup xs),I1.laid (t' := s1.toks) (λ b u e => Heap.get?_push_of_some _ e) (Nat.le_refl _) ?_,rfl,q _ hf⟩
  exact ⟨z,us,r,⟨_,Heap.get?_push_size _ rfl,rfl,_,rfl⟩⟩
theorem pe_lst (h : PA X es t) : PE X (.List es pos) (tLst t) := by
  intro pins s σ H Q I hq
  refine wpAny_List_spliced (thn (h pos pins s σ H _ I hq) λ us s1 ⟨xs,H1,I1,r,z,q⟩ => ⟨by rw [← r.length]; exact z,?_⟩)
  have hf : H1 s1.heap.objs.size = none := I1.hok.fresh (Nat.le_refl _)
  refine ⟨.ref s1.heap.objs.size,upd H1 s1.heap.objs.size (.lst xs),I1.laid (t' := s1.toks) (λ b u e => Heap.get?_push_of_some _ e) (Nat.le_refl _) ?_,rfl,q _ hf⟩
  exact ⟨z,us,0,r,Heap.get?_push_size _ rfl⟩
end
abbrev Sp := List V → Hp → VK → XK → Prop
abbrev CXT := List Env → Hp → Shared → XK → Value → Shared → Prop
structure Env0 (P : Program) (w : World) (K : PySem.W.Frag) (mg : Str→Option Value) (base : Heap) (A : Around) (outer : List Env) (s : Shared) (H : Hp) : Prop where
  frames : A.frames = some outer
  mod : Mod K mg base
  bs : ∀ b o,base.get? b = some o → s.heap.get? b = some o ∧ H b = none
  bsz : base.objs.size ≤ s.heap.objs.size
  funs : s.heap.FunFrames base outer
  frf : ∀ b ∈ frs outer,H b = none
  hok : HOk P w H s.heap
  bare : AllBare s.gens
def CE (outer : List Env) (P : Program) (w : World) (H : Hp) (s : Shared) (Q : VK) (u : Value) (s' : Shared) : Prop :=
  ∃ v H',s'.os = s.os ∧ AllBare s'.gens ∧ Un (frs outer) [] H H' s.heap s'.heap ∧ HOk P w H' s'.heap ∧ RelV v u ∧ Q v H'
def CR (CX : CXT) (outer : List Env) (P : Program) (w : World) (H : Hp) (s : Shared) (Q : VK) (E : XK) (r : Result) (s' : Shared) : Prop :=
  match r with
  | .ok (.ret u) => CE outer P w H s Q u s'
  | .ok _ => False
  | .error e => CX outer H s E e s'
structure FnOk (P : Program) (w : World) (K : PySem.W.Frag) (mg : Str→Option Value) (base : Heap) (CX : CXT) (k : Nat) (f : Addr) (fd : FuncData) (ps : List Str) (sp : Sp) : Prop where
  len : ∀ vs H Q E,sp vs H Q E → vs.length = ps.length
  run : ∀ (A : Around) (outer : List Env) (s : Shared) (H : Hp) (args : Args) (us : List Value) (vs : List V) (Q : VK) (E : XK),Room k A → Env0 P w K mg base A outer s H → BindsTo s fd args (ps.zip us) → Vals vs us → sp vs H Q E →
    codeAny (model P w) A (.call (.ref f) args) (CR CX outer P w H s Q E) s
section
variable {X : Cx} {pins : List (Addr × Obj)} {σ : St} {H : Hp} {s s' : Shared}
theorem Inv.env0 (I : Inv X pins σ H s) : Env0 X.prog X.w X.K X.mg X.base X.A X.stack s H :=
  ⟨I.ok.frames,I.ok.mod,I.bs,Nat.le_trans I.ok.bsz I.sz,I.stack,I.stkFree,I.hok,I.bare⟩
theorem Inv.after {Q : VK} {u : Value} (I : Inv X pins σ H s) (h : CE X.stack X.prog X.w H s Q u s') : EP X pins σ Q u s' := by
  obtain ⟨v,H',os,bare,un,hok,r,q⟩ := h
  obtain ⟨hh,g,d,t,os'⟩ := s'
  obtain rfl : os' = s.os := os
  exact ⟨v,H',I.call (h' := hh) (g' := g) (d' := d) (t' := t) (ch := []) un hok bare (λ b z => absurd z (by simp)),r,q⟩
end
def tCall (sp : Sp) (dvs : List V) (E : XK) (t : TA) : TE := λ σ H Q => t σ H λ vs H1 => sp (vs ++ dvs) H1 Q E
def Binds (K : PySem.W.Frag) (fd : FuncData) (ps : List Str) (ds : List Value) : Prop :=
  ∀ (s : Shared) (us : List Value),K.In s.heap → (us ++ ds).length = ps.length → BindsTo s fd ⟨us,[]⟩ (ps.zip (us ++ ds))
theorem Binds.all {K : PySem.W.Frag} {fd : FuncData} {ps : List Str} (h : ∀ us : List Value,us.length = ps.length→bindArgs fd ⟨us,[]⟩ = pure (ps.zip us)) : Binds K fd ps [] := λ s us _ hl => by
  rw [List.append_nil] at hl ⊢
  exact .of_eq (h us hl)
def Passes (CX : CXT) (X : Cx) (E : XK) : Prop := ∀ (pins : List (Addr × Obj)) (σ : St) (H : Hp) (s : Shared) (e : Value) (s' : Shared),Inv X pins σ H s→CX X.stack H s E e s'→X.xe e s'
section
variable {X : Cx} {CX : CXT} {k : Nat} {f C : Addr} {fd : FuncData} {ps : List Str} {sp : Sp} {dvs : List V} {ds : List Value} {E : XK} {x m : Str} {p pos apos : Pos} {e o : Expr} {es : List Expr} {ta : TE} {t : TA}
theorem run_fn {pins : List (Addr × Obj)} {σ : St} {H : Hp} {s : Shared} {Q : VK} {us : List Value} {vs : List V} (F : FnOk X.prog X.w X.K X.mg X.base CX k f fd ps sp) (hr : Room k X.A) (hb : Binds X.K fd ps ds) (hd : Vals dvs ds) (hx : Passes CX X E)
    (I : Inv X pins σ H s) (r : Vals vs us) (h : sp (vs ++ dvs) H Q E) : wpAny (model X.prog X.w) X.A (call (.ref f) us) (EP X pins σ Q) X.xe s := by
  have r2 : Vals (vs ++ dvs) (us ++ ds) := r.append hd
  have hl : (us ++ ds).length = ps.length := by rw [← r2.length]; exact F.len _ _ _ _ h
  refine wpAny_call (codeAny_mono (F.run X.A X.stack s H ⟨us,[]⟩ (us ++ ds) (vs ++ dvs) Q E hr I.env0 (hb s us I.kIn hl) r2 h) λ r s' hq => ?_)
  cases r with
  | error e => exact hx pins σ H s e s' I hq
  | ok fl =>
    cases fl with
    | ret u => exact I.after hq
    | next => exact False.elim hq
    | brk => exact False.elim hq
    | cont => exact False.elim hq
theorem pe_call (F : FnOk X.prog X.w X.K X.mg X.base CX k f fd ps sp) (hr : Room k X.A) (hg : Gl X x) (hm : X.mg x = some (.ref f)) (hk : PySem.W.keepIn X.K (.ref f) = true) (hb : Binds X.K fd ps ds) (hd : Vals dvs ds) (hx : Passes CX X E)
    (ha : PA X (e :: es) t) (hdb : (x == ("__debug__" : Str)) = false := by decide) (he : starEach (e :: es) X.env = (false,eval e X.env) :: starEach es X.env := by rfl) (hpl : (backTo pos (starEach es X.env)).any (·.1) = false := by rfl) :
    PE X (.Call (.Name x p) (e :: es) [] pos) (tCall sp dvs E t) := by
  intro pins s σ H Q I h
  refine wpAny_Call_Name_kw (ld_glob I hg hm ?_ hdb)
  refine PySem.W.callWith_K (h₀ := X.base) I.ok.mod.kin hk (thn (ha pos pins s σ H _ I h) λ us s1 ⟨vs,H1,I1,r,q⟩ => ⟨I1.kIn,?_⟩) he hpl
  exact run_fn F hr hb hd hx I1 r q
end
section
variable {X : Cx} {CX : CXT} {k : Nat} {f C : Addr} {fd : FuncData} {ps ks : List Str} {sp : Sp} {E : XK} {x m : Str} {p pos apos kpos : Pos} {e o : Expr} {es : List Expr} {kws : List Keyword} {te ta : TE} {t tk : TA} {nm : Option Str}
variable {g : List Value→List Value→List Value} {gV : List V→List V→List V}
end
structure FnScope (N P : List Str) (sc : Scope) : Prop where
  kind : sc.kind = .function
  co : sc.isCoroutine = false
  gen : sc.isGenerator = false
  nd : N.Nodup
  pre : N.take P.length = P
  par : ∀ x ∈ P,sc.names.lookup x = some .local ∨ sc.names.lookup x = some .cell
  nofree : ∀ y ∈ sc.names,y.2 ≠ .free
theorem bindL_out {kindOf : Str→Option NameKind} {x : Str} : ∀ {binds : List (Str × Value)} {m : Str→Option Value},(∀ v,(x,v) ∉ binds)→bindL kindOf binds m x = m x
  | [],_,_ => rfl
  | (n,v) :: r,m,h => by
    unfold bindL
    rw [bindL_out λ w hw => h w (List.mem_cons_of_mem _ hw)]
    split
    · have : x ≠ n := by rintro rfl; exact h v List.mem_cons_self
      simp [this]
    · rfl
theorem bindC_out {kindOf : Str→Option NameKind} {x : Str} : ∀ {binds : List (Str × Value)} {m : Str→Option Value},(∀ v,(x,v) ∉ binds)→bindC kindOf binds m x = m x
  | [],_,_ => rfl
  | (n,v) :: r,m,h => by
    unfold bindC
    rw [bindC_out λ w hw => h w (List.mem_cons_of_mem _ hw)]
    split
    · rfl
    · have : x ≠ n := by rintro rfl; exact h v List.mem_cons_self
      simp [this]
theorem bindL_get {kindOf : Str→Option NameKind} {x : Str} {v : Value} : ∀ {P : List Str} {vs : List Value} {i : Nat} {m : Str→Option Value},P.Nodup→P[i]? = some x→vs[i]? = some v→kindOf x = some .local →
    bindL kindOf (P.zip vs) m x = some v
  | [],_,_,_,_,h,_,_ => by simp at h
  | _ :: _,[],_,_,_,_,h,_ => by simp at h
  | p :: P,w :: vs,0,m,nd,h1,h2,hk => by
    simp at h1 h2; subst h1; subst h2
    show bindL kindOf ((p,w) :: P.zip vs) m p = _
    unfold bindL
    rw [bindL_out λ v hv => (List.nodup_cons.mp nd).1 (List.of_mem_zip hv).1,if_pos hk]
    simp
  | p :: P,w :: vs,i + 1,m,nd,h1,h2,hk => by
    show bindL kindOf ((p,w) :: P.zip vs) m x = _
    unfold bindL
    exact bindL_get (i := i) (List.nodup_cons.mp nd).2 (by simpa using h1) (by simpa using h2) hk
theorem bindC_get {kindOf : Str→Option NameKind} {x : Str} {v : Value} : ∀ {P : List Str} {vs : List Value} {i : Nat} {m : Str→Option Value},P.Nodup→P[i]? = some x→vs[i]? = some v→kindOf x≠some .local →
    bindC kindOf (P.zip vs) m x = some v
  | [],_,_,_,_,h,_,_ => by simp at h
  | _ :: _,[],_,_,_,_,h,_ => by simp at h
  | p :: P,w :: vs,0,m,nd,h1,h2,hk => by
    simp at h1 h2; subst h1; subst h2
    show bindC kindOf ((p,w) :: P.zip vs) m p = _
    unfold bindC
    rw [bindC_out λ v hv => (List.nodup_cons.mp nd).1 (List.of_mem_zip hv).1,if_neg hk]
    simp
  | p :: P,w :: vs,i + 1,m,nd,h1,h2,hk => by
    show bindC kindOf ((p,w) :: P.zip vs) m x = _
    unfold bindC
    exact bindC_get (i := i) (List.nodup_cons.mp nd).2 (by simpa using h1) (by simpa using h2) hk
def start (N : List Str) (vs : List V) : St := vs.map some ++ List.replicate (N.length - vs.length) none
def cxOf (CX : CXT) (P : Program) (w : World) (K : PySem.W.Frag) (mg : Str→Option Value) (base : Heap) (N : List Str) (qual : Str) (scope : Scope) (f : Addr) (cd : Value) (A : Around) (outer : List Env) (s : Shared) (H : Hp) (E : XK) : Cx where
  prog := P
  w := w
  K := K
  mg := mg
  base := base
  A := A.deeper (envOfC qual scope s.heap.objs.size f cd)
  N := N
  s₀ := s
  H₀ := H
  env := envOfC qual scope s.heap.objs.size f cd
  outer := outer
  stack := envOfC qual scope s.heap.objs.size f cd :: outer
  ex := []
  calm := true
  fn := λ _ => true
  pn := []
  xe := λ e s' => wpAny (model P w) (A.deeper (envOfC qual scope s.heap.objs.size f cd)) (leaving (envOfC qual scope s.heap.objs.size f cd) e) (λ _ s'' => CX outer H s E e s'') (λ e' s'' => CX outer H s E e' s'') s'
theorem cell_has {sc : Scope} {n : Nat} {x : Str} (h : sc.names.lookup x = some .cell) : ∃ c,(cellsFrom n sc.names []).lookup x = some c := by
  have q := PySem.W.cellsFrom_some sc.names n [] (.inl h)
  exact Option.isSome_iff_exists.mp q
theorem inv_start {CX : CXT} {P : Program} {w : World} {K : PySem.W.Frag} {mg : Str→Option Value} {base : Heap} {N ps : List Str} {qual : Str} {scope : Scope} {f : Addr} {cd : Value} {A : Around} {outer : List Env} {s s1 : Shared} {H : Hp} {E : XK} {us : List Value} {vs : List V}
    (S : FnScope N ps scope) (hd : A.handled = none) (e0 : Env0 P w K mg base A outer s H) (hl : vs.length = ps.length) (r : Vals vs us)
    (x : InCallC s s.heap.objs.size (bindL (envOfC qual scope s.heap.objs.size f cd).kindOf (ps.zip us) λ _ => none) (cellsFrom (s.heap.objs.size + 1) scope.names []) (bindC (envOfC qual scope s.heap.objs.size f cd).kindOf (ps.zip us) λ _ => none) s1) :
    Inv (cxOf CX P w K mg base N qual scope f cd A outer s H E) [] (start N vs) H s1 := by
  have hpl : ps.length ≤ N.length := by have := congrArg List.length S.pre; rw [List.length_take] at this; omega
  obtain ⟨h1,tk,rfl,hk⟩ := x.done
  have noA : ∀ b : Addr,b ∉ (cxOf CX P w K mg base N qual scope f cd A outer s H E).ex := λ b z => absurd (show b ∈ ([] : List Addr) from z) (by simp)
  refine ⟨⟨e0.mod,S.kind,rfl,rfl,Nat.le_refl _,λ y z c h1 h2 => ?_,λ y hy => ?_,λ y c _ h => ?_,λ _ => hd,Around.frames_deeper e0.frames,.inr ⟨rfl,rfl⟩,λ b z => absurd z (noA b),e0.bs,e0.bsz,λ b _ _ => noA b,λ b z => absurd z (noA b),e0.funs,e0.frf⟩,
    rfl,e0.bare,Un.kept hk,⟨_,x.toInCall.ns,λ i y v h1 h2 h3 => ?_⟩,λ y c h => ⟨_,x.cell y c h⟩,e0.hok.fresh (Nat.le_refl _),λ y c h => ?_,λ p hp => absurd (show p ∈ ([] : List (Addr × Obj)) from hp) (by simp),e0.hok.kept hk,?_⟩
  · exact name_of_addr x.apart (PySem.mem_of_lookup h1) (PySem.mem_of_lookup h2)
  · have hy : scope.names.lookup y = some .cell ∨ scope.names.lookup y = some .free := hy
    rcases hy with hy | hy
    · exact cell_has hy
    · exact absurd rfl (S.nofree _ (PySem.mem_of_lookup hy))
  · exact Nat.le_of_lt (x.above y c (PySem.mem_of_lookup h))
  · have hi : i < vs.length := by
      unfold start at h2
      by_cases hi : i < vs.length
      · exact hi
      · rw [List.getElem?_append_right (by simpa using hi)] at h2
        rw [List.getElem?_replicate] at h2
        split at h2 <;> cases h2
    have ha : vs[i]? = some v := by
      unfold start at h2
      rw [List.getElem?_append_left (by simpa using hi),List.getElem?_map] at h2
      cases e : vs[i]? with
      | none => rw [e] at h2; cases h2
      | some a => rw [e] at h2; cases h2; rfl
    obtain ⟨u,hu,rv⟩ := r.get ha
    have hp : ps[i]? = some y := by
      rw [← S.pre,List.getElem?_take_of_lt (by omega)]; exact h1
    have ndP : ps.Nodup := by rw [← S.pre]; exact S.nd.sublist (List.take_sublist _ _)
    refine ⟨u,rv,?_⟩
    rcases S.par y (List.mem_of_getElem? hp) with k | k
    · exact .inl ⟨k,bindL_get ndP hp hu k⟩
    · obtain ⟨c,e⟩ := cell_has (n := s.heap.objs.size + 1) k
      refine .inr ⟨.inl k,c,e,?_⟩
      have q := x.cell y c e
      rw [bindC_get ndP hp hu (by show scope.names.lookup y ≠ _; rw [k]; decide)] at q
      exact q
  · exact e0.hok.fresh (Nat.le_of_lt (x.above y c (PySem.mem_of_lookup h)))
  · unfold start
    show _ = N.length
    rw [List.length_append,List.length_map,List.length_replicate]
    omega
theorem fn_of {CX : CXT} {P : Program} {w : World} {K : PySem.W.Frag} {mg : Str→Option Value} {base : Heap} {k : Nat} {f : Addr} {name qual : Str} {params : Arguments} {body : List Stmt} {scope : Scope} {dV kV doc pm cdv ct oc : Value} {an od : Option Addr}
    {osl : Array (Option Value)} {N ps : List Str} {sp : Sp} (lk : K.lookup f = some ⟨oc,od,.func (PySem.W.fnOf name qual params body scope dV kV doc pm an cdv ct),osl⟩) (hcd : PySem.W.codeIn K cdv qual = true) (S : FnScope N ps scope)
    (len : ∀ vs H Q E,sp vs H Q E → vs.length = ps.length)
    (hbody : ∀ (A : Around) (outer : List Env) (s : Shared) (H : Hp) (vs : List V) (Q : VK) (E : XK),Room k (A.deeper (envOfC qual scope s.heap.objs.size f cdv)) → sp vs H Q E →
      ∃ t,PSs (cxOf CX P w K mg base N qual scope f cdv A outer s H E) body t ∧ t { nx := λ _ H' => Q .non H',rt := Q } (start N vs) H) :
    FnOk P w K mg base CX (k + 1) f (PySem.W.fnOf name qual params body scope dV kV doc pm an cdv ct) ps sp := by
  refine ⟨len,λ A outer s H args us vs Q E hr e0 hb r hsp => ?_⟩
  have hl := len _ _ _ _ hsp
  have KX : K.In s.heap := e0.mod.kin.keeps λ b o e => (e0.bs b o e).1
  have lim : s.heap.NoLimit := e0.mod.nolimit.keeps λ b o e => (e0.bs b o e).1
  have hkind : ∀ y ∈ ps.zip us,scope.names.lookup y.1 = some .local ∨ (scope.names.lookup y.1 = some .cell ∧ ((cellsFrom (s.heap.objs.size + 1) scope.names []).lookup y.1).isSome = true) := λ ⟨n,v⟩ hy => by
    rcases S.par n (List.of_mem_zip hy).1 with q | q
    · exact .inl q
    · exact .inr ⟨q,PySem.W.cellsFrom_some _ _ _ (.inl q)⟩
  refine codeAny_call_function hr.depth (KX _ _ lk) rfl S.co S.gen rfl (PySem.W.codeRec_of KX hcd) (hb _ _ _ _ ?_)
  refine wpAny_newFunctionEnv_cells S.kind hkind λ env he s1 x => ?_
  subst he
  refine ⟨lim.keeps x.toInCall.keep,codeAny_func ?_⟩
  obtain ⟨t,ht,hq⟩ := hbody A outer s H vs Q E (hr.deeper _) hsp
  have I : Inv (cxOf CX P w K mg base N qual scope f cdv A outer s H E) [] (start N vs) H s1 := inv_start S hr.hd e0 hl r x
  refine wpAny_mono (ht [] s1 (start N vs) H _ I hq) (λ fl s' hs => ?_) λ e s' hs => hs
  have fin : ∀ {σ' : St} {H' : Hp} {v : V} {u : Value},Inv (cxOf CX P w K mg base N qual scope f cdv A outer s H E) [] σ' H' s' → RelV v u → Q v H' → CE outer P w H s Q u s' :=
    λ {σ' H' v u} J rv q => ⟨v,H',J.os,J.bare,J.base,J.hok,rv,q⟩
  cases fl with
  | ret u =>
    obtain ⟨v,σ',H',J,rv,q⟩ := hs
    exact fin J rv q
  | next =>
    obtain ⟨σ',H',J,q⟩ := hs
    exact fin (v := V.non) (u := Value.none) J rfl q
  | brk =>
    obtain ⟨_,_,_,q⟩ := hs
    exact False.elim q
  | cont =>
    obtain ⟨_,_,_,q⟩ := hs
    exact False.elim q
end L2
namespace L2
open PySem PySem.Spec PyProof.Rows
section
variable {X : Cx} {x : Str} {p pos : Pos} {e : Expr} {es : List Expr} {t : TA} {id T : String} {r : List V→Hp→VK→Prop}
def tCB (r : List V→Hp→VK→Prop) (t : TA) : TE := λ σ H Q => t σ H λ vs H1 => r vs H1 Q
theorem pe_callB (hc : CallR X (.builtin id) r) (hg : Gl X x) (hm : X.mg x = none) (hv : bootBuiltins x = some (.builtin id)) (ha : PA X (e :: es) t) (hn : x≠"__name__" := by decide) (hdb : (x == ("__debug__" : Str)) = false := by decide)
    (he : starEach (e :: es) X.env = (false,eval e X.env) :: starEach es X.env := by rfl) (hpl : (backTo pos (starEach es X.env)).any (·.1) = false := by rfl) : PE X (.Call (.Name x p) (e :: es) [] pos) (tCB r t) := by
  intro pins s σ H Q I h
  refine wpAny_Call_Name_kw (ld_blt I hg hm hv ?_ hn hdb)
  exact PyProof.Rows.callWith_builtin1 (thn (ha pos pins s σ H _ I h) λ us s1 ⟨vs,H1,I1,r1,q1⟩ => hc pins s1 σ H1 vs us Q I1 r1 q1) he hpl
theorem pe_callTy (hc : CallR X (.type T) r) (hg : Gl X x) (hm : X.mg x = none) (hv : bootBuiltins x = some (.type T)) (ha : PA X (e :: es) t) (hn : x≠"__name__" := by decide) (hdb : (x == ("__debug__" : Str)) = false := by decide)
    (he : starEach (e :: es) X.env = (false,eval e X.env) :: starEach es X.env := by rfl) (hpl : (backTo pos (starEach es X.env)).any (·.1) = false := by rfl) : PE X (.Call (.Name x p) (e :: es) [] pos) (tCB r t) := by
  intro pins s σ H Q I h
  refine wpAny_Call_Name_kw (ld_blt I hg hm hv ?_ hn hdb)
  exact PyProof.Rows.callWith_type1 (thn (ha pos pins s σ H _ I h) λ us s1 ⟨vs,H1,I1,r1,q1⟩ => hc pins s1 σ H1 vs us Q I1 r1 q1) he hpl
end
end L2
namespace HT
open PySem PyProof.Rows
section
open PySem.SeqAt
open PySem.AutoSeq1 (wpAny_loadPart')
open PySem.MeetsSeq PySem.MeetsSeq2 PySem.MeetsSeq3
end
section
variable {prog : Program} {w : World} {A : Around} {E : Value→Shared→Prop} {s : Shared}
def sIx (n d : Nat) : Option Int→Nat
  | none => d
  | some v => if v < 0 then (v + (n : Int)).toNat else min v.toNat n
end
end HT
namespace L2
open PySem PySem.Spec PyProof.Rows
section
variable {X : Cx} {e : Expr} {te : TE} {lo hi : Option Expr} {tl th : TO} {pos p2 : Pos}
def SlR (X : Cx) (r : V→Option Int→Option Int→Hp→VK→Prop) : Prop :=
  ∀ (pins : List (Addr × Obj)) (s : Shared) (σ : St) (H : Hp) (x : V) (v vl vu : Value) (lo hi : Option Int) (sl : Addr) (Q : VK),Inv X pins σ H s → RelV x v → s.heap.IsSliceOf sl vl vu .none → IsPart vl lo → IsPart vu hi → r x lo hi H Q →
    ∃ T id,typeLookup (.type T) "__getitem__" = pure (some (.builtin id)) ∧ s.TypeIs v T ∧ wpAny (model X.prog X.w) X.A (getItem v (.ref sl)) (EP X pins σ Q) X.xe s
def cutV (xs : List V) (lo hi : Option Int) : List V := (xs.drop (HT.sIx xs.length 0 lo)).take (HT.sIx xs.length xs.length hi - HT.sIx xs.length 0 lo)
theorem cutV_length (xs : List V) (lo hi : Option Int) : (cutV xs lo hi).length≤xs.length := by
  unfold cutV
  rw [List.length_take,List.length_drop]
  omega
end
end L2
namespace L2
open PySem PySem.Spec PyProof.Rows
def ixN (n : Nat) (i : Int) : Option Nat := if 0≤i then (if i < n then some i.toNat else none) else if -(n : Int)≤i then some (i + n).toNat else none
def atI {α : Type} (xs : List α) (i : Int) : Option α := (ixN xs.length i).bind λ j => xs[j]?
theorem ixN_seq {n : Nat} {i : Int} {j : Nat} (h : ixN n i = some j) : seqIndex? i n = some j∧j < n∧-(n : Int)≤i∧i < n := by
  unfold ixN at h
  by_cases h0 : 0 ≤ i
  · rw [if_pos h0] at h
    by_cases h1 : i < n
    · rw [if_pos h1] at h
      have e : i.toNat = j := Option.some.inj h
      exact ⟨by rw [seqIndex_of h0 h1,e],by omega,by omega,h1⟩
    · rw [if_neg h1] at h; cases h
  · rw [if_neg h0] at h
    by_cases h1 : -(n : Int) ≤ i
    · rw [if_pos h1] at h
      have e : (i + n).toNat = j := Option.some.inj h
      exact ⟨by rw [seqIndex_neg (by omega) h1,e],by omega,h1,by omega⟩
    · rw [if_neg h1] at h; cases h
theorem atI_get {α : Type} {xs : List α} {i : Int} {v : α} (h : atI xs i = some v) : ∃ j,seqIndex? i xs.length = some j∧xs[j]? = some v∧j < xs.length∧-(xs.length : Int)≤i∧i < xs.length := by
  unfold atI at h
  cases e : ixN xs.length i with
  | none => rw [e] at h; cases h
  | some j =>
    rw [e] at h
    obtain ⟨h1,h2,h3,h4⟩ := ixN_seq e
    exact ⟨j,h1,h,h2,h3,h4⟩
theorem atI_nat {α : Type} {xs : List α} {j : Nat} {v : α} (h : xs[j]? = some v) : atI xs (j : Int) = some v := by
  have hj : j < xs.length := (List.getElem?_eq_some_iff.mp h).1
  have e : ixN xs.length (j : Int) = some j := by
    unfold ixN
    rw [if_pos (by omega),if_pos (by omega)]; simp
  unfold atI; rw [e]; exact h
def PlainIx (b : Expr) : Prop := ∀ o i,subscripted b false o i = operate [o,i] (getItem o i)
def IxR (X : Cx) (r : R2) : Prop :=
  ∀ (value slice : Expr) (pins : List (Addr × Obj)) (s : Shared) (σ : St) (H : Hp) (x y : V) (v u : Value) (Q : VK),Inv X pins σ H s → RelV x v → RelV y u → r x y H Q →
    subscripted slice false v u = operate [v,u] (getItem v u) → wpAny (model X.prog X.w) X.A (subscriptTail value slice v u) (EP X pins σ Q) X.xe s
def MtR (X : Cx) (id : String) (r : V→List V→Hp→VK→Prop) : Prop :=
  ∀ (pins : List (Addr × Obj)) (s : Shared) (σ : St) (H : Hp) (x : V) (xs : List V) (v : Value) (us : List Value) (Q : VK),Inv X pins σ H s → RelV x v → Vals xs us → r x xs H Q →
    wpAny (model X.prog X.w) X.A (call (.builtin id) (v :: us)) (EP X pins σ Q) X.xe s
section
variable {X : Cx} {a b : Expr} {ta tb : TE} {pos : Pos}
theorem pe_ix {r : R2} (hr : IxR X r) (ha : PE X a ta) (hb : PE X b tb) (hs : PlainIx b) : PE X (.Subscript a b pos) (tOp r ta tb) := by
  intro pins s σ H Q I h
  exact Subscript_ (binT ha hb I h λ v u s2 x y H2 I2 rx ry q => hr a b pins s2 σ H2 x y v u Q I2 rx ry q (hs _ _))
def rIxL (K : PySem.W.Frag) : R2 := λ x y H Q => ∃ p xs i v,x = .ref p∧y = .int i∧SqL K H p xs∧atI xs i = some v∧Q v H
def rIxT (K : PySem.W.Frag) : R2 := λ x y H Q => ∃ p xs i v,x = .ref p∧y = .int i∧SqT K H p xs∧atI xs i = some v∧Q v H
theorem ix_list : IxR X (rIxL X.K) := by
  intro value slice pins s σ H x y v u Q I rx ry h hs
  obtain ⟨p,xs,i,z,rfl,rfl,hq,he,q⟩ := h
  cases rx
  obtain ⟨t,rfl⟩ := ry
  obtain ⟨its,r,pl,hz⟩ := I.list hq
  obtain ⟨j,h1,h2,h3,h4,h5⟩ := atI_get he
  obtain ⟨w,ew,rw'⟩ := r.get h2
  have hl := r.length
  have hn := line63
  have fin : EP X pins σ Q w s := ⟨z,H,I,rw',q⟩
  by_cases h0 : 0 ≤ i
  · have hj : i.toNat = j := by
      rw [seqIndex_of h0 h5] at h1
      exact Option.some.inj h1
    exact item_listR pl.isList h0 (by omega) (by rw [hj]; simpa using ew) fin hs
  · have hj : (i + (its.toArray.size : Int)).toNat = j := by
      rw [seqIndex_neg (by omega) h4] at h1
      rw [List.size_toArray,← hl]
      exact Option.some.inj h1
    exact subscriptTail_builtinR (x := w) pl.isList.typeIs slot_list_getitem.lookup
      (wpAny_getItem_list_neg (Q := λ r s' => r = w ∧ EP X pins σ Q r s') pl.isList (by omega) (by rw [List.size_toArray] <;> omega) (by omega) (by rw [hj]; simpa using ew) ⟨rfl,fin⟩) hs
theorem ix_tup : IxR X (rIxT X.K) := by
  intro value slice pins s σ H x y v u Q I rx ry h hs
  obtain ⟨p,xs,i,z,rfl,rfl,hq,he,q⟩ := h
  cases rx
  obtain ⟨t,rfl⟩ := ry
  obtain ⟨its,r,pl,hz⟩ := I.tuple hq
  obtain ⟨j,h1,h2,h3,h4,h5⟩ := atI_get he
  obtain ⟨w,ew,rw'⟩ := r.get h2
  have hl := r.length
  have hn := line63
  have fin : EP X pins σ Q w s := ⟨z,H,I,rw',q⟩
  exact subscriptTail_builtinR (x := w) pl.typeIs slot_tuple_getitem.lookup
    (getItem_tuple (j := j) (Q := λ r s' => r = w ∧ EP X pins σ Q r s') pl (by omega) (by omega) (by rw [List.size_toArray,← hl]; exact h1) (by simpa using ew) ⟨rfl,fin⟩) hs
theorem slice_bounds (lo hi : Option Int) (n : Nat) : (sliceBounds lo hi none n).1 = ((HT.sIx n 0 lo : Nat) : Int)∧(sliceBounds lo hi none n).2.1 = ((HT.sIx n n hi : Nat) : Int)∧(sliceBounds lo hi none n).2.2 = 1 := by
  refine ⟨?_,?_,rfl⟩
  · cases lo with
    | none => simp [sliceBounds,HT.sIx]
    | some i =>
      simp only [sliceBounds,HT.sIx,Option.getD_none,show (1 : Int) > 0 by decide,if_true]
      by_cases h : i < 0
      · simp only [h,if_true] <;> omega
      · simp only [h,if_false] <;> omega
  · cases hi with
    | none => simp [sliceBounds,HT.sIx]
    | some i =>
      simp only [sliceBounds,HT.sIx,Option.getD_none,show (1 : Int) > 0 by decide,if_true]
      by_cases h : i < 0
      · simp only [h,if_true] <;> omega
      · simp only [h,if_false] <;> omega
theorem slicePick_cut (its : List Value) (lo hi : Option Int) : slicePick its.toArray lo hi none = ((its.drop (HT.sIx its.length 0 lo)).take (HT.sIx its.length its.length hi - HT.sIx its.length 0 lo)).toArray := by
  obtain ⟨h1,h2,h3⟩ := slice_bounds lo hi its.toArray.size
  unfold slicePick
  rw [h1,h2,h3]
  simp only [sliceRange_one,pick_run,List.size_toArray] <;> rfl
def rSlL (K : PySem.W.Frag) : V→Option Int→Option Int→Hp→VK→Prop := λ x lo hi H Q => ∃ a xs,x = .ref a∧SqL K H a xs∧∀ p,H p = none→Q (.ref p) (upd H p (.lst (cutV xs lo hi)))
theorem sl_list : SlR X (rSlL X.K) := by
  intro pins s σ H x v vl vu lo hi sl Q I rx hs pl pu h
  obtain ⟨a,xs,rfl,hx,q⟩ := h
  cases rx
  obtain ⟨its,r,ht,hz⟩ := I.list hx
  have hlen := r.length
  refine ⟨"list",_,slot_list_getitem.lookup,ht.isList.typeIs,?_⟩
  refine wpAny_getItem_list_slice ht.isList hs pl pu .none (by simp) ?_ (by rw [List.size_toArray] <;> omega)
  rw [slicePick_cut,← hlen]
  refine ⟨.ref s.heap.objs.size,_,I.laid (t' := s.toks) (o := .lst (cutV xs lo hi)) (λ b ob q => Heap.get?_push_of_some _ q) (Nat.le_refl _) ?_,rfl,q _ (I.hok.fresh (Nat.le_refl _))⟩
  exact ⟨Nat.le_trans (cutV_length xs lo hi) hz,_,0,(r.drop (HT.sIx xs.length 0 lo)).take (HT.sIx xs.length xs.length hi - HT.sIx xs.length 0 lo),Heap.get?_push_size _ rfl⟩
def flatV : V→Bool
  | .non => true
  | .bl _ => true
  | .int _ => true
  | .str _ => true
  | _ => false
def eqV : V→V→Bool
  | .non,.non => true
  | .bl a,.bl b => a == b
  | .bl a,.int b => (if a then 1 else 0) == b
  | .int a,.bl b => a == (if b then 1 else 0)
  | .int a,.int b => a == b
  | .str a,.str b => a == b
  | _,_ => false
theorem eqAt_V {A : Around} {s : Shared} {y x : V} {u v : Value} (ry : RelV y u) (rx : RelV x v) (fy : flatV y = true) (fx : flatV x = true) : SeqAt.EqAt A s u v (eqV y x) := by
  cases y with
  | non =>
    cases ry
    cases x with
    | non => cases rx; exact SeqAt.EqAt.same _
    | bl b => cases rx; exact SeqAt.EqAt.none_bool b
    | int b => obtain ⟨t,rfl⟩ := rx; exact SeqAt.EqAt.none_int b t
    | str b => obtain ⟨t,rfl⟩ := rx; exact SeqAt.EqAt.none_str b t
    | _ => exact absurd (show false = true from fx) Bool.false_ne_true
  | bl a =>
    cases ry
    cases x with
    | non => cases rx; exact SeqAt.EqAt.bool_none a
    | bl b => cases rx; exact SeqAt.EqAt.bool_bool a b
    | int b => obtain ⟨t,rfl⟩ := rx; exact SeqAt.EqAt.bool_int a b t
    | str b => obtain ⟨t,rfl⟩ := rx; exact SeqAt.EqAt.bool_str a b t
    | _ => exact absurd (show false = true from fx) Bool.false_ne_true
  | int a =>
    obtain ⟨t',rfl⟩ := ry
    cases x with
    | non => cases rx; exact SeqAt.EqAt.int_none a t'
    | bl b => cases rx; exact SeqAt.EqAt.int_bool a t' b
    | int b => obtain ⟨t,rfl⟩ := rx; exact SeqAt.EqAt.int_int a t' b t
    | str b => obtain ⟨t,rfl⟩ := rx; exact SeqAt.EqAt.int_str a t' b t
    | _ => exact absurd (show false = true from fx) Bool.false_ne_true
  | str a =>
    obtain ⟨t',rfl⟩ := ry
    cases x with
    | non => cases rx; exact SeqAt.EqAt.str_none a t'
    | bl b => cases rx; exact SeqAt.EqAt.str_bool a t' b
    | int b => obtain ⟨t,rfl⟩ := rx; exact SeqAt.EqAt.str_int a t' b t
    | str b => obtain ⟨t,rfl⟩ := rx; exact SeqAt.EqAt.str_str a t' b t
    | _ => exact absurd (show false = true from fx) Bool.false_ne_true
  | _ => exact absurd (show false = true from fy) Bool.false_ne_true
theorem call_tuple_of : CallR X (.type "tuple") (λ xs H Q => ∃ p ys,xs = [.ref p]∧((SqL X.K H p ys∧∀ l,H l = none→Q (.ref l) (upd H l (.tup ys)))∨(SqT X.K H p ys∧Q (.ref p) H))) := by
  intro pins s σ H xs us Q I r h
  obtain ⟨p,ys,rfl,h⟩ := h
  obtain ⟨u,rfl,rx⟩ := vals1 r
  cases rx
  rcases h with ⟨hq,q⟩ | ⟨hq,q⟩
  · obtain ⟨its,r',pl,hz⟩ := I.list hq
    have hlen := r'.length
    refine call_tuple_list pl.isList (λ h' kp => ?_) (by simp only [List.size_toArray] <;> omega)
    have I1 : Inv X pins σ H { s with heap := h' } := I.kept (t' := s.toks) kp
    have I2 : Inv X pins σ (upd H h'.objs.size (.tup ys)) { s with heap := h'.push { cls := .type "tuple",data := .seq its.toArray } } :=
      I1.laid (t' := s.toks) (λ b o e => Heap.get?_push_of_some _ e) (Nat.le_refl _) (show ObjOk X.prog X.w _ _ _ (.tup ys) from ⟨hz,its,r',IsTup.new _ _⟩)
    exact ⟨.ref h'.objs.size,_,I2,rfl,q _ (I1.hok.fresh (Nat.le_refl _))⟩
  · obtain ⟨its,r',pl,hz⟩ := I.tuple hq
    exact call_tuple_same pl ⟨.ref p,H,I,rfl,q⟩
def tyV (K : PySem.W.Frag) (T : String) (x : V) (H : Hp) : Prop := match x with
  | .str _ => T = "str"
  | .int _ => T = "int"
  | .ref p => (T = "list" ∧ ∃ xs,SqL K H p xs) ∨ (T = "tuple" ∧ ∃ o,K.lookup p = some o ∧ o.cls = .type "tuple" ∧ o.dict = none) ∨
      (T = "dict" ∧ ((∃ kvs,H p = some (.dK kvs)) ∨ ∃ kvs,H p = some (.dT kvs))) ∨ (T = "set" ∧ ∃ S n,H p = some (.set S n))
  | _ => False
theorem tyV_is {pins : List (Addr × Obj)} {σ : St} {H : Hp} {s : Shared} {T : String} {x : V} {v : Value} (I : Inv X pins σ H s) (r : RelV x v) (ty : tyV X.K T x H) :
    s.TypeIs v T ∧ ∀ a,v = .ref a → ∃ ob,s.heap.get? a = some ob ∧ ob.dict = none := by
  cases x with
  | str z =>
    obtain ⟨t,rfl⟩ := r
    cases (show T = "str" from ty)
    exact ⟨typeIs_str s z t,λ _ e => nomatch e⟩
  | int i =>
    obtain ⟨t,rfl⟩ := r
    cases (show T = "int" from ty)
    exact ⟨typeIs_int s i t,λ _ e => nomatch e⟩
  | ref p =>
    cases r
    rcases ty with ⟨rfl,xs,hq⟩ | ⟨rfl,o,hk,hc,hd⟩ | ⟨rfl,hk⟩ | ⟨rfl,S,n,hk⟩
    · obtain ⟨its,_,pl,_⟩ := I.list hq
      refine ⟨pl.isList.typeIs,λ a e => ?_⟩
      cases e
      obtain ⟨o,n,e,c,hd,_⟩ := pl
      exact ⟨o,e,hd⟩
    · refine ⟨⟨o,I.kIn p o hk,hc⟩,λ a e => ?_⟩
      cases e
      exact ⟨o,I.kIn _ o hk,hd⟩
    · have z : ∃ o,s.heap.get? p = some o ∧ o.ExactDict := by
        rcases hk with ⟨kvs,hk⟩ | ⟨kvs,hk⟩
        · obtain ⟨_,_,_,_,o,_,_,e,ex,_⟩ := I.hok p _ hk
          exact ⟨o,e,ex⟩
        · obtain ⟨_,_,_,_,o,_,_,e,ex,_⟩ := I.hok p _ hk
          exact ⟨o,e,ex⟩
      obtain ⟨o,e,ex⟩ := z
      refine ⟨⟨o,e,ex.1⟩,λ a e2 => ?_⟩
      cases e2
      exact ⟨o,e,ex.2.1⟩
    · obtain ⟨o,_,_,_,e,ex,_⟩ := I.hok p _ hk
      refine ⟨⟨o,e,ex.1⟩,λ a e2 => ?_⟩
      cases e2
      exact ⟨o,e,ex.2.1⟩
  | _ => exact False.elim ty
def tBM (K : PySem.W.Frag) (T : String) (r : V→List V→Hp→VK→Prop) (to : TE) (t : TA) : TE := λ σ H Q => to σ H λ x H1 => tyV K T x H1∧t σ H1 λ xs H2 => r x xs H2 Q
variable {o e : Expr} {es : List Expr} {to : TE} {t : TA} {name : Str} {apos cpos : Pos} {T id : String} {r : V→List V→Hp→VK→Prop}
theorem pe_bm (pa : PlainAttrs T) (slot : Slot T name id) (hty : typeOf (.builtin id) = pure (.type "method_descriptor")) (hm : MtR X id r) (ho : PE X o to) (ha : PA X (e :: es) t)
    (hbase : attributeBase o name X.env (eval o X.env) = eval o X.env := by rfl)
    (hfew : ((backTo cpos (starEach (e :: es) X.env)).all (λ x => !x.1) && (backToKw cpos (keywordEach [] X.env)).all (λ x => x.1.isSome)
      && decide ((e :: es).length + ([] : List Keyword).length + (if ([] : List Keyword).isEmpty then 0 else 1) < 30)) = true := by rfl)
    (hline : (apos.endLine == cpos.line) = true := by rfl) (hs : starEach (e :: es) X.env = (false,eval e X.env) :: starEach es X.env := by rfl) (hplain : (backTo cpos (starEach es X.env)).any (·.1) = false := by rfl) :
    PE X (.Call (.Attribute o name apos) (e :: es) [] cpos) (tBM X.K T r to t) := by
  intro pins s σ H Q I h
  refine wpAny_Call_method_late hbase hfew hline rfl (thn (ho pins s σ H _ I h) λ v s1 ⟨x,H1,I1,r1,ty,q1⟩ => ?_)
  obtain ⟨h1,h2⟩ := tyV_is I1 r1 ty
  refine ⟨T,id,pa,slot,hty,h1,h2,?_⟩
  have hA := ha cpos pins s1 σ H1 _ I1 q1
  rw [hs] at hA ⊢
  refine Calls.callWith_builtin (by show (false || (backTo cpos (starEach es X.env)).any (·.1)) = false; rw [hplain] <;> rfl) (Calls.evalArgs_plain ?_)
  exact thn hA λ us s2 ⟨vs,H2,I2,r2,q2⟩ => hm pins s2 σ H2 x vs v us Q I2 r1 r2 q2
/- xs.append(e),list.index on a module's tuple .. are MtR facts of 06m -/
end
end L2
namespace L2
open PySem PySem.Spec PyProof.Rows
def MtM (X : Cx) (id : String) (r : V→List V→Hp→VK→Prop) : Prop :=
  ∀ (pins : List (Addr × Obj)) (s : Shared) (σ : St) (H : Hp) (x : V) (xs : List V) (v : Value) (us : List Value) (Q : VK),Inv X pins σ H s → RelV x v → Vals xs us → r x xs H Q →
    wpAny (model X.prog X.w) X.A (call (.builtin id) (v :: us)) (EP X pins σ Q) X.xe s
theorem Vals.one : ∀ {x : V} {us : List Value},Vals [x] us→∃ u,us = [u]∧RelV x u
  | _,_,.cons r .nil => ⟨_,rfl,r⟩
section
variable {X : Cx} {pins : List (Addr × Obj)} {σ : St} {H : Hp} {s : Shared} {l b : Addr} {xs ys zs : List V}
theorem Inv.lset {its its' : List Value} {n : Nat} {f : Array Value→Array Value} {t' : Nat} (I : Inv X pins σ H s) (hH : H l = some (.lst xs))
    (e : s.heap.get? l = some { cls := .type "list",data := .seq its.toArray n }) (hf : f its.toArray = its'.toArray) (hv : Vals ys its') (hz : ys.length ≤ sizeLine) :
    Inv X pins σ (upd H l (.lst ys)) { s with heap := s.heap.update l (Obj.mapSeq f),toks := t' } := by
  have q := PySem.IsL.update e f
  rw [hf] at q
  refine I.write (x := l) (e := l) (by rw [hH]; exact trivial) (.inl rfl) (λ b' u hb hu => (Heap.get?_update_other s.heap (Obj.mapSeq f) (Ne.symm hb)).trans hu) ⟨_,q⟩ ?_
  exact ⟨hz,its',_,hv,q⟩
theorem Inv.lstM (I : Inv X pins σ H s) (hH : H l = some (.lst xs)) : xs.length≤sizeLine∧∃ (its : List Value) (n : Nat),Vals xs its∧xs.length = its.length∧s.heap.get? l = some { cls := .type "list",data := .seq its.toArray n } := by
  obtain ⟨z,its,n,r,e⟩ := I.hok l _ hH
  exact ⟨z,its,n,r,r.length,e⟩
theorem notLongL {n : Nat} (h : n≤sizeLine) : Builtin.List.listTooLong n = false := by
  unfold Builtin.List.listTooLong
  exact decide_eq_false (by omega)
end
section
variable {X : Cx}
def rAppend : V→List V→Hp→VK→Prop := λ x vs H Q => ∃ l xs y,x = .ref l∧vs = [y]∧H l = some (.lst xs)∧xs.length < sizeLine∧Q .non (upd H l (.lst (xs ++ [y])))
theorem mt_append : MtM X "list.append" rAppend := by
  intro pins s σ H x vs v us Q I rx rv h
  obtain ⟨l,xs,y,rfl,rfl,hH,hz,q⟩ := h
  cases rx
  obtain ⟨u,rfl,ru⟩ := rv.one
  obtain ⟨z,its,n,r,hl,e⟩ := I.lstM hH
  refine call_meets F.slot_list_append ⟨_,e,rfl⟩ F.entry_list_append (F.args_list_append_2 _ _) (PySem.list_append l its.toArray n u (by rw [List.size_toArray]; omega)) ⟨e,?_⟩
  refine ⟨.non,_,I.lset (its' := its ++ [u]) hH e (by simp) (r.append (.cons ru .nil)) ?_,rfl,q⟩
  rw [List.length_append,List.length_singleton]
  omega
def rExtend : V→List V→Hp→VK→Prop := λ x vs H Q => ∃ l b xs zs,x = .ref l∧vs = [.ref b]∧H l = some (.lst xs)∧H b = some (.lst zs)∧xs.length + zs.length≤sizeLine∧Q .non (upd H l (.lst (xs ++ zs)))
theorem mt_extend : MtM X "list.extend" rExtend := by
  intro pins s σ H x vs v us Q I rx rv h
  obtain ⟨l,b,xs,zs,rfl,rfl,hH,hB,hz,q⟩ := h
  cases rx
  obtain ⟨u,rfl,ru⟩ := rv.one
  cases ru
  obtain ⟨z,its,n,r,hl,e⟩ := I.lstM hH
  obtain ⟨z2,its2,n2,r2,hl2,e2⟩ := I.lstM hB
  have hsz : its.toArray.size + its2.toArray.size ≤ sizeLine := by rw [List.size_toArray,List.size_toArray]; omega
  have hlong : ¬ (!its.toArray.isEmpty && Builtin.List.listTooLong (its.toArray.size + its2.toArray.size)) = true := by
    rw [notLongL hsz,Bool.and_false]
    exact Bool.false_ne_true
  refine call_meets F.slot_list_extend ⟨_,e,rfl⟩ F.entry_list_extend (F.args_list_extend_2 _ _)
    (AutoSeq1.list_extend_list_list_0 l its.toArray n b its2.toArray n2 hlong (by rw [List.size_toArray]; omega) (by omega)) ⟨e,e2,?_⟩
  refine ⟨.non,_,I.lset (its' := its ++ its2) hH e (by simp) (r.append r2) ?_,rfl,q⟩
  rw [List.length_append]
  omega
end
section
variable {prog : Program} {w : World} {A : Around} {E : Value→Shared→Prop} {s : Shared}
end
section
variable {X : Cx}
end
end L2
namespace Att
open PySem PySem.W PySem.Calls PyProof.Rows
theorem ints_of_wellAll {P : Params} {h : Heap} : ∀ (ns : List Int) (vs : List Value),WellAll P h vs (ns.map WData.int)→IntsAre vs ns := by
  intro ns
  induction ns with
  | nil =>
    intro vs w
    rw [List.map_nil] at w
    cases w
    exact .nil
  | cons n ns ih =>
    intro vs w
    rw [List.map_cons] at w
    cases w with
    | cons a b =>
      cases a
      exact .cons _ _ (ih _ b)
theorem script_of {l : OpenLaw} {n : Nat} (hn : l.most = some n) {P : Params} {h : Heap} {args : List WData} {vals : List Value}
    (hpre : l.row.toRowW.claim.pre args = true) (hwl : WellAll P h vals args) :
    ∃ a vs ns,vals = [Value.ref a] ∧ args = [WData.list (ns.map WData.int)] ∧ h.get? a = some { cls := .type "list",data := .seq vs.toArray } ∧ IntsAre vs ns ∧ ns.length ≤ n := by
  have hsh : WShape.hasAll [] args [.list .int] = true := (pre_splitW hpre).1
  have hc : l.pre.holds [] { args := args } = true := (pre_splitW hpre).2
  obtain ⟨d,r,rfl,h1,h2⟩ := hasAllW_cons hsh
  obtain rfl := hasAllW_nil h2
  obtain ⟨xs,rfl,h3⟩ := hasW_list h1
  obtain ⟨ns,rfl⟩ := items_int h3
  have hlen : ns.length ≤ n := by
    unfold OpenLaw.pre at hc
    have h4 : (WTm.not (.lt (.lit (.int (n : Int))) (.len (.arg 0)))).holds [] { args := [.list (ns.map .int)] } = true := by
      have h4 := (holds_andW hc).1
      rw [hn] at h4
      exact h4
    have h5 := condW_of h4 (w_not (w_lt w_lit (w_len_list (w_arg rfl))))
    rw [List.length_map] at h5
    refine Nat.le_of_not_lt λ q => ?_
    have q' : (n : Int) < ((ns.length : Nat) : Int) := by omega
    first
      | (rw [decide_eq_true q'] at h5; exact absurd h5 (by decide))
      | (simp at h5; omega)
  cases hwl with
  | cons w1 w2 =>
    cases w2
    cases w1 with
    | list ho hall => exact ⟨_,_,ns,rfl,rfl,ho,ints_of_wellAll ns _ hall,hlen⟩
theorem post_true (l : OpenLaw) (args : List WData) : l.row.toRowW.claim.post args (.bool true) args = true :=
  postW_of (r := l.row.toRowW) (X := (true == true))
    (show WShape.has [] (.bool true) .bool = true by first | rfl | decide | simp [WShape.has,WShape.arms,WShape.armsAll])
    (show (WTm.eq .res (.lit (.bool true))).value [] { args := args,res := some (.bool true),after := args } = some (.bool (true == true)) from w_eq_bool (w_res rfl) w_lit) rfl
section
variable {prog : Program} {w : World} {A : Around} {E : Value→Shared→Prop} {s : Shared} {K : Frag}
end
end Att
namespace L2
open PySem PySem.Spec PyProof.Rows
theorem vals_ints : ∀ {vs : List Value} {ns : List Int},IntsAre vs ns→Vals (ns.map V.int) vs
  | _,_,.nil => .nil
  | _,_,.cons n t h => .cons ⟨t,rfl⟩ (vals_ints h)
def Only (H : Hp) : Prop := ∀ b,H b = none∨∃ o xs,H b = some (.frz o (.lst xs))
theorem law_call {P : Program} {w : World} {K : PySem.W.Frag} {mg mb : Str→Option Value} {CX : CXT} {k : Nat} {fa a : Addr} {fd : FuncData} {x : Str} {sp : Sp} {s₁ : Shared} {vs : List Value} {ns : List Int}
    (KX : K.In s₁.heap) (hns : s₁.heap.Ns mainGlobals mg) (hb : s₁.heap.Ns builtinsNs mb) (hbb : ∀ x : Str,x ≠ "__name__" → mb x = bootBuiltins x) (hlim : s₁.heap.NoLimit) (hg : s₁.gens = #[])
    (ha : s₁.heap.get? a = some { cls := .type "list",data := .seq vs.toArray }) (hi : IntsAre vs ns) (hl : ns.length ≤ sizeLine) (hr : Room k callerA)
    (F : ∀ base : Heap,K.In base → base.Ns mainGlobals mg → FnOk P w K mg base CX k fa fd [x] sp) (hbind : ∀ (s : Shared) (u : Value),BindsTo s fd ⟨[u],[]⟩ [(x,u)])
    (hsp : ∀ H : Hp,Only H → SqL K H a (ns.map V.int) → sp [.ref a] H (λ v _ => v = .bl true) λ _ _ _ => False)
    (hCX : ∀ H e s',CX [] H s₁ (λ _ _ _ => False) e s' → False) :
    codeAny (model P w) callerA (.call (.ref fa) ⟨[.ref a],[]⟩) (λ r s' => r = .ok (.ret (.bool true)) ∧ OldK s₁.heap s'.heap ∧ s'.os = s₁.os ∧ AllBare s'.gens) s₁ := by
  have rv := vals_ints hi
  have lenV := hi.length
  -- from an abstract heap in which nothing but the script may be tracked
  have core : ∀ H : Hp,Only H → SqL K H a (ns.map V.int) → HOk P w H s₁.heap → (∀ b,H b ≠ none → b = a) → (H a ≠ none → K.lookup a = none) →
      codeAny (model P w) callerA (.call (.ref fa) ⟨[.ref a],[]⟩) (λ r s' => r = .ok (.ret (.bool true)) ∧ OldK s₁.heap s'.heap ∧ s'.os = s₁.os ∧ AllBare s'.gens) s₁ := by
    intro H hO hS hok hA hK
    have base_of : ∀ {b : Addr} {o : Obj},s₁.heap.get? b = some o → H b = none → (hidT s₁.heap H).get? b = some o := λ e n => hidT_get e n
    have noA : ∀ {b : Addr} {o : Obj} {es : Array DictEntry} {ep : Nat},s₁.heap.get? b = some o → o.data = .dict es ep → H b = none := λ {b o es ep} e d => by
      cases q : H b with
      | none => rfl
      | some u =>
        have e' : b = a := hA b (by rw [q]; simp)
        subst e'
        rw [ha] at e; cases e
        have d' : Data.seq vs.toArray _ = Data.dict es ep := d
        cases d'
    have nsK : ∀ {b : Addr} {m : Str → Option Value},s₁.heap.Ns b m → (hidT s₁.heap H).Ns b m := λ {b m} ⟨o,es,ep,e,d,r⟩ => ⟨o,es,ep,base_of e (noA e d),d,r⟩
    have hKb : K.In (hidT s₁.heap H) := λ b o e => base_of (KX b o e) (by
      cases q : H b with
      | none => rfl
      | some u =>
        have e' : b = a := hA b (by rw [q]; simp)
        subst e'
        rw [hK (by rw [q]; simp)] at e; cases e)
    have hM : Mod K mg (hidT s₁.heap H) := ⟨hKb,nsK hns,⟨mb,nsK hb,hbb⟩,let ⟨mc,h1,h2⟩ := hlim; ⟨mc,nsK h1,h2⟩⟩
    have e0 : Env0 P w K mg (hidT s₁.heap H) callerA [] s₁ H := ⟨rfl,hM,λ b o e => of_hidT e,Nat.le_of_eq (hidT_size _ _),trivial,λ b hb => absurd (show b ∈ ([] : List Addr) from hb) (by simp),hok,.of_eq hg⟩
    refine codeAny_mono ((F _ hKb (nsK hns)).run callerA [] s₁ H ⟨[.ref a],[]⟩ [.ref a] [.ref a] _ _ hr e0 (hbind s₁ (.ref a)) (.cons rfl .nil) (hsp H hO hS)) λ r s' h => ?_
    cases r with
    | error e => exact (hCX H e s' h).elim
    | ok fl =>
      cases fl with
      | next => exact False.elim h
      | brk => exact False.elim h
      | cont => exact False.elim h
      | ret u =>
        obtain ⟨v,H',os,bare,un,hok',r',q⟩ := h
        have q' : v = .bl true := q
        subst q'
        obtain rfl : u = Value.bool true := r'
        refine ⟨rfl,OldK.of_keep λ b o e => ?_,os,bare⟩
        cases q : H b with
        | none => exact un.keep b o e q (by intro z; exact absurd (show b ∈ ([] : List Addr) from z) (by simp)) (by simp)
        | some u =>
          rcases hO b with z | ⟨ob,xs,z⟩
          · rw [q] at z; cases z
          · have z2 := un.frzs b ob _ z
            obtain ⟨e1,_⟩ := hok b _ z
            obtain ⟨e2,_⟩ := hok' b _ z2
            rw [e] at e1; cases e1
            exact e2
  cases hk : K.lookup a with
  | some o =>
    -- the script is one of the module's own objects
    have e := KX a o hk
    rw [ha] at e
    cases e
    refine core (λ _ => none) (λ _ => .inl rfl) (.inr ⟨_,vs.toArray,_,hk,rfl,rfl,rfl,by rw [List.size_toArray,lenV]; exact hl,by simpa using rv⟩) (λ b u z => by have z' : (none : Option HO) = some u := z; cases z') (λ b z => absurd rfl z) λ z => absurd rfl z
  | none =>
    refine core (λ b => if b = a then some (.frz { cls := .type "list",data := .seq vs.toArray } (.lst (ns.map V.int))) else none) (λ b => ?_) (.inl (.inr ⟨{ cls := .type "list",data := .seq vs.toArray },if_pos rfl⟩)) (λ b u z => ?_) (λ b z => ?_) λ _ => hk
    · by_cases hb : b = a
      · exact .inr ⟨_,_,if_pos hb⟩
      · exact .inl (if_neg hb)
    · by_cases hb : b = a
      · have z' := (if_pos hb).symm.trans z
        cases z'
        subst hb
        exact ⟨ha,by rw [List.length_map]; exact hl,vs,_,rv,ha⟩
      · have z' := (if_neg hb).symm.trans z
        cases z'
    · by_cases hb : b = a
      · exact hb
      · exact absurd (if_neg hb) z
end L2
namespace L2
open PySem PySem.Spec PyProof.Rows
end L2
/- THE LAST THEOREM (shape; LID,My.* are yours):
   My.Adr: a structure of the addresses that your layer names (classes,functions); My.Txt K t: a structure (Prop) of the equations over K;
   My.txt_mk : {K} {implicit addresses ..} (e1 : nsIn K mainGlobals "law" = some (some (.ref f))) (e2 : K.lookup f = some ⟨oc,od,.func (fnOf "law" "law" params body scope dV kV doc pm an cdv ct),sl⟩) (e3 : codeIn K cdv "law" = true) .. : ∃ t,My.Txt K t
(the tactic k_is has no namespace: write k_is) -/
namespace L2
open PySem PySem.Spec PyProof.Rows
def defArgs (s : Stmt) : Arguments := match s with
  | .FunctionDef _ a _ _ _ _ _ _ _ _ => a
  | _ => { posonlyargs := [],args := [],vararg := none,kwonlyargs := [],kw_defaults := [],kwarg := none,defaults := [] }
def defBody (s : Stmt) : List Stmt := match s with
  | .FunctionDef _ _ b _ _ _ _ _ _ _ => b
  | _ => []
def defScope (s : Stmt) : Scope := match s with
  | .FunctionDef _ _ _ _ _ _ sc _ _ _ => sc
  | _ => { kind := .function,names := [],isGenerator := false,isCoroutine := false }
abbrev CX0 : CXT := λ _ _ _ _ _ _ => False
abbrev E0 : XK := λ _ _ _ => False
theorem pass0 {X : Cx} : Passes CX0 X E0 := λ _ _ _ _ _ _ _ h => h.elim
structure Fun (K : PySem.W.Frag) (x qual : Str) (st : Stmt) (f : Addr) (fd : FuncData) : Prop where
  ex : ∃ (oc : Value) (od : Option Addr) (kV doc pm : Value) (an : Option Addr) (cdv ct : Value) (osl : Array (Option Value)),
    fd = PySem.W.fnOf x qual (defArgs st) (defBody st) (defScope st) .none kV doc pm an cdv ct ∧ K.lookup f = some ⟨oc,od,.func fd,osl⟩ ∧ PySem.W.codeIn K cdv qual = true
  kp : PySem.W.keepIn K (.ref f) = true
section
variable {P : Program} {w : World} {K : PySem.W.Frag} {mg : Str→Option Value} {base : Heap}
theorem Fun.ok {x qual : Str} {st : Stmt} {f : Addr} {fd : FuncData} {N ps : List Str} {k : Nat} {sp : Sp} (F : Fun K x qual st f fd) (S : FnScope N ps (defScope st)) (len : ∀ vs H Q E,sp vs H Q E→vs.length = ps.length)
    (hbody : ∀ (cdv : Value) (A : Around) (outer : List Env) (s : Shared) (H : Hp) (vs : List V) (Q : VK) (E : XK),Room k (A.deeper (envOfC qual (defScope st) s.heap.objs.size f cdv)) → sp vs H Q E →
      ∃ t,PSs (cxOf CX0 P w K mg base N qual (defScope st) f cdv A outer s H E).nox (defBody st) t ∧ t { nx := λ _ H' => Q .non H',rt := Q } (start N vs) H) : FnOk P w K mg base CX0 (k + 1) f fd ps sp := by
  obtain ⟨oc,od,kV,doc,pm,an,cdv,ct,osl,rfl,lk,hcd⟩ := F.ex
  refine fn_of lk hcd S len λ A outer s H vs Q E hr hsp => ?_
  obtain ⟨t,h,q⟩ := hbody cdv A outer s H vs Q E hr hsp
  exact ⟨t,h.nox,q⟩
theorem Fun.binds {x qual : Str} {st : Stmt} {f : Addr} {fd : FuncData} {ps : List Str} (F : Fun K x qual st f fd)
    (h : ∀ (kV doc pm : Value) (an : Option Addr) (cdv ct : Value) (us : List Value),us.length = ps.length → bindArgs (PySem.W.fnOf x qual (defArgs st) (defBody st) (defScope st) .none kV doc pm an cdv ct) ⟨us,[]⟩ = pure (ps.zip us)) : Binds K fd ps [] := by
  obtain ⟨oc,od,kV,doc,pm,an,cdv,ct,osl,rfl,lk,hcd⟩ := F.ex
  exact .all (h kV doc pm an cdv ct)
theorem fun_mk {x qual : Str} {st : Stmt} {f : Addr} {oc : Value} {od an : Option Addr} {osl : Array (Option Value)} {kV doc pm cdv ct : Value} (l : K.lookup f = some ⟨oc,od,.func (PySem.W.fnOf x qual (defArgs st) (defBody st) (defScope st) .none kV doc pm an cdv ct),osl⟩)
    (c : PySem.W.codeIn K cdv qual = true) (k : PySem.W.keepIn K (.ref f) = true) : Fun K x qual st f (PySem.W.fnOf x qual (defArgs st) (defBody st) (defScope st) .none kV doc pm an cdv ct) := ⟨⟨oc,od,kV,doc,pm,an,cdv,ct,osl,rfl,l,c⟩,k⟩
end
theorem small1000 {n : Nat} (h : n≤1000) : n < sizeLine := Nat.lt_of_le_of_lt h (by decide)
section
variable {X : Cx}
end
theorem iteF {A B : Prop} (h : B) : if false = true then A else B := by
  rw [if_neg Bool.false_ne_true]
  exact h
theorem iteT {A B : Prop} (h : A) : if true = true then A else B := by
  rw [if_pos rfl]
  exact h
def Same (H H' : Hp) : Prop := ∀ b o,H b = some o→H' b = some o
theorem Same.refl (H : Hp) : Same H H := λ _ _ h => h
theorem Same.trans {H H1 H2 : Hp} (a : Same H H1) (b : Same H1 H2) : Same H H2 := λ c o h => b c o (a c o h)
theorem Same.free {H H' : Hp} (e : Same H H') {l : Addr} (h : H' l = Option.none) : H l = Option.none := by
  cases q : H l with
  | none => rfl
  | some o =>
    rw [e l o q] at h
    cases h
theorem Same.seq {K : PySem.W.Frag} {H H' : Hp} {a : Addr} {xs : List V} (e : Same H H') (h : SqL K H a xs) : SqL K H' a xs := by
  rcases h with (h | ⟨o,h⟩) | h
  · exact .inl (.inl (e _ _ h))
  · exact .inl (.inr ⟨o,e _ _ h⟩)
  · exact .inr h
end L2
set_option maxHeartbeats 400000
namespace FL
open PySem PySem.Spec PyProof.Rows L2
inductive D where
  | non | bl (b : Bool) | int (i : Int) | str (x : Str) | ty (n : String)
  | tup (ds : List D)
  /-- a list that is read -/
  | ls (ds : List D)
  /-- a list of this def's own making,at a -/
  | lst (a : Addr) (ds : List D)
  /-- an object of which only its place is told -/
  | ob (a : Addr)
  /-- a tuple that the text's names hold -/
  | kt (ds : List D)
  /-- a list that nothing changes any more -/
  | fl (ds : List D)
  /-- a dict that nothing changes any more: are its keys tuples,its keys,its values -/
  | fd (t : Bool) (ks vs : List D)
  /-- a dict of this def's own making,at a -/
  | dc (a : Addr) (t : Bool) (ks vs : List D)
def keyD : Key→D
  | .inl i => .int i
  | .inr x => .str x
def dOf : HO→Option (Bool × List D × List V)
  | .dK kvs => if (kvs.map (·.1)).Nodup then some (false,kvs.map (λ p => keyD p.1),kvs.map (·.2)) else none
  | .dT kvs => if (kvs.map (·.1)).Nodup then some (true,kvs.map (λ p => .tup (p.1.map keyD)),kvs.map (·.2)) else none
  | _ => none
theorem dOf_k {kvs : List (Key × V)} {t : Bool} {ks : List D} {us : List V} (h : dOf (.dK kvs) = some (t,ks,us)) : (kvs.map (·.1)).Nodup∧t = false∧ks = kvs.map (λ p => keyD p.1)∧us = kvs.map (·.2) := by
  dsimp only [dOf] at h
  by_cases n : (kvs.map (·.1)).Nodup
  · rw [if_pos n] at h
    cases h
    exact ⟨n,rfl,rfl,rfl⟩
  · rw [if_neg n] at h
    cases h
theorem dOf_t {kvs : List (List Key × V)} {t : Bool} {ks : List D} {us : List V} (h : dOf (.dT kvs) = some (t,ks,us)) : (kvs.map (·.1)).Nodup∧t = true∧ks = kvs.map (λ p => .tup (p.1.map keyD))∧us = kvs.map (·.2) := by
  dsimp only [dOf] at h
  by_cases n : (kvs.map (·.1)).Nodup
  · rw [if_pos n] at h
    cases h
    exact ⟨n,rfl,rfl,rfl⟩
  · rw [if_neg n] at h
    cases h
theorem dOf_k' {kvs : List (Key × V)} (n : (kvs.map (·.1)).Nodup) : dOf (.dK kvs) = some (false,kvs.map (λ p => keyD p.1),kvs.map (·.2)) := if_pos n
theorem dOf_t' {kvs : List (List Key × V)} (n : (kvs.map (·.1)).Nodup) : dOf (.dT kvs) = some (true,kvs.map (λ p => .tup (p.1.map keyD)),kvs.map (·.2)) := if_pos n
mutual
inductive Is (K : PySem.W.Frag) (H : Hp) : V → D → Prop
  | non : Is K H .non .non
  | bl (b : Bool) : Is K H (.bl b) (.bl b)
  | int (i : Int) : Is K H (.int i) (.int i)
  | str (x : Str) : Is K H (.str x) (.str x)
  | ty (n : String) : Is K H (.ty n) (.ty n)
  | tup {a : Addr} {xs : List V} {ds : List D} (h : H a = some (.tup xs)) (r : IsAll K H xs ds) : Is K H (.ref a) (.tup ds)
  | ls {a : Addr} {xs : List V} {ds : List D} (h : SqL K H a xs) (r : IsAll K H xs ds) : Is K H (.ref a) (.ls ds)
  | lst {a : Addr} {xs : List V} {ds : List D} (h : H a = some (.lst xs)) (r : IsAll K H xs ds) : Is K H (.ref a) (.lst a ds)
  | ob (a : Addr) : Is K H (.ref a) (.ob a)
  | kt {a : Addr} {xs : List V} {ds : List D} (h : SqT K H a xs) (r : IsAll K H xs ds) : Is K H (.ref a) (.kt ds)
  | fl {a : Addr} {o : Obj} {xs : List V} {ds : List D} (h : H a = some (.frz o (.lst xs))) (r : IsAll K H xs ds) : Is K H (.ref a) (.fl ds)
  | fd {a : Addr} {o : Obj} {u : HO} {us : List V} {t : Bool} {ks vs : List D} (h : H a = some (.frz o u)) (e : dOf u = some (t,ks,us)) (r : IsAll K H us vs) : Is K H (.ref a) (.fd t ks vs)
  | dc {a : Addr} {u : HO} {us : List V} {t : Bool} {ks vs : List D} (h : H a = some u) (e : dOf u = some (t,ks,us)) (r : IsAll K H us vs) : Is K H (.ref a) (.dc a t ks vs)
inductive IsAll (K : PySem.W.Frag) (H : Hp) : List V → List D → Prop
  | nil : IsAll K H [] []
  | cons {v : V} {vs : List V} {d : D} {ds : List D} (h : Is K H v d) (r : IsAll K H vs ds) : IsAll K H (v :: vs) (d :: ds)
end
theorem sameT {K : PySem.W.Frag} {H H' : Hp} {a : Addr} {xs : List V} (e : Same H H') (h : SqT K H a xs) : SqT K H' a xs := by
  rcases h with (h | ⟨o,h⟩) | h
  · exact .inl (.inl (e _ _ h))
  · exact .inl (.inr ⟨o,e _ _ h⟩)
  · exact .inr h
mutual
theorem Is.mono {K : PySem.W.Frag} {H H' : Hp} (e : Same H H') : ∀ {v : V} {d : D},Is K H v d→Is K H' v d
  | _,_,.non => .non
  | _,_,.bl b => .bl b
  | _,_,.int i => .int i
  | _,_,.str x => .str x
  | _,_,.ty n => .ty n
  | _,_,.tup h r => .tup (e _ _ h) (IsAll.mono e r)
  | _,_,.ls h r => .ls (e.seq h) (IsAll.mono e r)
  | _,_,.lst h r => .lst (e _ _ h) (IsAll.mono e r)
  | _,_,.ob a => .ob a
  | _,_,.kt h r => .kt (sameT e h) (IsAll.mono e r)
  | _,_,.fl h r => .fl (e _ _ h) (IsAll.mono e r)
  | _,_,.fd h z r => .fd (e _ _ h) z (IsAll.mono e r)
  | _,_,.dc h z r => .dc (e _ _ h) z (IsAll.mono e r)
theorem IsAll.mono {K : PySem.W.Frag} {H H' : Hp} (e : Same H H') : ∀ {vs : List V} {ds : List D},IsAll K H vs ds→IsAll K H' vs ds
  | _,_,.nil => .nil
  | _,_,.cons h r => .cons (Is.mono e h) (IsAll.mono e r)
end
theorem IsAll.length {K : PySem.W.Frag} {H : Hp} : ∀ {vs : List V} {ds : List D},IsAll K H vs ds→vs.length = ds.length
  | _,_,.nil => rfl
  | _,_,.cons _ r => by simp [IsAll.length r]
theorem IsAll.get {K : PySem.W.Frag} {H : Hp} : ∀ {vs : List V} {ds : List D},IsAll K H vs ds→∀ {i : Nat} {d : D},ds[i]? = some d→∃ v,vs[i]? = some v∧Is K H v d
  | _,_,.nil,i,d,e => by simp at e
  | _,_,.cons h r,0,d,e => by simp at e; subst e; exact ⟨_,rfl,h⟩
  | _,_,.cons h r,i + 1,d,e => by
    obtain ⟨v,e1,h1⟩ := IsAll.get r (i := i) (d := d) (by simpa using e)
    exact ⟨v,by simpa using e1,h1⟩
theorem IsAll.append {K : PySem.W.Frag} {H : Hp} : ∀ {vs us : List V} {ds es : List D},IsAll K H vs ds→IsAll K H us es→IsAll K H (vs ++ us) (ds ++ es)
  | _,_,_,_,.nil,s => s
  | _,_,_,_,.cons h r,s => .cons h (IsAll.append r s)
theorem IsAll.ints {K : PySem.W.Frag} {H : Hp} : ∀ (ns : List Int),IsAll K H (ns.map V.int) (ns.map D.int)
  | [] => .nil
  | n :: ns => .cons (.int n) (IsAll.ints ns)
theorem Is.int_inv {K : PySem.W.Frag} {H : Hp} {v : V} {i : Int} (h : Is K H v (.int i)) : v = .int i := by cases h; rfl
theorem Is.bl_inv {K : PySem.W.Frag} {H : Hp} {v : V} {b : Bool} (h : Is K H v (.bl b)) : v = .bl b := by cases h; rfl
theorem Is.str_inv {K : PySem.W.Frag} {H : Hp} {v : V} {x : Str} (h : Is K H v (.str x)) : v = .str x := by cases h; rfl
theorem Is.ty_inv {K : PySem.W.Frag} {H : Hp} {v : V} {x : String} (h : Is K H v (.ty x)) : v = .ty x := by cases h; rfl
theorem Is.non_inv {K : PySem.W.Frag} {H : Hp} {v : V} (h : Is K H v .non) : v = .non := by cases h; rfl
theorem Is.tup_inv {K : PySem.W.Frag} {H : Hp} {v : V} {ds : List D} (h : Is K H v (.tup ds)) : ∃ a xs,v = .ref a∧SqT K H a xs∧IsAll K H xs ds := by
  cases h with
  | tup h r => exact ⟨_,_,rfl,.of h,r⟩
theorem Is.tupH_inv {K : PySem.W.Frag} {H : Hp} {v : V} {ds : List D} (h : Is K H v (.tup ds)) : ∃ a xs,v = .ref a∧H a = some (.tup xs)∧IsAll K H xs ds := by
  cases h with
  | tup h r => exact ⟨_,_,rfl,h,r⟩
theorem Is.kt_inv {K : PySem.W.Frag} {H : Hp} {v : V} {ds : List D} (h : Is K H v (.kt ds)) : ∃ a xs,v = .ref a∧SqT K H a xs∧IsAll K H xs ds := by
  cases h with
  | kt h r => exact ⟨_,_,rfl,h,r⟩
theorem Is.fl_inv {K : PySem.W.Frag} {H : Hp} {v : V} {ds : List D} (h : Is K H v (.fl ds)) : ∃ a o xs,v = .ref a∧H a = some (.frz o (.lst xs))∧IsAll K H xs ds := by
  cases h with
  | fl h r => exact ⟨_,_,_,rfl,h,r⟩
theorem Is.fd_inv {K : PySem.W.Frag} {H : Hp} {v : V} {t : Bool} {ks vs : List D} (h : Is K H v (.fd t ks vs)) : ∃ a o u us,v = .ref a∧H a = some (.frz o u)∧dOf u = some (t,ks,us)∧IsAll K H us vs := by
  cases h with
  | fd h e r => exact ⟨_,_,_,_,rfl,h,e,r⟩
theorem Is.dc_inv {K : PySem.W.Frag} {H : Hp} {v : V} {t : Bool} {ks vs : List D} {a : Addr} (h : Is K H v (.dc a t ks vs)) : v = .ref a∧∃ u us,H a = some u∧dOf u = some (t,ks,us)∧IsAll K H us vs := by
  cases h with
  | dc h e r => exact ⟨rfl,_,_,h,e,r⟩
theorem Is.lst_inv {K : PySem.W.Frag} {H : Hp} {v : V} {ds : List D} {a : Addr} (h : Is K H v (.lst a ds)) : v = .ref a∧∃ xs,H a = some (.lst xs)∧IsAll K H xs ds := by
  cases h with
  | lst h r => exact ⟨rfl,_,h,r⟩
theorem Is.ls_inv {K : PySem.W.Frag} {H : Hp} {v : V} {ds : List D} (h : Is K H v (.ls ds)) : ∃ a xs,v = .ref a∧SqL K H a xs∧IsAll K H xs ds := by
  cases h with
  | ls h r => exact ⟨_,_,rfl,h,r⟩
def lsD : D→Option (List D)
  | .ls ds => some ds
  | .lst _ ds => some ds
  | .fl ds => some ds
  | _ => none
theorem Is.lsD_inv {K : PySem.W.Frag} {H : Hp} {v : V} {d : D} {ds : List D} (h : Is K H v d) (e : lsD d = some ds) : ∃ a xs,v = .ref a∧SqL K H a xs∧IsAll K H xs ds := by
  cases d with
  | ls es => cases e; exact h.ls_inv
  | lst a es => cases e; obtain ⟨h1,xs,h2,h3⟩ := h.lst_inv; exact ⟨a,xs,h1,.of h2,h3⟩
  | fl es => cases e; obtain ⟨a,o,xs,h1,h2,h3⟩ := h.fl_inv; exact ⟨a,xs,h1,.inl (.inr ⟨o,h2⟩),h3⟩
  | _ => cases e
inductive Fz : D → Prop
  | non : Fz .non
  | bl (b : Bool) : Fz (.bl b)
  | int (i : Int) : Fz (.int i)
  | str (x : Str) : Fz (.str x)
  | ty (n : String) : Fz (.ty n)
  | ob (a : Addr) : Fz (.ob a)
  | tup {ds : List D} (h : ∀ d ∈ ds,Fz d) : Fz (.tup ds)
  | kt {ds : List D} (h : ∀ d ∈ ds,Fz d) : Fz (.kt ds)
  | fl {ds : List D} (h : ∀ d ∈ ds,Fz d) : Fz (.fl ds)
  | fd {t : Bool} {ks vs : List D} (h : ∀ d ∈ vs,Fz d) : Fz (.fd t ks vs)
theorem Fz.tup_inv {ds : List D} (h : Fz (.tup ds)) : ∀ d∈ds,Fz d := by cases h with | tup h => exact h
theorem Fz.kt_inv {ds : List D} (h : Fz (.kt ds)) : ∀ d∈ds,Fz d := by cases h with | kt h => exact h
theorem Fz.fl_inv {ds : List D} (h : Fz (.fl ds)) : ∀ d∈ds,Fz d := by cases h with | fl h => exact h
theorem Fz.fd_inv {t : Bool} {ks vs : List D} (h : Fz (.fd t ks vs)) : ∀ d∈vs,Fz d := by cases h with | fd h => exact h
theorem Fz.no_dc {a : Addr} {t : Bool} {ks vs : List D} (h : Fz (.dc a t ks vs)) : False := by cases h
theorem Fz.no_ls {ds : List D} (h : Fz (.ls ds)) : False := by cases h
theorem Fz.no_lst {a : Addr} {ds : List D} (h : Fz (.lst a ds)) : False := by cases h
def KT (H H' : Hp) : Prop := (∀ b xs,H b = some (.tup xs)→H' b = some (.tup xs))∧∀ b o u,H b = some (.frz o u)→H' b = some (.frz o u)
theorem KT.seqT {K : PySem.W.Frag} {H H' : Hp} {a : Addr} {xs : List V} (e : KT H H') (h : SqT K H a xs) : SqT K H' a xs := by
  rcases h with (h | ⟨o,h⟩) | h
  · exact .inl (.inl (e.1 _ _ h))
  · exact .inl (.inr ⟨o,e.2 _ _ _ h⟩)
  · exact .inr h
mutual
theorem Is.keep {K : PySem.W.Frag} {H H' : Hp} (e : KT H H') : ∀ {v : V} {d : D},Is K H v d→Fz d→Is K H' v d
  | _,_,.non,_ => .non
  | _,_,.bl b,_ => .bl b
  | _,_,.int i,_ => .int i
  | _,_,.str x,_ => .str x
  | _,_,.ty n,_ => .ty n
  | _,_,.tup h r,f => .tup (e.1 _ _ h) (IsAll.keep e r f.tup_inv)
  | _,_,.ls _ _,f => f.no_ls.elim
  | _,_,.lst _ _,f => f.no_lst.elim
  | _,_,.ob a,_ => .ob a
  | _,_,.kt h r,f => .kt (e.seqT h) (IsAll.keep e r f.kt_inv)
  | _,_,.fl h r,f => .fl (e.2 _ _ _ h) (IsAll.keep e r f.fl_inv)
  | _,_,.fd h z r,f => .fd (e.2 _ _ _ h) z (IsAll.keep e r f.fd_inv)
  | _,_,.dc _ _ _,f => f.no_dc.elim
theorem IsAll.keep {K : PySem.W.Frag} {H H' : Hp} (e : KT H H') : ∀ {vs : List V} {ds : List D},IsAll K H vs ds→(∀ d∈ds,Fz d)→IsAll K H' vs ds
  | _,_,.nil,_ => .nil
  | _,_,.cons h r,f => .cons (Is.keep e h (f _ List.mem_cons_self)) (IsAll.keep e r λ d hd => f d (List.mem_cons_of_mem _ hd))
end
abbrev Ro := List (Option D)
def ownA : D→Option Addr
  | .lst a _ => some a
  | .dc a _ _ _ => some a
  | _ => none
def Mu (ρ : Ro) (a : Addr) : Prop := ∃ (i : Nat) (d : D),ρ[i]? = some (some d)∧ownA d = some a
@[simp] theorem ownA_non : ownA .non = none := rfl
@[simp] theorem ownA_bl (b : Bool) : ownA (.bl b) = none := rfl
@[simp] theorem ownA_int (i : Int) : ownA (.int i) = none := rfl
@[simp] theorem ownA_str (x : Str) : ownA (.str x) = none := rfl
@[simp] theorem ownA_tup (ds : List D) : ownA (.tup ds) = none := rfl
@[simp] theorem ownA_ls (ds : List D) : ownA (.ls ds) = none := rfl
@[simp] theorem ownA_ob (a : Addr) : ownA (.ob a) = none := rfl
@[simp] theorem ownA_kt (ds : List D) : ownA (.kt ds) = none := rfl
@[simp] theorem ownA_fl (ds : List D) : ownA (.fl ds) = none := rfl
@[simp] theorem ownA_fd (t : Bool) (ks vs : List D) : ownA (.fd t ks vs) = none := rfl
theorem Fz.own {d : D} (h : Fz d) : ownA d = none := by cases h <;> rfl
theorem Fz.no_own {d : D} {a : Addr} (h : Fz d) (z : ownA d = some a) : False := by rw [h.own] at z; cases z
inductive Mine : D → Prop
  | lst {a : Addr} {ds : List D} (h : ∀ e ∈ ds,Fz e) : Mine (.lst a ds)
  | dc {a : Addr} {t : Bool} {ks vs : List D} (h : ∀ e ∈ vs,Fz e) : Mine (.dc a t ks vs)
structure RelS (X : Cx) (Hb H : Hp) (σ : L2.St) (ρ : Ro) : Prop where
  same : Same Hb H
  len : σ.length = ρ.length
  val : ∀ (i : Nat) (d : D),ρ[i]? = some (some d) → ∃ v,σ[i]? = some (some v) ∧ Is X.K H v d ∧ (Fz d ∨ Is X.K Hb v d ∨ Mine d)
  own : ∀ a,Mu ρ a → Hb a = none
theorem Mine.keep {K : PySem.W.Frag} {H H' : Hp} {v : V} {d : D} (m : Mine d) (h : Is K H v d) (kt : KT H H') (hk : ∀ a,ownA d = some a→H' a = H a) : Is K H' v d := by
  cases m with
  | lst f =>
    obtain ⟨rfl,ys,g1,g2⟩ := h.lst_inv
    exact .lst (by rw [hk _ rfl]; exact g1) (g2.keep kt f)
  | dc f =>
    obtain ⟨rfl,u,us,g1,g2,g3⟩ := h.dc_inv
    exact .dc (by rw [hk _ rfl]; exact g1) g2 (g3.keep kt f)
theorem ne_list {K : PySem.W.Frag} {H : Hp} {v : V} {d : D} {a l : Addr} {xs : List V} (h : Is K H v d) (z : ownA d = some a) (hl : H l = some (.lst xs)) (hn : ∀ es,d≠.lst l es) : a≠l := λ e => by
  subst e
  cases d with
  | lst b es => cases z; exact hn es rfl
  | dc b t ks vs =>
    cases z
    obtain ⟨_,u,us,g1,g2,_⟩ := h.dc_inv
    rw [hl] at g1
    cases g1
    cases g2
  | _ => cases z
theorem RelS.mono {X : Cx} {Hb H H' : Hp} {σ : L2.St} {ρ : Ro} (r : RelS X Hb H σ ρ) (e : Same H H') : RelS X Hb H' σ ρ :=
  ⟨r.same.trans e,r.len,λ i d h => let ⟨v,a,b,c⟩ := r.val i d h; ⟨v,a,b.mono e,c⟩,r.own⟩
theorem RelS.mu {X : Cx} {Hb H : Hp} {σ : L2.St} {ρ : Ro} (r : RelS X Hb H σ ρ) {a : Addr} (h : Mu ρ a) : ∃ u,H a = some u∧Mut (some u) := by
  obtain ⟨i,d,e,z⟩ := h
  obtain ⟨v,_,h,_⟩ := r.val i _ e
  cases d with
  | lst b ds =>
    cases z
    obtain ⟨_,xs,h,_⟩ := h.lst_inv
    exact ⟨_,h,trivial⟩
  | dc b t ks vs =>
    cases z
    obtain ⟨_,u,us,h,e,_⟩ := h.dc_inv
    refine ⟨u,h,?_⟩
    cases u with
    | dK _ => exact trivial
    | dT _ => exact trivial
    | _ => cases e
  | _ => cases z
theorem set_get {ρ : Ro} {n j : Nat} {d e : D} (h : (ρ.set n (some d))[j]? = some (some e)) : (j = n∧e = d∧n < ρ.length)∨(j≠n∧ρ[j]? = some (some e)) := by
  by_cases hji : n = j
  · subst hji
    rw [List.getElem?_set,if_pos rfl] at h
    by_cases hl : n < ρ.length
    · rw [if_pos hl] at h
      cases h
      exact .inl ⟨rfl,rfl,hl⟩
    · rw [if_neg hl] at h; cases h
  · rw [List.getElem?_set_ne hji] at h
    exact .inr ⟨λ z => hji z.symm,h⟩
theorem RelS.set {X : Cx} {Hb H : Hp} {σ : L2.St} {ρ : Ro} (r : RelS X Hb H σ ρ) {v : V} {d : D} (h : Is X.K H v d) (n : Nat) (hf : Fz d∨Is X.K Hb v d∨Mine d) (ho : ∀ a,ownA d = some a→Hb a = none) :
    RelS X Hb H (σ.set n (some v)) (ρ.set n (some d)) := by
  refine ⟨r.same,by simp [r.len],λ j e hj => ?_,λ a ⟨j,ds,hj,hz⟩ => ?_⟩
  · rcases set_get hj with ⟨rfl,rfl,hl⟩ | ⟨hne,hj⟩
    · refine ⟨v,?_,h,hf⟩
      rw [List.getElem?_set,if_pos rfl,if_pos (by rw [r.len]; exact hl)]
    · obtain ⟨u,h1,h2⟩ := r.val j e hj
      exact ⟨u,by rw [List.getElem?_set_ne (λ z => hne z.symm)]; exact h1,h2⟩
  · rcases set_get hj with ⟨rfl,rfl,hl⟩ | ⟨hne,hj⟩
    · exact ho a hz
    · exact r.own a ⟨j,ds,hj,hz⟩
structure Go (ρ : Ro) (H : Hp) (ρ' : Ro) (H' : Hp) : Prop where
  kept : ∀ b o,H b = some o → ¬ Mu ρ b → H' b = some o
  mu : ∀ a,Mu ρ' a → Mu ρ a ∨ H a = none
theorem Go.refl (ρ : Ro) (H : Hp) : Go ρ H ρ H := ⟨λ _ _ h _ => h,λ _ h => .inl h⟩
theorem Go.trans {ρ ρ1 ρ2 : Ro} {H H1 H2 : Hp} (a : Go ρ H ρ1 H1) (b : Go ρ1 H1 ρ2 H2) : Go ρ H ρ2 H2 where
  kept := λ c o h n => b.kept c o (a.kept c o h n) λ m => by
    rcases a.mu c m with z | z
    · exact n z
    · rw [h] at z; cases z
  mu := λ c m => by
    rcases b.mu c m with z | z
    · exact a.mu c z
    · by_cases hc : Mu ρ c
      · exact .inl hc
      · refine .inr ?_
        cases q : H c with
        | none => rfl
        | some o => rw [a.kept c o q hc] at z; cases z
theorem Go.same {ρ : Ro} {H H' : Hp} (e : Same H H') : Go ρ H ρ H' := ⟨λ b o h _ => e b o h,λ _ h => .inl h⟩
theorem Go.kt {X : Cx} {ρ ρ' : Ro} {Hb H H' : Hp} {σ : L2.St} (g : Go ρ H ρ' H') (r : RelS X Hb H σ ρ) : KT H H' :=
  ⟨λ b _ h => g.kept b _ h (λ m => by obtain ⟨ys,e,z⟩ := r.mu m; rw [h] at e; cases e; exact z),λ b _ _ h => g.kept b _ h (λ m => by obtain ⟨ys,e,z⟩ := r.mu m; rw [h] at e; cases e; exact z)⟩
theorem Go.set {ρ : Ro} {H H' : Hp} (e : Same H H') {d : D} {n : Nat} (hd : ∀ a,ownA d = some a→Mu ρ a∨H a = none) : Go ρ H (ρ.set n (some d)) H' :=
  ⟨λ b o h _ => e b o h,λ a ⟨j,ds,hj,hz⟩ => by
    rcases set_get hj with ⟨rfl,rfl,_⟩ | ⟨_,hj⟩
    · exact hd a hz
    · exact .inl ⟨j,ds,hj,hz⟩⟩
structure RelE (X : Cx) (H : Hp) (σ : L2.St) (ρ : Ro) : Prop where
  len : σ.length = ρ.length
  val : ∀ (i : Nat) (d : D),ρ[i]? = some (some d) → ∃ v,σ[i]? = some (some v) ∧ Is X.K H v d
theorem RelE.mono {X : Cx} {H H' : Hp} {σ : L2.St} {ρ : Ro} (r : RelE X H σ ρ) (e : Same H H') : RelE X H' σ ρ := ⟨r.len,λ i d h => let ⟨v,a,b⟩ := r.val i d h; ⟨v,a,b.mono e⟩⟩
theorem RelS.e {X : Cx} {Hb H : Hp} {σ : L2.St} {ρ : Ro} (r : RelS X Hb H σ ρ) : RelE X H σ ρ := ⟨r.len,λ i d h => let ⟨v,a,b,_⟩ := r.val i d h; ⟨v,a,b⟩⟩
def intAt (ρ : Ro) (i : Nat) : Int := match ρ[i]? with
  | some (some (D.int l)) => l
  | _ => 0
def tD (X : Cx) (ρ : Ro) (d : D) : TE := λ σ H Q => RelE X H σ ρ∧∀ v H',Same H H'→Is X.K H' v d→Q v H'
def tB (X : Cx) (ρ : Ro) (b : Bool) : TT := λ σ H Q => RelE X H σ ρ∧∀ H',Same H H'→Q b H'
def tDs (X : Cx) (ρ : Ro) (ds : List D) : TA := λ σ H Q => RelE X H σ ρ∧∀ vs H',Same H H'→IsAll X.K H' vs ds→Q vs H'
def Ev (X : Cx) (e : Expr) (ρ : Ro) (d : D) : Prop := PE X e (tD X ρ d)
def Et (X : Cx) (e : Expr) (ρ : Ro) (b : Bool) : Prop := PT X e (tB X ρ b)
def Ew (X : Cx) (e : Expr) (ρ : Ro) (b : Bool) : Prop := PW X e (tB X ρ b)
def EvA (X : Cx) (es : List Expr) (ρ : Ro) (ds : List D) : Prop := PA X es (tDs X ρ ds)
section
variable {X : Cx} {e a b c : Expr} {es : List Expr} {ρ : Ro} {d : D} {ds : List D} {pos : Pos} {i j : Int} {k k' : Bool}
theorem Ev.tt {p : Prop} [Decidable p] (h : Ev X e ρ (.bl (decide p))) (hp : p) : Ev X e ρ (.bl true) := by rw [decide_eq_true hp] at h; exact h
theorem Et.tt {p : Prop} [Decidable p] (h : Et X e ρ (decide p)) (hp : p) : Et X e ρ true := by rw [decide_eq_true hp] at h; exact h
theorem Et.ff' {p : Prop} [Decidable p] (h : Et X e ρ (decide p)) (hp : ¬ p) : Et X e ρ false := by rw [decide_eq_false hp] at h; exact h
theorem Et.ff {p : Prop} [Decidable p] (h : Et X e ρ (!decide p)) (hp : p) : Et X e ρ false := by rw [decide_eq_true hp] at h; exact h
theorem PE.imp {t t' : TE} (h : PE X e t) (f : ∀ σ H Q,t' σ H Q→t σ H Q) : PE X e t' := λ pins s σ H Q I q => h pins s σ H Q I (f σ H Q q)
theorem PT.imp {t t' : TT} (h : PT X e t) (f : ∀ σ H Q,t' σ H Q→t σ H Q) : PT X e t' := λ pins s σ H Q I q => h pins s σ H Q I (f σ H Q q)
theorem PW.imp {t t' : TT} (h : PW X e t) (f : ∀ σ H Q,t' σ H Q→t σ H Q) : PW X e t' := λ whole pins s σ H Q I q => h whole pins s σ H Q I (f σ H Q q)
theorem PA.imp {t t' : TA} (h : PA X es t) (f : ∀ σ H Q,t' σ H Q→t σ H Q) : PA X es t' := λ pos pins s σ H Q I q => h pos pins s σ H Q I (f σ H Q q)
theorem PS.imp {st : Stmt} {t t' : TS} (h : PS X st t) (f : ∀ D σ H,t' D σ H→t D σ H) : PS X st t' := λ pins s σ H D I q => h pins s σ H D I (f D σ H q)
theorem PSs.imp {st : List Stmt} {t t' : TS} (h : PSs X st t) (f : ∀ D σ H,t' D σ H→t D σ H) : PSs X st t' := λ pins s σ H D I q => h pins s σ H D I (f D σ H q)
theorem ev_v (n : Nat) {x : Str} (hρ : ρ[n]? = some (some d) := by rfl) (hN : X.N[n]? = some x := by rfl) (hv : Vis X.env.scope x := by first | exact Or.inl rfl | exact Or.inr (Or.inl rfl) | exact Or.inr (Or.inr rfl))
    (hd : (x == ("__debug__" : Str)) = false := by decide) (hcd : (x == ("__classdict__" : Str)) = false := by decide) : Ev X (.Name x pos) ρ d :=
  PE.imp (pe_var hN hv hd hcd) λ σ H Q ⟨r,q⟩ => let ⟨v,h1,h2⟩ := r.val n d hρ; ⟨v,h1,q v H (Same.refl H) h2⟩
theorem ev_int {z : Int} {m} : Ev X (.Constant (.int z) m pos) ρ (.int z) := PE.imp pe_int λ _ H _ ⟨_,q⟩ => q _ H (Same.refl H) (.int z)
theorem ev_bl {z : Bool} {m} : Ev X (.Constant (.bool z) m pos) ρ (.bl z) := PE.imp pe_bl λ _ H _ ⟨_,q⟩ => q _ H (Same.refl H) (.bl z)
theorem ev_str {z : Str} {m} : Ev X (.Constant (.str z) m pos) ρ (.str z) := PE.imp pe_str λ _ H _ ⟨_,q⟩ => q _ H (Same.refl H) (.str z)
theorem ev_ty {x : Str} {n : String} (hm : X.mg x = none) (hv : bootBuiltins x = some (.type n)) (hg : Gl X x := by rfl) (hn : x≠"__name__" := by decide) (hd : (x == ("__debug__" : Str)) = false := by decide) : Ev X (.Name x pos) ρ (.ty n) :=
  PE.imp (pe_bltn hg hm hv (v := .ty n) rfl hn hd) λ _ H _ ⟨_,q⟩ => q _ H (Same.refl H) (.ty n)
theorem ev_op {op : Operator} {r : R2} {d1 d2 : D} (ho : OpR X (binaryOp op) r) (ha : Ev X a ρ d1) (hb : Ev X b ρ d2)
    (hr : ∀ v1 v2 H Q,Is X.K H v1 d1 → Is X.K H v2 d2 → (∀ v H',Same H H' → Is X.K H' v d → Q v H') → r v1 v2 H Q) : Ev X (.BinOp a op b pos) ρ d :=
  PE.imp (pe_op ho ha hb) λ σ H Q ⟨r,q⟩ => ⟨r,λ v1 H1 s1 h1 => ⟨r.mono s1,λ v2 H2 s2 h2 => hr v1 v2 H2 Q (h1.mono s2) h2 λ v H' s3 h3 => q v H' (s1.trans (s2.trans s3)) h3⟩⟩
theorem ev_cmp {op : CmpOp} {r : R2} {d1 d2 : D} (ho : OpR X (compareOp op) r) (ha : Ev X a ρ d1) (hb : Ev X b ρ d2) (hm : behindInMarks op b = false)
    (hr : ∀ v1 v2 H Q,Is X.K H v1 d1 → Is X.K H v2 d2 → (∀ v H',Same H H' → Is X.K H' v d → Q v H') → r v1 v2 H Q) : Ev X (.Compare a [op] [b] pos) ρ d :=
  PE.imp (pe_cmpR ho ha hb hm) λ σ H Q ⟨r,q⟩ => ⟨r,λ v1 H1 s1 h1 => ⟨r.mono s1,λ v2 H2 s2 h2 => hr v1 v2 H2 Q (h1.mono s2) h2 λ v H' s3 h3 => q v H' (s1.trans (s2.trans s3)) h3⟩⟩
theorem et_cmp {op : CmpOp} {r : R2} {d1 d2 : D} (ho : OpR X (compareOp op) r) (ha : Ev X a ρ d1) (hb : Ev X b ρ d2) (hm : behindInMarks op b = false)
    (hr : ∀ v1 v2 H Q,Is X.K H v1 d1 → Is X.K H v2 d2 → (∀ v H',Same H H' → Is X.K H' v (.bl k) → Q v H') → r v1 v2 H Q) : Et X (.Compare a [op] [b] pos) ρ k :=
  PT.imp (pt_cmpR ho ha hb hm) λ σ H Q ⟨r,q⟩ => ⟨r,λ v1 H1 s1 h1 => ⟨r.mono s1,λ v2 H2 s2 h2 => hr v1 v2 H2 _ (h1.mono s2) h2 λ v H' s3 h3 => ⟨k,h3.bl_inv,q H' (s1.trans (s2.trans s3))⟩⟩⟩
theorem rI_of {C : Int→Int→Prop} {g : Int→Int→V} (hC : C i j) (hg : ∀ H,Is X.K H (g i j) d) :
    ∀ v1 v2 H Q,Is X.K H v1 (.int i) → Is X.K H v2 (.int j) → (∀ v H',Same H H' → Is X.K H' v d → Q v H') → rI C g v1 v2 H Q :=
  λ _ _ H _ h1 h2 q => ⟨i,j,h1.int_inv,h2.int_inv,hC,q _ H (Same.refl H) (hg H)⟩
theorem rI0_of {g : Int→Int→V} (hg : ∀ H,Is X.K H (g i j) d) :
    ∀ v1 v2 H Q,Is X.K H v1 (.int i) → Is X.K H v2 (.int j) → (∀ v H',Same H H' → Is X.K H' v d → Q v H') → rI0 g v1 v2 H Q :=
  λ _ _ H _ h1 h2 q => ⟨i,j,h1.int_inv,h2.int_inv,q _ H (Same.refl H) (hg H)⟩
theorem ev_add (ha : Ev X a ρ (.int i)) (hb : Ev X b ρ (.int j)) : Ev X (.BinOp a .Add b pos) ρ (.int (i + j)) := ev_op op_add ha hb (rI0_of λ _ => .int _)
theorem ev_sub (ha : Ev X a ρ (.int i)) (hb : Ev X b ρ (.int j)) : Ev X (.BinOp a .Sub b pos) ρ (.int (i - j)) := ev_op op_sub ha hb (rI0_of λ _ => .int _)
theorem op_mulB : OpR X (binaryOp .Mult) (rI IntMulOk λ i j => .int (i * j)) := opI λ _ _ _ _ _ _ _ hc q => mul_int q hc
class Bd (i : Int) (m : outParam Nat) : Prop where
  lt : Builtin.Int.intBits i ≤ m
theorem mulOk {i j : Int} {m n : Nat} (hi : Bd i m) (hj : Bd j n) (h : m + n≤134217728) : IntMulOk i j := IntMulOk.of_le hi.lt hj.lt h
theorem ev_mul {m n : Nat} (ha : Ev X a ρ (.int i)) (hb : Ev X b ρ (.int j)) (hi : Bd i m) (hj : Bd j n) (h : m + n≤134217728 := by decide) : Ev X (.BinOp a .Mult b pos) ρ (.int (i * j)) :=
  ev_op op_mulB ha hb (rI_of (mulOk hi hj h) λ _ => .int _)
theorem ev_mod (ha : Ev X a ρ (.int i)) (hb : Ev X b ρ (.int j)) (h : 0 < j) : Ev X (.BinOp a .Mod b pos) ρ (.int (i % j)) := ev_op op_mod ha hb (rI_of h λ _ => .int _)
def CDivB (_ j : Int) : Prop := 0 < j∧Builtin.Int.intBits j≤9000
theorem op_fdivB : OpR X (binaryOp .FloorDiv) (rI CDivB λ i j => .int (i / j)) := opI λ i j _ _ _ _ _ hc q => by
  have h1 : (0 : Int) < j := hc.1
  refine floordiv_int (by omega) (by rw [Int.fdiv_eq_ediv_of_nonneg i (by omega)]; exact q) (.inl (PyProof.noPylong_of_log2 ?_))
  have h2 := intBits_le_iff.mp hc.2
  exact (Nat.log2_lt (by omega)).mpr h2
theorem ev_div {m : Nat} (ha : Ev X a ρ (.int i)) (hb : Ev X b ρ (.int j)) (h : 0 < j) (hj : Bd j m) (hm : m≤9000 := by decide) : Ev X (.BinOp a .FloorDiv b pos) ρ (.int (i / j)) :=
  ev_op op_fdivB ha hb (rI_of ⟨h,Nat.le_trans hj.lt hm⟩ λ _ => .int _)
theorem ev_neg (ha : Ev X a ρ (.int i)) : Ev X (.UnaryOp .USub a pos) ρ (.int (-i)) :=
  PE.imp (pe_un un_neg ha) λ σ H Q ⟨r,q⟩ => ⟨r,λ v1 H1 s1 h1 => ⟨i,h1.int_inv,q _ H1 s1 (.int _)⟩⟩
theorem ev_lt (ha : Ev X a ρ (.int i)) (hb : Ev X b ρ (.int j)) : Ev X (.Compare a [.Lt] [b] pos) ρ (.bl (decide (i < j))) := ev_cmp op_lt ha hb (nomark _) (rI0_of λ _ => .bl _)
theorem ev_gt (ha : Ev X a ρ (.int i)) (hb : Ev X b ρ (.int j)) : Ev X (.Compare a [.Gt] [b] pos) ρ (.bl (decide (j < i))) := ev_cmp op_gt ha hb (nomark _) (rI0_of λ _ => .bl _)
theorem ev_ge (ha : Ev X a ρ (.int i)) (hb : Ev X b ρ (.int j)) : Ev X (.Compare a [.GtE] [b] pos) ρ (.bl (decide (j≤i))) := ev_cmp op_ge ha hb (nomark _) (rI0_of λ _ => .bl _)
theorem et_lt (ha : Ev X a ρ (.int i)) (hb : Ev X b ρ (.int j)) : Et X (.Compare a [.Lt] [b] pos) ρ (decide (i < j)) := et_cmp op_lt ha hb (nomark _) (rI0_of λ _ => .bl _)
theorem et_le (ha : Ev X a ρ (.int i)) (hb : Ev X b ρ (.int j)) : Et X (.Compare a [.LtE] [b] pos) ρ (decide (i≤j)) := et_cmp op_le ha hb (nomark _) (rI0_of λ _ => .bl _)
theorem et_gt (ha : Ev X a ρ (.int i)) (hb : Ev X b ρ (.int j)) : Et X (.Compare a [.Gt] [b] pos) ρ (decide (j < i)) := et_cmp op_gt ha hb (nomark _) (rI0_of λ _ => .bl _)
theorem dec_V {i j : Int} : decide (V.int i = V.int j) = decide (i = j) := by
  by_cases h : i = j
  · subst h; simp
  · rw [decide_eq_false h,decide_eq_false (λ z => h (V.int.inj z))]
theorem rEq_of : ∀ v1 v2 H Q,Is X.K H v1 (.int i)→Is X.K H v2 (.int j)→(∀ v H',Same H H'→Is X.K H' v (.bl (decide (i = j)))→Q v H')→rEq v1 v2 H Q := λ v1 v2 H Q h1 h2 q => by
  cases h1.int_inv; cases h2.int_inv
  exact ⟨rfl,by rw [dec_V]; exact q _ H (Same.refl H) (.bl _)⟩
theorem rNe_of : ∀ v1 v2 H Q,Is X.K H v1 (.int i)→Is X.K H v2 (.int j)→(∀ v H',Same H H'→Is X.K H' v (.bl (!decide (i = j)))→Q v H')→rNe v1 v2 H Q := λ v1 v2 H Q h1 h2 q => by
  cases h1.int_inv; cases h2.int_inv
  exact ⟨rfl,by rw [dec_V]; exact q _ H (Same.refl H) (.bl _)⟩
theorem ev_eq (ha : Ev X a ρ (.int i)) (hb : Ev X b ρ (.int j)) : Ev X (.Compare a [.Eq] [b] pos) ρ (.bl (decide (i = j))) := ev_cmp op_eq ha hb (nomark _) rEq_of
theorem et_eq (ha : Ev X a ρ (.int i)) (hb : Ev X b ρ (.int j)) : Et X (.Compare a [.Eq] [b] pos) ρ (decide (i = j)) := et_cmp op_eq ha hb (nomark _) rEq_of
theorem et_ne (ha : Ev X a ρ (.int i)) (hb : Ev X b ρ (.int j)) : Et X (.Compare a [.NotEq] [b] pos) ρ (!decide (i = j)) := et_cmp op_ne ha hb (nomark _) rNe_of
theorem et_val (h : Ev X e ρ (.bl k)) (he : ∀ whole,isTrue e X.env whole = (do let v ← whole; standAt e.pos; holding [v] (truthy v)) := by intro _; rfl) : Et X e ρ k :=
  PT.imp (pt_val h he) λ σ H Q ⟨r,q⟩ => ⟨r,λ v H' s h => ⟨k,h.bl_inv,q H' s⟩⟩
theorem et_not (h : Et X a ρ k) : Et X (.UnaryOp .Not a pos) ρ (!k) := PT.imp (pt_not h) λ σ H Q ⟨r,q⟩ => ⟨r,λ H' s => q H' s⟩
theorem et_notT (h : Et X a ρ true) : Et X (.UnaryOp .Not a pos) ρ false := et_not h
theorem ew_and1 (h : Et X a ρ k) : Ew X (.BoolOp .And [a] pos) ρ k := PW.imp (pw_and1 h) λ _ _ _ q => q
theorem ew_or1 (h : Et X a ρ k) : Ew X (.BoolOp .Or [a] pos) ρ k := PW.imp (pw_or1 h) λ _ _ _ q => q
theorem ew_andF {rest : List Expr} (h : Et X a ρ false) : Ew X (.BoolOp .And (a :: b :: rest) pos) ρ false :=
  PW.imp (pw_and (tB' := λ _ _ _ => False) h (λ _ _ _ _ _ _ _ z => z.elim)) λ σ H Q ⟨r,q⟩ => ⟨r,λ H' s => iteF (q H' s)⟩
theorem ew_andT {rest : List Expr} (h : Et X a ρ true) (h2 : Ew X (.BoolOp .And (b :: rest) pos) ρ k) : Ew X (.BoolOp .And (a :: b :: rest) pos) ρ k :=
  PW.imp (pw_and h h2) λ σ H Q ⟨r,q⟩ => ⟨r,λ H' s => iteT ⟨r.mono s,λ H'' s' => q H'' (s.trans s')⟩⟩
theorem ew_and {rest : List Expr} (h : Et X a ρ k) (h2 : k = true→Ew X (.BoolOp .And (b :: rest) pos) ρ k') : Ew X (.BoolOp .And (a :: b :: rest) pos) ρ (k && k') := by
  cases k with
  | false => exact ew_andF h
  | true => exact ew_andT h (h2 rfl)
theorem ew_orT {rest : List Expr} (h : Et X a ρ true) : Ew X (.BoolOp .Or (a :: b :: rest) pos) ρ true :=
  PW.imp (pw_or (tB' := λ _ _ _ => False) h (λ _ _ _ _ _ _ _ z => z.elim)) λ σ H Q ⟨r,q⟩ => ⟨r,λ H' s => iteT (q H' s)⟩
theorem ew_orF {rest : List Expr} (h : Et X a ρ false) (h2 : Ew X (.BoolOp .Or (b :: rest) pos) ρ k) : Ew X (.BoolOp .Or (a :: b :: rest) pos) ρ k :=
  PW.imp (pw_or h h2) λ σ H Q ⟨r,q⟩ => ⟨r,λ H' s => iteF ⟨r.mono s,λ H'' s' => q H'' (s.trans s')⟩⟩
theorem ew_or {rest : List Expr} (h : Et X a ρ k) (h2 : k = false→Ew X (.BoolOp .Or (b :: rest) pos) ρ k') : Ew X (.BoolOp .Or (a :: b :: rest) pos) ρ (k || k') := by
  cases k with
  | true => exact ew_orT h
  | false => exact ew_orF h (h2 rfl)
theorem Et.to (h : Et X e ρ k) (z : k = k') : Et X e ρ k' := z ▸ h
theorem Ev.to {d' : D} (h : Ev X e ρ d) (z : d = d') : Ev X e ρ d' := z ▸ h
theorem et_w (h : Ew X e ρ k) : Et X e ρ k := PW.pt h
theorem ev_one {op} (h : Ev X a ρ d) : Ev X (.BoolOp op [a] pos) ρ d := pe_one h
theorem ev_andF {rest : List Expr} (h : Ev X a ρ (.bl false)) : Ev X (.BoolOp .And (a :: b :: rest) pos) ρ (.bl false) :=
  PE.imp (pe_and (tb := λ _ _ _ => False) h (λ _ _ _ _ _ _ z => z.elim)) λ σ H Q ⟨r,q⟩ => ⟨r,λ v H' s h => ⟨false,h.bl_inv,iteF (q _ H' s (.bl false))⟩⟩
theorem ev_andT {rest : List Expr} (h : Ev X a ρ (.bl true)) (h2 : Ev X (.BoolOp .And (b :: rest) pos) ρ d) : Ev X (.BoolOp .And (a :: b :: rest) pos) ρ d :=
  PE.imp (pe_and h h2) λ σ H Q ⟨r,q⟩ => ⟨r,λ v H' s h => ⟨true,h.bl_inv,iteT ⟨r.mono s,λ v' H'' s' h' => q v' H'' (s.trans s') h'⟩⟩⟩
theorem ev_and {rest : List Expr} (h : Ev X a ρ (.bl k)) (h2 : k = true→Ev X (.BoolOp .And (b :: rest) pos) ρ (.bl k')) : Ev X (.BoolOp .And (a :: b :: rest) pos) ρ (.bl (k && k')) := by
  cases k with
  | false => exact ev_andF h
  | true => exact ev_andT h (h2 rfl)
theorem ev_orT {rest : List Expr} (h : Ev X a ρ (.bl true)) : Ev X (.BoolOp .Or (a :: b :: rest) pos) ρ (.bl true) :=
  PE.imp (pe_or (tb := λ _ _ _ => False) h (λ _ _ _ _ _ _ z => z.elim)) λ σ H Q ⟨r,q⟩ => ⟨r,λ v H' s h => ⟨true,h.bl_inv,iteT (q _ H' s (.bl true))⟩⟩
theorem ev_orF {rest : List Expr} (h : Ev X a ρ (.bl false)) (h2 : Ev X (.BoolOp .Or (b :: rest) pos) ρ d) : Ev X (.BoolOp .Or (a :: b :: rest) pos) ρ d :=
  PE.imp (pe_or h h2) λ σ H Q ⟨r,q⟩ => ⟨r,λ v H' s h => ⟨false,h.bl_inv,iteF ⟨r.mono s,λ v' H'' s' h' => q v' H'' (s.trans s') h'⟩⟩⟩
theorem ev_or {rest : List Expr} (h : Ev X a ρ (.bl k)) (h2 : k = false→Ev X (.BoolOp .Or (b :: rest) pos) ρ (.bl k')) : Ev X (.BoolOp .Or (a :: b :: rest) pos) ρ (.bl (k || k')) := by
  cases k with
  | true => exact ev_orT h
  | false => exact ev_orF h (h2 rfl)
theorem ev_not (h : Ev X a ρ (.bl k)) : Ev X (.UnaryOp .Not a pos) ρ (.bl (!k)) :=
  PE.imp (pe_not h) λ σ H Q ⟨r,q⟩ => ⟨r,λ v H' s h => ⟨k,h.bl_inv,q _ H' s (.bl _)⟩⟩
theorem ev_notF (h : Ev X a ρ (.bl false)) : Ev X (.UnaryOp .Not a pos) ρ (.bl true) := ev_not h
theorem ev_ifT (hc : Et X c ρ true) (ha : Ev X a ρ d) : Ev X (.IfExp c a b pos) ρ d :=
  PE.imp (pe_ifExp (tb := λ _ _ _ => False) hc ha (λ _ _ _ _ _ _ z => z.elim)) λ σ H Q ⟨r,q⟩ => ⟨r,λ H' s => iteT ⟨r.mono s,λ v H'' s' h => q v H'' (s.trans s') h⟩⟩
theorem ev_ifF (hc : Et X c ρ false) (hb : Ev X b ρ d) : Ev X (.IfExp c a b pos) ρ d :=
  PE.imp (pe_ifExp (ta := λ _ _ _ => False) hc (λ _ _ _ _ _ _ z => z.elim) hb) λ σ H Q ⟨r,q⟩ => ⟨r,λ H' s => iteF ⟨r.mono s,λ v H'' s' h => q v H'' (s.trans s') h⟩⟩
theorem ea_nil : EvA X [] ρ [] := PA.imp pa_nil λ _ H _ ⟨_,q⟩ => q [] H (Same.refl H) .nil
theorem ea_cons (ha : Ev X e ρ d) (hr : EvA X es ρ ds) (hs : starEach (e :: es) X.env = (false,eval e X.env) :: starEach es X.env := by rfl) : EvA X (e :: es) ρ (d :: ds) :=
  PA.imp (pa_cons ha hr hs) λ σ H Q ⟨r,q⟩ => ⟨r,λ v H1 s1 h1 => ⟨r.mono s1,λ vs H2 s2 h2 => q _ H2 (s1.trans s2) (.cons (h1.mono s2) h2)⟩⟩
theorem same_new {H : Hp} {p : Addr} {o : HO} (h : H p = none) : Same H (upd H p o) := λ b u e => by
  rw [upd_ne (ne_of_none e h)]; exact e
theorem ev_tup {m} (h : EvA X es ρ ds) (hl : ds.length≤1000 := by exact Nat.le_of_ble_eq_true rfl) : Ev X (.Tuple es m pos) ρ (.tup ds) :=
  PE.imp (pe_tup h) λ σ H Q ⟨r,q⟩ => ⟨r,λ vs H1 s1 h1 => ⟨by rw [h1.length]; exact Nat.le_of_lt (small1000 hl),λ p hp => q _ _ (s1.trans (same_new hp)) (.tup upd_same (h1.mono (same_new hp)))⟩⟩
theorem atI_map {K : PySem.W.Frag} {H : Hp} {vs : List V} {ds : List D} (h : IsAll K H vs ds) {d : D} (e : atI ds i = some d) : ∃ v,atI vs i = some v∧Is K H v d := by
  unfold atI at e ⊢
  rw [h.length]
  cases q : ixN ds.length i with
  | none => rw [q] at e; cases e
  | some n =>
    rw [q] at e
    exact h.get (i := n) e
theorem ev_ix (ha : Ev X a ρ (.tup ds)) (hb : Ev X b ρ (.int i)) (hi : atI ds i = some d) (hs : PlainIx b := by exact λ _ _ => rfl) : Ev X (.Subscript a b pos) ρ d :=
  PE.imp (pe_ix ix_tup ha hb hs) λ σ H Q ⟨r,q⟩ => ⟨r,λ v1 H1 s1 h1 => ⟨r.mono s1,λ v2 H2 s2 h2 => by
    obtain ⟨p,xs,rfl,h3,h4⟩ := (h1.mono s2).tup_inv
    obtain ⟨v,e,h5⟩ := atI_map h4 hi
    exact ⟨p,xs,i,v,rfl,h2.int_inv,h3,e,q v H2 (s1.trans s2) h5⟩⟩⟩
theorem ev_ixl {d' : D} (ha : Ev X a ρ d') (hl : lsD d' = some ds) (hb : Ev X b ρ (.int i)) (hi : atI ds i = some d) (hs : PlainIx b := by exact λ _ _ => rfl) : Ev X (.Subscript a b pos) ρ d :=
  PE.imp (pe_ix ix_list ha hb hs) λ σ H Q ⟨r,q⟩ => ⟨r,λ v1 H1 s1 h1 => ⟨r.mono s1,λ v2 H2 s2 h2 => by
    obtain ⟨l,xs,rfl,h3,h4⟩ := (h1.mono s2).lsD_inv hl
    obtain ⟨v,e,h5⟩ := atI_map h4 hi
    exact ⟨l,xs,i,v,rfl,h2.int_inv,h3,e,q v H2 (s1.trans s2) h5⟩⟩⟩
theorem ev_callB {x : Str} {id : String} {r : List V→Hp→VK→Prop} (hc : CallR X (.builtin id) r) (hm : X.mg x = none) (hv : bootBuiltins x = some (.builtin id)) (ha : EvA X (e :: es) ρ ds)
    (hr : ∀ vs H Q,IsAll X.K H vs ds → (∀ v H',Same H H' → Is X.K H' v d → Q v H') → r vs H Q)
    (hg : Gl X x := by rfl) (hn : x ≠ "__name__" := by decide) (hdb : (x == ("__debug__" : Str)) = false := by decide)
    (he : starEach (e :: es) X.env = (false,eval e X.env) :: starEach es X.env := by rfl) (hpl : (backTo pos (starEach es X.env)).any (·.1) = false := by rfl) {p : Pos} : Ev X (.Call (.Name x p) (e :: es) [] pos) ρ d :=
  PE.imp (pe_callB hc hg hm hv ha hn hdb he hpl) λ σ H Q ⟨r,q⟩ => ⟨r,λ vs H1 s1 h1 => hr vs H1 Q h1 λ v H' s' h => q v H' (s1.trans s') h⟩
theorem one_inv {K : PySem.W.Frag} {H : Hp} {vs : List V} {d : D} (h : IsAll K H vs [d]) : ∃ v,vs = [v]∧Is K H v d := by
  cases h with
  | cons h r => cases r; exact ⟨_,rfl,h⟩
theorem two_inv {K : PySem.W.Frag} {H : Hp} {vs : List V} {d d' : D} (h : IsAll K H vs [d,d']) : ∃ v v',vs = [v,v']∧Is K H v d∧Is K H v' d' := by
  cases h with
  | cons h r =>
    obtain ⟨v',rfl,h'⟩ := one_inv r
    exact ⟨_,_,rfl,h,h'⟩
theorem ev_abs {p : Pos} (hm : X.mg "abs" = none) (ha : Ev X a ρ (.int i)) (hg : Gl X "abs" := by rfl) (he : starEach [a] X.env = [(false,eval a X.env)] := by rfl) : Ev X (.Call (.Name "abs" p) [a] [] pos) ρ (.int (i.natAbs : Int)) :=
  ev_callB call_abs hm (by decide +kernel) (ea_cons ha ea_nil he) (λ vs H Q h0 q => by
    obtain ⟨v,rfl,h⟩ := one_inv h0
    cases h.int_inv
    refine ⟨i,rfl,?_⟩
    have e : (if i < 0 then -i else i) = (i.natAbs : Int) := by split <;> omega
    rw [e]
    exact q _ H (Same.refl H) (.int _)) hg (by decide) (by decide) he rfl
def lenD : D→Option Nat
  | .tup ds => some ds.length
  | .ls ds => some ds.length
  | .lst _ ds => some ds.length
  | .kt ds => some ds.length
  | .fl ds => some ds.length
  | .str x => if x.length ≤ 16777216 then some x.length else none
  | _ => none
theorem ev_len {p : Pos} {n : Nat} (hm : X.mg "len" = none) (ha : Ev X a ρ d) (hl : lenD d = some n) (hg : Gl X "len" := by rfl) (he : starEach [a] X.env = [(false,eval a X.env)] := by rfl) : Ev X (.Call (.Name "len" p) [a] [] pos) ρ (.int (n : Int)) :=
  ev_callB call_len hm (by decide +kernel) (ea_cons ha ea_nil he) (λ vs H Q h0 q => by
    obtain ⟨v,rfl,h⟩ := one_inv h0
    refine ⟨v,n,rfl,?_,q _ H (Same.refl H) (.int _)⟩
    cases d with
    | tup ds =>
      obtain ⟨a,xs,rfl,h1,h2⟩ := h.tup_inv
      cases hl
      exact .inr ⟨xs,h1,h2.length.symm⟩
    | ls ds =>
      obtain ⟨a,xs,rfl,h1,h2⟩ := h.ls_inv
      cases hl
      exact .inl ⟨xs,h1,h2.length.symm⟩
    | lst a ds =>
      obtain ⟨rfl,xs,h1,h2⟩ := h.lst_inv
      cases hl
      exact .inl ⟨xs,.of h1,h2.length.symm⟩
    | kt ds =>
      obtain ⟨a,xs,rfl,h1,h2⟩ := h.kt_inv
      cases hl
      exact .inr ⟨xs,h1,h2.length.symm⟩
    | fl ds =>
      obtain ⟨a,o,xs,rfl,h1,h2⟩ := h.fl_inv
      cases hl
      exact .inl ⟨xs,.inl (.inr ⟨o,h1⟩),h2.length.symm⟩
    | str x =>
      cases h.str_inv
      have hl' : (if x.length ≤ 16777216 then some x.length else none) = some n := hl
      by_cases hx : x.length ≤ 16777216
      · rw [if_pos hx] at hl'
        cases hl'
        exact ⟨by rw [sizeLine_eq]; exact hx,rfl⟩
      · rw [if_neg hx] at hl'
        cases hl'
    | _ => cases hl) hg (by decide) (by decide) he rfl
end
def tyD : D→Option String
  | .non => some "NoneType"
  | .bl _ => some "bool"
  | .int _ => some "int"
  | .str _ => some "str"
  | .tup _ => some "tuple"
  | .ls _ => some "list"
  | .lst _ _ => some "list"
  | .ty _ => none
  | .ob _ => none
  | .kt _ => some "tuple"
  | .fl _ => some "list"
  | .fd _ _ _ => none
  | .dc _ _ _ _ => none
theorem call_isi {X : Cx} {d : D} {T U : String} {k : Bool} (ht : tyD d = some T) (hk : PySem.W.kitOne X.K (.type T) (.type U) = some k) :
    CallR X (.builtin "isinstance") (λ vs H Q => ∃ v,vs = [v,.ty U] ∧ Is X.K H v d ∧ Q (.bl k) H) := by
  intro pins s σ H xs us Q I r h
  obtain ⟨v,rfl,h,q⟩ := h
  obtain ⟨u,w',rfl,rx,ry⟩ := vals2 r
  cases ry
  have fin : ∀ tk,EP X pins σ Q (.bool k) { s with toks := tk } := λ tk => ⟨.bl k,H,I.tok tk,rfl,q⟩
  cases d with
  | non => cases h.non_inv; cases ht; exact isinst_ok I rx .non hk fin
  | bl b => cases h.bl_inv; cases ht; exact isinst_ok I rx (.bl b) hk fin
  | int i => cases h.int_inv; cases ht; exact isinst_ok I rx (.int i) hk fin
  | str x => cases h.str_inv; cases ht; exact isinst_ok I rx (.str x) hk fin
  | tup ds =>
    obtain ⟨a,xs,rfl,h1,_⟩ := h.tup_inv
    cases ht
    cases rx
    obtain ⟨its,_,⟨o,e1,e2,_⟩,_⟩ := I.tuple h1
    exact PySem.W.kia_one PySem.W.kitx_tuple I.kIn ⟨o,e1,e2⟩ hk (λ z => nomatch z) fin
  | ls ds =>
    obtain ⟨a,xs,rfl,h1,_⟩ := h.ls_inv
    cases ht
    cases rx
    obtain ⟨its,_,p,_⟩ := I.list h1
    obtain ⟨o,e1,e2,_⟩ := p.isList
    exact PySem.W.kia_one PySem.W.kitx_list I.kIn ⟨o,e1,e2⟩ hk (λ z => nomatch z) fin
  | lst a ds =>
    obtain ⟨rfl,xs,h1,_⟩ := h.lst_inv
    cases ht
    cases rx
    obtain ⟨its,_,p,_⟩ := I.list (.of h1)
    obtain ⟨o,e1,e2,_⟩ := p.isList
    exact PySem.W.kia_one PySem.W.kitx_list I.kIn ⟨o,e1,e2⟩ hk (λ z => nomatch z) fin
  | kt ds =>
    obtain ⟨a,xs,rfl,h1,_⟩ := h.kt_inv
    cases ht
    cases rx
    obtain ⟨its,_,⟨o,e1,e2,_⟩,_⟩ := I.tuple h1
    exact PySem.W.kia_one PySem.W.kitx_tuple I.kIn ⟨o,e1,e2⟩ hk (λ z => nomatch z) fin
  | fl ds =>
    obtain ⟨a,ob,xs,rfl,h1,_⟩ := h.fl_inv
    cases ht
    cases rx
    obtain ⟨its,_,p,_⟩ := I.list (.inl (.inr ⟨ob,h1⟩))
    obtain ⟨o,e1,e2,_⟩ := p.isList
    exact PySem.W.kia_one PySem.W.kitx_list I.kIn ⟨o,e1,e2⟩ hk (λ z => nomatch z) fin
  | ty n => cases ht
  | ob a => cases ht
  | fd t ks vs => cases ht
  | dc a t ks vs => cases ht
section
variable {X : Cx} {e a b c : Expr} {es : List Expr} {ρ : Ro} {d : D} {ds : List D} {pos : Pos} {i j : Int} {k k' : Bool}
theorem ev_isi {x : Str} {U T : String} {p p2 : Pos} (hm : X.mg "isinstance" = none) (ha : Ev X a ρ d) (hmT : X.mg x = none) (hv : bootBuiltins x = some (.type U)) (ht : tyD d = some T) (hk : PySem.W.kitOne X.K (.type T) (.type U) = some k)
    (hg : Gl X "isinstance" := by rfl) (hgT : Gl X x := by rfl) (hn : x ≠ "__name__" := by decide) (hd : (x == ("__debug__" : Str)) = false := by decide)
    (he : starEach [a,.Name x p2] X.env = [(false,eval a X.env),(false,eval (.Name x p2) X.env)] := by rfl) (hb : (backTo pos (starEach [.Name x p2] X.env)).any (·.1) = false := by rfl) :
    Ev X (.Call (.Name "isinstance" p) [a,.Name x p2] [] pos) ρ (.bl k) :=
  ev_callB (call_isi ht hk) hm (by decide +kernel) (ea_cons ha (ea_cons (ev_ty hmT hv hgT hn hd) ea_nil) he) (λ vs H Q h q => by
    obtain ⟨v,v',rfl,h1,h2⟩ := two_inv h
    cases h2.ty_inv
    exact ⟨v,rfl,h1,q _ H (Same.refl H) (.bl k)⟩) hg (by decide) (by decide) he hb
end
end FL
namespace FL
open PySem PySem.Spec PyProof.Rows L2
structure Po where
  nx : Ro → Prop
  rt : D → Prop
  bk : Ro → Prop := λ _ => False
  ct : Ro → Prop := λ _ => False
def tPo (X : Cx) (ρ : Ro) (P : Po) : TS := λ D σ H => RelS X X.H₀ H σ ρ∧(∀ σ' H' ρ',Go ρ H ρ' H'→RelS X X.H₀ H' σ' ρ'→P.nx ρ'→D.nx σ' H')∧(∀ v H' d,Same X.H₀ H'→Is X.K H' v d→(∀ a,ownA d = some a→X.H₀ a = none)→P.rt d→D.rt v H') ∧
  (∀ σ' H' ρ',Go ρ H ρ' H' → RelS X X.H₀ H' σ' ρ' → P.bk ρ' → D.bk σ' H') ∧ (∀ σ' H' ρ',Go ρ H ρ' H' → RelS X X.H₀ H' σ' ρ' → P.ct ρ' → D.ct σ' H')
def Do (X : Cx) (sts : List Stmt) (ρ : Ro) (P : Po) : Prop := PSs X sts (tPo X ρ P)
section
variable {X : Cx} {e a b c : Expr} {es : List Expr} {ρ : Ro} {d : D} {ds : List D} {pos : Pos} {i j : Int} {k k' : Bool} {rest A B : List Stmt} {P : Po} {st : Stmt}
theorem do_nil (h : P.nx ρ) : Do X [] ρ P := PSs.imp pss_nil λ D σ H ⟨r,q,_⟩ => q σ H ρ (Go.refl ρ H) r h
theorem Do.mono {Q : Po} (h : Do X A ρ P) (h1 : ∀ ρ,P.nx ρ→Q.nx ρ) (h2 : ∀ d,P.rt d→Q.rt d) (h3 : ∀ ρ,P.bk ρ→Q.bk ρ) (h4 : ∀ ρ,P.ct ρ→Q.ct ρ) : Do X A ρ Q :=
  PSs.imp h λ D σ H ⟨r,q1,q2,q3,q4⟩ => ⟨r,λ σ' H' ρ' g r' p => q1 σ' H' ρ' g r' (h1 _ p),λ v H' d s i o p => q2 v H' d s i o (h2 _ p),λ σ' H' ρ' g r' p => q3 σ' H' ρ' g r' (h3 _ p),λ σ' H' ρ' g r' p => q4 σ' H' ρ' g r' (h4 _ p)⟩
theorem do_seq {M : Ro→Prop} (h1 : PS X st (tPo X ρ { P with nx := M })) (h2 : ∀ ρ',M ρ'→Do X rest ρ' P) : Do X (st :: rest) ρ P := by
  refine PSs.imp (pss_cons (u := λ D σ H => ∃ ρ',M ρ' ∧ tPo X ρ' P D σ H) h1 (λ pins s σ H D I ⟨ρ',m,q⟩ => h2 ρ' m pins s σ H D I q)) ?_
  rintro D σ H ⟨r,q1,q2,q3,q4⟩
  exact ⟨r,λ σ' H' ρ' g r' m => ⟨ρ',m,r',λ σ2 H2 ρ2 g2 => q1 σ2 H2 ρ2 (g.trans g2),q2,λ σ2 H2 ρ2 g2 => q3 σ2 H2 ρ2 (g.trans g2),λ σ2 H2 ρ2 g2 => q4 σ2 H2 ρ2 (g.trans g2)⟩,q2,q3,q4⟩
theorem do_ret (he : Ev X e ρ d) (h : P.rt d) (hn : ∀ a,ownA d = some a→Mu ρ a := by intro _ z; cases z) : Do X (.Return (some e) pos :: rest) ρ P := by
  refine PSs.imp (pss_cons (u := tNever) (ps_ret he) pss_never) ?_
  rintro D σ H ⟨r,q1,q2,q3,q4⟩
  exact ⟨r.e,λ v H' s h' => q2 v H' d (r.same.trans s) h' (λ a z => r.own a (hn a z)) h⟩
theorem do_set (n : Nat) {x : Str} {pos' : Pos} (he : Ev X e ρ d) (hz : Fz d) (h : Do X rest (ρ.set n (some d)) P) (hN : X.N.Nodup) (hi : X.N[n]? = some x := by rfl) (hx : Loc X.env.scope x := by first | exact Or.inl rfl | exact Or.inr rfl)
    (hs : swapsWith e (some (.Name x pos')) pos.line X.env = pure false := by rfl) (hf : X.fn x = true ∨ X.env.scope.names.lookup x = some .local := by first | exact .inl rfl | exact .inr rfl) : Do X (.Assign [.Name x pos'] e pos :: rest) ρ P := by
  refine do_seq (M := λ ρ' => ρ' = ρ.set n (some d)) (PS.imp (ps_set hN hi hx he hs hf) ?_) (λ _ z => z ▸ h)
  rintro D σ H ⟨r,q1,q2,q3,q4⟩
  exact ⟨r.e,λ v H' s h' => q1 _ H' _ (Go.set s λ a z => (hz.no_own z).elim) ((r.mono s).set h' n (.inl hz) λ a z => (hz.no_own z).elim) rfl⟩
theorem do_expr (he : Ev X e ρ d) (h : Do X rest ρ P) (hs : swapsWith e none pos.line X.env = pure false := by rfl) : Do X (.Expr e pos :: rest) ρ P := by
  refine do_seq (M := λ ρ' => ρ' = ρ) (PS.imp (ps_expr he hs) ?_) (λ _ z => z ▸ h)
  rintro D σ H ⟨r,q1,q2,q3,q4⟩
  exact ⟨r.e,λ v H' s h' => q1 _ H' _ (Go.same s) (r.mono s) rfl⟩
theorem do_if (M : Ro→Prop) (hc : Et X c ρ k) (hA : k = true→Do X A ρ { P with nx := M }) (hB : k = false→Do X B ρ { P with nx := M }) (h : ∀ ρ',M ρ'→Do X rest ρ' P) : Do X (.If c A B pos :: rest) ρ P := by
  refine do_seq (M := M) (PS.imp (ps_if hc (t := λ D σ H => k = true ∧ tPo X ρ { P with nx := M } D σ H) (u := λ D σ H => k = false ∧ tPo X ρ { P with nx := M } D σ H)
    (λ pins s σ H D I ⟨z,q⟩ => hA z pins s σ H D I q) (λ pins s σ H D I ⟨z,q⟩ => hB z pins s σ H D I q)) ?_) h
  rintro D σ H ⟨r,q1,q2,q3,q4⟩
  refine ⟨r.e,λ H' s => ?_⟩
  have q : tPo X ρ { P with nx := M } D σ H' := ⟨r.mono s,λ σ2 H2 ρ2 g2 => q1 σ2 H2 ρ2 ((Go.same s).trans g2),q2,λ σ2 H2 ρ2 g2 => q3 σ2 H2 ρ2 ((Go.same s).trans g2),λ σ2 H2 ρ2 g2 => q4 σ2 H2 ρ2 ((Go.same s).trans g2)⟩
  cases k with
  | true => exact iteT ⟨rfl,q⟩
  | false => exact iteF ⟨rfl,q⟩
theorem do_ifF (hc : Et X c ρ false) (h : Do X rest ρ P) : Do X (.If c A [] pos :: rest) ρ P :=
  do_if (λ ρ' => ρ' = ρ) hc (λ z => by cases z) (λ _ => do_nil rfl) (λ _ z => z ▸ h)
theorem do_ifR (hc : Et X c ρ k) (hA : k = true→Do X A ρ { P with nx := λ _ => False }) (h : k = false→Do X rest ρ P) : Do X (.If c A [] pos :: rest) ρ P :=
  do_if (λ ρ' => ρ' = ρ ∧ k = false) hc (λ z => (hA z).mono (λ _ f => f.elim) (λ _ p => p) (λ _ p => p) (λ _ p => p)) (λ z => do_nil ⟨rfl,z⟩) (λ _ z => z.1 ▸ h z.2)
theorem do_while (Iv M : Ro→Prop) (μ : Ro→Nat) (hp : PassesOwn (model X.prog X.w) X.A X.env X.xe) (h0 : Iv ρ)
    (hs : ∀ ρ,Iv ρ → ∃ k,Et X c ρ k ∧ (k = true → Do X A ρ { nx := λ ρ' => Iv ρ' ∧ μ ρ' < μ ρ,rt := P.rt,bk := M,ct := λ ρ' => Iv ρ' ∧ μ ρ' < μ ρ }) ∧ (k = false → M ρ))
    (h : ∀ ρ',M ρ' → Do X rest ρ' P) : Do X (.While c A [] pos :: rest) ρ P := by
  refine do_seq (M := M) ?_ h
  have hc : PT X c (λ σ H Q => ∃ ρ k,Et X c ρ k ∧ tB X ρ k σ H Q) := λ pins s σ H Q I ⟨ρ,k,e,q⟩ => e pins s σ H Q I q
  have hb : PSs X A (λ D σ H => ∃ ρ,Do X A ρ { nx := λ ρ' => Iv ρ' ∧ μ ρ' < μ ρ,rt := P.rt,bk := M,ct := λ ρ' => Iv ρ' ∧ μ ρ' < μ ρ } ∧ tPo X ρ { nx := λ ρ' => Iv ρ' ∧ μ ρ' < μ ρ,rt := P.rt,bk := M,ct := λ ρ' => Iv ρ' ∧ μ ρ' < μ ρ } D σ H) :=
    λ pins s σ H D I ⟨ρ,e,q⟩ => e pins s σ H D I q
  refine PS.imp (ps_while hp hc hb) ?_
  rintro D σ H ⟨r,q1,q2,q3,q4⟩
  refine ⟨λ m σ' H' => ∃ ρ',m = μ ρ' ∧ Iv ρ' ∧ RelS X X.H₀ H' σ' ρ' ∧ Go ρ H ρ' H',⟨_,ρ,rfl,h0,r,Go.refl ρ H⟩,?_⟩
  rintro m σ1 H1 ⟨ρ1,rfl,iv,r1,g1⟩
  obtain ⟨k,et,ht,hf⟩ := hs ρ1 iv
  refine ⟨ρ1,k,et,r1.e,λ H2 s => ?_⟩
  have g2 : Go ρ H ρ1 H2 := g1.trans (Go.same s)
  cases k with
  | true =>
    refine iteT ⟨λ σ' H' => ∃ ρ',Iv ρ' ∧ μ ρ' < μ ρ1 ∧ RelS X X.H₀ H' σ' ρ' ∧ Go ρ H ρ' H',λ σ' H' ⟨ρ',a,b,c,g⟩ => ⟨_,b,ρ',rfl,a,c,g⟩,ρ1,ht rfl,r1.mono s,?_,q2,?_,?_⟩
    · exact λ σ' H' ρ' g r' ⟨a,b⟩ => ⟨ρ',a,b,r',g2.trans g⟩
    · exact λ σ' H' ρ' g r' m => q1 σ' H' ρ' (g2.trans g) r' m
    · exact λ σ' H' ρ' g r' ⟨a,b⟩ => ⟨ρ',a,b,r',g2.trans g⟩
  | false => exact iteF (q1 σ1 H2 ρ1 g2 (r1.mono s) (hf rfl))
end
def SpD (K : PySem.W.Frag) (Pf : List D→D→Prop) : Sp := λ vs H Q _ => ∃ ds d,IsAll K H vs ds∧Pf ds d∧∀ v H',Same H H'→Is K H' v d→Q v H'
def Fn (P : Program) (w : World) (K : PySem.W.Frag) (mg : Str→Option Value) (base : Heap) (k : Nat) (x : Str) (Pf : List D→D→Prop) : Prop :=
  ∃ f fd ps,FnOk P w K mg base CX0 k f fd ps (SpD K Pf) ∧ mg x = some (.ref f) ∧ PySem.W.keepIn K (.ref f) = true ∧ Binds K fd ps []
section
variable {X : Cx} {e a b c : Expr} {es : List Expr} {ρ : Ro} {d : D} {ds : List D} {pos : Pos}
theorem ev_call {k : Nat} {x : Str} {Pf : List D→D→Prop} {p : Pos} (C : Fn X.prog X.w X.K X.mg X.base k x Pf) (hr : Room k X.A) (ha : EvA X (e :: es) ρ ds) (hp : Pf ds d) (hg : Gl X x := by rfl) (hdb : (x == ("__debug__" : Str)) = false := by decide)
    (he : starEach (e :: es) X.env = (false,eval e X.env) :: starEach es X.env := by rfl) (hpl : (backTo pos (starEach es X.env)).any (·.1) = false := by rfl) : Ev X (.Call (.Name x p) (e :: es) [] pos) ρ d := by
  obtain ⟨f,fd,ps,F,hm,hk,hb⟩ := C
  refine PE.imp (pe_call F hr hg hm hk hb .nil pass0 ha hdb he hpl) ?_
  rintro σ H Q ⟨r,q⟩
  refine ⟨r,λ vs H1 s1 h1 => ⟨ds,d,?_,hp,λ v H' s' h' => q v H' (s1.trans s') h'⟩⟩
  rw [List.append_nil]
  exact h1
end
section
variable {P : Program} {w : World} {K : PySem.W.Frag} {mg : Str→Option Value} {base : Heap}
theorem relS_start {X : Cx} {N : List Str} {vs : List V} {ds : List D} (h : IsAll X.K X.H₀ vs ds) (nl : ∀ d∈ds,ownA d = none) : RelS X X.H₀ X.H₀ (L2.start N vs) (ds.map some ++ List.replicate (N.length - ds.length) none) := by
  refine ⟨Same.refl _,?_,λ i d e => ?_,λ a ⟨i,es,e,hz⟩ => ?_⟩
  · unfold L2.start
    simp [h.length]
  · have hi : ds[i]? = some d := by
      by_cases hl : i < ds.length
      · rw [List.getElem?_append_left (by simpa using hl),List.getElem?_map] at e
        cases q : ds[i]? with
        | none => rw [q] at e; cases e
        | some z => rw [q] at e; cases e; rfl
      · rw [List.getElem?_append_right (by simpa using hl),List.getElem?_replicate] at e
        split at e <;> cases e
    obtain ⟨v,e1,h1⟩ := h.get hi
    refine ⟨v,?_,h1,.inr (.inl h1)⟩
    unfold L2.start
    have hl : i < vs.length := (List.getElem?_eq_some_iff.mp e1).1
    rw [List.getElem?_append_left (by simpa using hl),List.getElem?_map,e1]
    rfl
  · exfalso
    by_cases hl : i < ds.length
    · rw [List.getElem?_append_left (by simpa using hl),List.getElem?_map] at e
      cases q : ds[i]? with
      | none => rw [q] at e; cases e
      | some z => rw [q] at e; cases e; rw [nl _ (List.mem_of_getElem? q)] at hz; cases hz
    · rw [List.getElem?_append_right (by simpa using hl),List.getElem?_replicate] at e
      split at e <;> cases e
abbrev cxD (P : Program) (w : World) (K : PySem.W.Frag) (mg : Str → Option Value) (base : Heap) (N : List Str) (qual : Str) (st : Stmt) (f : Addr) (cdv : Value) (A : Around) (outer : List Env) (s : Shared) (H : Hp) (E : XK) : Cx :=
  (cxOf CX0 P w K mg base N qual (defScope st) f cdv A outer s H E).nox
abbrev ini (N : List Str) (ds : List D) : Ro := ds.map some ++ List.replicate (N.length - ds.length) none
theorem fn_ok {x qual : Str} {st : Stmt} {f : Addr} {fd : FuncData} {N ps : List Str} {k : Nat} {Pf : List D→D→Prop} (F : Fun K x qual st f fd) (S : FnScope N ps (defScope st))
    (hl : ∀ ds d,Pf ds d → ds.length = ps.length ∧ ∀ d ∈ ds,ownA d = none)
    (hbody : ∀ (cdv : Value) (A : Around) (outer : List Env) (s : Shared) (H : Hp) (E : XK),Room k (A.deeper (envOfC qual (defScope st) s.heap.objs.size f cdv)) → ∀ ds d,Pf ds d →
      Do (cxD P w K mg base N qual st f cdv A outer s H E) (defBody st) (ini N ds) { nx := λ _ => d = .non,rt := λ d' => d' = d }) : FnOk P w K mg base CX0 (k + 1) f fd ps (SpD K Pf) := by
  refine F.ok S (λ vs H Q E h => ?_) (λ cdv A outer s H vs Q E hr h => ?_)
  · obtain ⟨ds,d,h1,h2,_⟩ := h
    rw [h1.length]
    exact (hl ds d h2).1
  · obtain ⟨ds,d,h1,h2,q⟩ := h
    refine ⟨_,hbody cdv A outer s H E hr ds d h2,?_⟩
    refine ⟨relS_start (X := cxD P w K mg base N qual st f cdv A outer s H E) h1 (hl ds d h2).2,λ σ' H' ρ' _ r' z => ?_,λ v H' d' sm hv _ z => ?_,λ _ _ _ _ _ z => z.elim,λ _ _ _ _ _ z => z.elim⟩
    · have z' : d = .non := z
      subst z'
      exact q _ H' r'.same .non
    · have z' : d' = d := z
      subst z'
      exact q v H' sm hv
theorem fn_mk {x qual : Str} {st : Stmt} {f : Addr} {fd : FuncData} {N ps : List Str} {k : Nat} {Pf : List D→D→Prop} (F : Fun K x qual st f fd) (S : FnScope N ps (defScope st)) (hm : mg x = some (.ref f)) (hb : Binds K fd ps [])
    (hl : ∀ ds d,Pf ds d → ds.length = ps.length ∧ ∀ d ∈ ds,ownA d = none)
    (hbody : ∀ (cdv : Value) (A : Around) (outer : List Env) (s : Shared) (H : Hp) (E : XK),Room k (A.deeper (envOfC qual (defScope st) s.heap.objs.size f cdv)) → ∀ ds d,Pf ds d →
      Do (cxD P w K mg base N qual st f cdv A outer s H E) (defBody st) (ini N ds) { nx := λ _ => d = .non,rt := λ d' => d' = d }) : Fn P w K mg base (k + 1) x Pf :=
  ⟨f,fd,ps,fn_ok F S hl hbody,hm,F.kp,hb⟩
end
end FL
namespace FL
open PySem PySem.Spec PyProof.Rows L2
def blk (X : Cx) (scope : Scope) (cl : List (Str × Addr)) (N : List Str) (C : Addr) (s₀ : Shared) (H₀ : Hp) (fp : List Addr) : Cx :=
  { X with N := N,s₀ := s₀,H₀ := H₀,env := compEnvC scope cl C X.env,outer := X.stack,ex := fp,fn := λ _ => false,pn := [],xe := λ _ _ => False }
section
variable {prog : Program} {w : World} {A : Around} {R : Result→Shared→Prop} {s : Shared}
theorem compLoop_any {elt target iter : Expr} {ifs : List Expr} {scope : Scope} {pos : Pos} {it acc : Value} {env : Env} (I : Nat→Shared→Prop)
    (turn : ∀ n s,I n s → wpAny (model prog w) A (pyNext it) (λ r s₁ => match r with
      | none => R (.ok .next) s₁
      | some v => wpAny (model prog w) A (letOwnedTupleGo target it v) (λ _ s₁' => wpAny (model prog w) A (assign target env v) (λ _ s₂ =>
          wpAny (model prog w) A (forIn ifs true λ c r => if r = true then do let ok ← isTrue c env (eval c env); pure (ForInStep.yield ok) else pure (ForInStep.yield r)) (λ ok s₃ =>
            if ok = true then wpAny (model prog w) A (eval elt env) (λ x s₄ =>
              wpAny (model prog w) A (call (.builtin "list.append") [acc,x]) (λ _ s₅ => ∃ m,m < n ∧ I m s₅) (λ _ _ => False) s₄) (λ _ _ => False) s₃
            else ∃ m,m < n ∧ I m s₃) (λ _ _ => False) s₂) (λ _ _ => False) s₁') (λ _ _ => False) s₁) (λ _ _ => False) s)
    (n : Nat) (h : I n s) : codeAny (model prog w) A (.compLoop (.ListComp elt [⟨target,iter,ifs,0⟩] scope pos) 0 it acc env) R s := by
  refine codeAny_loop rfl I (λ n s hI => ?_) n h
  show wpAny _ A ((compTurn (.ListComp elt [⟨target,iter,ifs,0⟩] scope pos) 0 it acc env).onRaise (λ x => do noteFrame x env; theTreesLotGoes x)) _ _ s
  refine wpAny_noted ?_
  rw [compTurn_list]
  refine wpAny_bind (wpAny_standAt (wpAny_bind (wpAny_mono (turn n s hI) (λ r s₁ h₁ => ?_) λ _ _ h' => h'.elim)))
  cases r with
  | none => exact wpAny_pure h₁
  | some v =>
    refine wpAny_bind (wpAny_mono h₁ (λ _ s₁' h₁' => ?_) λ _ _ h' => h'.elim)
    refine wpAny_bind (wpAny_mono h₁' (λ _ s₂ h₂ => wpAny_bind (wpAny_mono h₂ (λ ok s₃ h₃ => ?_) λ _ _ h' => h'.elim)) λ _ _ h' => h'.elim)
    cases ok with
    | false => exact wpAny_pure ⟨rfl,h₃⟩
    | true =>
      exact wpAny_bind (wpAny_bind (wpAny_mono h₃ (λ x s₄ h₄ => wpAny_bind (wpAny_mono h₄ (λ _ s₅ h₅ => wpAny_pure (wpAny_pure ⟨rfl,h₅⟩)) λ _ _ h' => h'.elim)) λ _ _ h' => h'.elim))
end
def PTs (X : Cx) (ifs : List Expr) (t : TT) : Prop :=
  ∀ (pins : List (Addr × Obj)) (s : Shared) (σ : L2.St) (H : Hp) (Q : Bool → Hp → Prop),Inv X pins σ H s → t σ H Q →
    wpAny (model X.prog X.w) X.A (forIn ifs true λ c r => if r = true then do let ok ← isTrue c X.env (eval c X.env); pure (ForInStep.yield ok) else pure (ForInStep.yield r)) (TP X pins σ Q) X.xe s
theorem pts_nil {X : Cx} : PTs X [] (λ _ H Q => Q true H) := λ _ _ _ H _ I h => wpAny_tests_nil ⟨H,I,h⟩
theorem pts_one {X : Cx} {c : Expr} {t : TT} (h : PT X c t) : PTs X [c] t := λ pins s σ H Q I q => wpAny_tests_one (h pins s σ H Q I q)
def frees (js : List Nat) (σ : L2.St) : L2.St := js.map λ j => (σ[j]?).join
def tComp (X : Cx) (js : List Nat) (wi : TI) (tt : Cx→TT) (te : Cx→TE) : TE := λ σ H Q => wi σ H λ J H2 => ∀ D,H2 D = none→∀ Y : Cx,Y.H₀ = upd H2 D (.lst [])→Y.K = X.K →
  ∃ W : Nat → Nat → List V → Hp → Prop,(∃ m,W 0 m [] (upd H2 D (.lst []))) ∧ ∀ i m ys H3,H3 D = some (.lst ys) → W i m ys H3 →
    (J.stop i H3 ∧ Q (.ref D) H3) ∨ (J.go i H3 ∧ ∀ x H4,J.yld i H3 x H4 → tt Y (some x :: frees js σ) H4 λ ok H5 =>
      if ok = true then te Y (some x :: frees js σ) H5 λ y H6 => ∃ zs,H6 D = some (.lst zs) ∧ zs.length < sizeLine ∧ ∃ m',m' < m ∧ W (i + 1) m' (zs ++ [y]) (upd H6 D (.lst (zs ++ [y])))
      else ∃ zs m',H5 D = some (.lst zs) ∧ m' < m ∧ W (i + 1) m' zs H5)
theorem pe_comp {X : Cx} {elt iter : Expr} {x : Str} {px : Pos} {ifs : List Expr} {scope : Scope} {cl : List (Str × Addr)} {pos : Pos} {ys : List Str} {js : List Nat} {wi : TI} {tt : Cx→TT} {te : Cx→TE}
    (hc : X.calm = true) (hi : PI X (.Name x px) iter wi)
    (ht : ∀ C s₀ H₀ fp,PTs (blk X scope cl (x :: ys) C s₀ H₀ fp) ifs (tt (blk X scope cl (x :: ys) C s₀ H₀ fp)))
    (he : ∀ C s₀ H₀ fp,PE (blk X scope cl (x :: ys) C s₀ H₀ fp) elt (te (blk X scope cl (x :: ys) C s₀ H₀ fp)))
    (hclos : closureFor scope X.env = pure cl) (hcell : ∀ y ∈ scope.names,y.2 ≠ .cell) (hkind : scope.kind = .function)
    (hnames : ∀ y ∈ scope.names,y.2 = .local → scope.names.lookup y.1 = some .local) (hx : scope.names.lookup x = some .local) (hnd : (x :: ys).Nodup)
    (hcl : ∀ y c,cl.lookup y = some c → X.env.cells.lookup y = some c)
    (hhas : ∀ y,(relabel scope X.env).names.lookup y = some .cell ∨ (relabel scope X.env).names.lookup y = some .free → ∃ c,cl.lookup y = some c)
    (hjs : js.length = ys.length) (hjy : ∀ (i j : Nat) (y : Str),js[i]? = some j → ys[i]? = some y → X.N[j]? = some y ∧ Vis X.env.scope y ∧ (X.env.kindOf y = some .cell ∨ X.env.kindOf y = some .free) ∧ ((relabel scope X.env).names.lookup y = some .cell ∨ (relabel scope X.env).names.lookup y = some .free))
    (hs : ∀ x,foldedSetIterable iter X.env x = pure x := by intro _; rfl) :
    PE X (.ListComp elt [⟨.Name x px,iter,ifs,0⟩] scope pos) (tComp X js wi tt te) := by
  intro pins s σ H Q I h
  rw [eval_ListComp]
  refine wpAny_comprehension_free (use := none) rfl hs hclos hkind hnames (thn (hi pins s σ H _ I h) λ v s1 h1 => thn h1 λ itv s2 h2 => ?_)
  obtain ⟨it,fp,tn,J,H2,e,I2,T,st2,f2,h2⟩ := h2
  subst e
  refine wpAny_newObj_type (wpAny_newFunctionEnv hcell (by intro y hy; simp at hy) (λ h₁ hns₁ hsb₁ => ?_) hkind)
  dsimp only at hns₁ hsb₁ ⊢
  -- the list
  have hD : H2 s2.heap.objs.size = none := I2.hok.fresh (Nat.le_refl _)
  generalize eD : s2.heap.objs.size = D at hD hns₁ hsb₁ ⊢
  generalize eH : s2.heap.push { cls := .type "list",dict := none,data := .seq ([] : List Value).toArray } = P3 at hns₁ hsb₁ ⊢
  have k23 : ∀ b o,s2.heap.get? b = some o → P3.get? b = some o := λ b o q => by rw [← eH]; exact Heap.get?_push_of_some _ q
  have hDo : P3.get? D = some { cls := .type "list",dict := none,data := .seq ([] : List Value).toArray } := by rw [← eH,← eD]; exact Heap.get?_push_size _ rfl
  have I3 : Inv X pins σ (upd H2 D (.lst [])) { s2 with heap := P3,toks := s2.toks } := I2.laid (t' := s2.toks) k23 (Nat.le_of_eq eD) ⟨Nat.zero_le _,[],0,.nil,hDo⟩
  have hCs : P3.objs.size = D + 1 := by rw [← eH,Heap.size_push,eD]
  generalize eC : P3.objs.size = C at hns₁ hsb₁ hCs ⊢
  have k34 : ∀ b o,P3.get? b = some o → h₁.get? b = some o := λ b o q => hsb₁.extBut b o (by rw [← eC]; exact Nat.ne_of_lt (Heap.lt_size q)) (Heap.get?_push_of_some _ q)
  have fpD : ∀ b ∈ fp,b < D := λ b hb => by
    obtain ⟨o,q,_⟩ := T.obj 0 _ st2 b hb
    rw [← eD]
    exact Heap.lt_size q
  have hC0 : upd H2 D (.lst []) C = none := I3.hok.fresh (by show P3.objs.size ≤ C; rw [eC]; exact Nat.le_refl _)
  -- the block's context
  have okY : (blk X scope cl (x :: ys) C { s2 with heap := P3,toks := s2.toks } (upd H2 D (.lst [])) fp).Ok := by
    refine ⟨I3.ok.mod,hkind,I3.ok.glob,I3.ok.blt,by show P3.objs.size ≤ C; rw [eC]; exact Nat.le_refl _,λ y z c h1 h2 => I3.ok.inj y z c (hcl y c h1) (hcl z c h2),λ y hy => hhas y hy,λ y c hf _ => (by cases hf),
      I3.ok.hd,I3.ok.frames,.inl rfl,λ b hb => ⟨(by show b ≠ C; rw [hCs]; exact Nat.ne_of_lt (Nat.lt_succ_of_lt (fpD b hb))),λ y c hy => (f2 b hb).2.2.2.2.1 y c (hcl y c hy)⟩,λ b o q => ?_,?_,λ b o q hb => ?_,λ b hb z => ?_,I3.stack,I3.stkFree⟩
    · exact I3.bs b o q
    · exact Nat.le_trans I3.ok.bsz I3.sz
    · rcases (f2 b hb).2.2.2.1 with z | z
      · exact I3.ok.noex b o q z
      · exact absurd (Nat.lt_of_lt_of_le (Heap.lt_size (I3.ok.bs b o q).1) z) (Nat.lt_irrefl _)
    · rcases List.mem_cons.mp (I3.stkSub b z) with z | z
      · exact (f2 b hb).2.1 z
      · exact (f2 b hb).2.2.1 z
  generalize eY : blk X scope cl (x :: ys) C { s2 with heap := P3,toks := s2.toks } (upd H2 D (.lst [])) fp = Y at okY
  have IY : Inv Y [] (none :: frees js σ) (upd H2 D (.lst [])) { s2 with heap := h₁,toks := s2.toks + ([] : List (Str × Value)).length } := by
    subst eY
    refine ⟨okY,I3.os.trans I3.os.symm |>.trans rfl,I3.bare,Un.kept k34,⟨_,hns₁,λ i y v h1 h2 h3 => ?_⟩,λ y c hy => ?_,hC0,λ y c hy => I3.freeC y c (hcl y c hy),λ p hp => absurd (show p ∈ ([] : List (Addr × Obj)) from hp) (by simp),I3.hok.kept k34,?_⟩
    · cases i with
      | zero => cases h2
      | succ i =>
        have h1' : ys[i]? = some y := h1
        have h2' : (frees js σ)[i]? = some (some v) := h2
        unfold frees at h2'
        rw [List.getElem?_map] at h2'
        cases q : js[i]? with
        | none => rw [q] at h2'; cases h2'
        | some j =>
          rw [q] at h2'
          have h4 : (σ[j]?).join = some v := Option.some.inj h2'
          have h5 : σ[j]? = some (some v) := by
            cases z : σ[j]? with
            | none => rw [z] at h4; cases h4
            | some o => rw [z] at h4; have h4' : o = some v := h4; rw [h4']
          obtain ⟨n1,n2,n3,n4⟩ := hjy i j y q h1'
          obtain ⟨m,_,hl⟩ := I3.loc
          obtain ⟨u,ru,lk⟩ := hl j y v n1 h5 n2
          refine ⟨u,ru,.inr ⟨n4,?_⟩⟩
          obtain ⟨c,hc'⟩ := hhas y n4
          rcases lk with ⟨z,_⟩ | ⟨_,c',e1,e2⟩
          · rcases n3 with n3 | n3 <;> (rw [n3] at z; cases z)
          · have : c' = c := Option.some.inj (e1.symm.trans (hcl y c hc'))
            subst this
            obtain ⟨o,ho,hod⟩ := e2
            exact ⟨c',hc',o,k34 _ _ ho,hod⟩
    · obtain ⟨v,o,ho,hod⟩ := I3.cell y c (hcl y c hy)
      exact ⟨v,o,k34 _ _ ho,hod⟩
    · show (frees js σ).length + 1 = (x :: ys).length
      unfold frees
      simp [hjs]
  have eYA : Y.A = X.A := by rw [← eY]; rfl
  have eYp : Y.prog = X.prog := by rw [← eY]; rfl
  have eYw : Y.w = X.w := by rw [← eY]; rfl
  have eYK : Y.K = X.K := by rw [← eY]; rfl
  have eYe : Y.env = compEnvC scope cl C X.env := by rw [← eY]; rfl
  have eYH : Y.H₀ = upd H2 D (.lst []) := by rw [← eY]; rfl
  have eYc : Y.calm = true := by rw [← eY]; exact hc
  have eYx : Y.xe = λ _ _ => False := by rw [← eY]; rfl
  have eYex : Y.ex = fp := by rw [← eY]; rfl
  have eYfs : Y.fs = frs X.stack := by rw [← eY]; rfl
  have eYs : Y.s₀ = { s2 with heap := P3,toks := s2.toks } := by rw [← eY]; rfl
  have eYl : Y.env.locals = C := by rw [eYe]; rfl
  have ht' : PTs Y ifs (tt Y) := by rw [← eY]; exact ht C _ _ fp
  have he' : PE Y elt (te Y) := by rw [← eY]; exact he C _ _ fp
  have hg' : PG Y (.Name x px) (gName 0) := by
    rw [← eY]
    exact pg_name hnd rfl (.inl (lookup_relabel_local hx)) (.inr (lookup_relabel_local hx))
  have T' : Turn Y.prog Y.w Y.K (.Name x px) J fp it tn := by rw [eYp,eYw,eYK]; exact T
  obtain ⟨W,⟨m0,w0⟩,turn⟩ := h2 D hD Y eYH eYK
  have stat : ∀ {H' : Hp},(∀ b ∈ fp,H' b = none) → ∀ b ∈ fp,FpOk Y [] H' b := λ {H'} hn b hb => by
    obtain ⟨_,g1,g2,g3,g4,g5⟩ := f2 b hb
    refine ⟨hn b hb,(by rw [eYl,hCs]; exact Nat.ne_of_lt (Nat.lt_succ_of_lt (fpD b hb))),λ z => ?_,.inl (by rw [eYex]; exact hb),λ y c hy => ?_,λ p hp => ?_⟩
    · rw [eYfs] at z
      rcases List.mem_cons.mp (I3.stkSub b z) with z | z
      · exact g1 z
      · exact g2 z
    · rw [eYe] at hy
      exact g4 y c (hcl y c hy)
    · have e0 : Y.pn = [] := by rw [← eY]; rfl
      rw [e0] at hp
      exact absurd (show p ∈ ([] : List (Addr × Obj)) from hp) (by simp)
  -- the loop
  have loop : ∀ s₃ : Shared,s₃ = { s2 with heap := h₁,toks := s2.toks + ([] : List (Str × Value)).length } →
      codeAny (model X.prog X.w) X.A (.compLoop (.ListComp elt [⟨.Name x px,iter,ifs,0⟩] scope pos) 0 (.ref it) (.ref D) (compEnvC scope cl C X.env))
        (compPost (model X.prog X.w) X.A X.xe none (EP X pins σ Q) (.ref D) C) s₃ := by
    rintro s₃ rfl
    rw [← eYe,← eYA,← eYp,← eYw]
    refine compLoop_any (λ n s' => ∃ i z H' zs,Inv Y [] (z :: frees js σ) H' s' ∧ tn i s'.heap ∧ (∀ b ∈ fp,H' b = none) ∧ H' D = some (.lst zs) ∧ W i n zs H') ?_ m0
      ⟨0,none,_,[],IY,T.keep 0 _ _ st2 (λ b _ o q => k34 b o (k23 b o q)),λ b hb => ?_,upd_same,w0⟩
    · rintro n s4 ⟨i,z,H4,zs,I4,st4,fr4,hz4,w4⟩
      rcases turn i n zs H4 hz4 w4 with ⟨stop,qn⟩ | ⟨go,step⟩
      · refine thn (T'.done Y rfl rfl rfl eYc i [] s4 _ H4 _ I4 (stat fr4) st4 stop) λ r s5 ⟨hr,I5⟩ => ?_
        subst hr
        obtain ⟨m,hm,_⟩ := id I5.loc
        rw [eYl] at hm
        refine ⟨m,hm,λ h6 sb => ?_⟩
        have hC5 : H4 C = none := by rw [← eYl]; exact I5.free
        have un5 := I5.base
        rw [eYfs,eYex,eYH,eYs] at un5
        have un6 : Un (frs X.stack) fp (upd H2 D (.lst [])) H4 P3 h6 := by
          have nC : ∀ b o,P3.get? b = some o → b ≠ C := λ b o q => by rw [← eC]; exact Nat.ne_of_lt (Heap.lt_size q)
          refine ⟨λ b o q n hb hx => (sb.2 b (nC b o q)).trans (un5.keep b o q n hb hx),λ b o q n hb hx => ?_,un5.free,λ b o q hx => ?_,un5.tups,un5.frzs,un5.tbls⟩
          · obtain ⟨sl,q2⟩ := un5.slot b o q n hb hx
            exact ⟨sl,(sb.2 b (nC b o q)).trans q2⟩
          · obtain ⟨o',q2⟩ := un5.there b o q hx
            exact ⟨o',(sb.2 b (nC b o q)).trans q2⟩
        have hok6 : HOk X.prog X.w H4 h6 := λ b ob q => by
          have q5 := I5.hok b ob q
          rw [eYp,eYw] at q5
          refine q5.stay (λ c w' hc' q' => (sb.2 c ?_).trans q') (λ _ q' => q') λ _ _ q' => q'
          rintro rfl
          rcases hc' with rfl | hc'
          · rw [hC5] at q; cases q
          · rw [hC5] at hc'; cases hc'
        refine ⟨.ref D,H4,?_,rfl,qn⟩
        have os5 : s5.os = s2.os := by have := I5.os; rw [eYs] at this; exact this
        refine I3.call' (s' := { s5 with heap := h6 }) (ch := fp) os5 un6 hok6 I5.bare λ b hb => ?_
        obtain ⟨_,g1,g2,g3,g4,g5⟩ := f2 b hb
        exact ⟨g3,g1,g4,g5⟩
      · refine thn (T'.item Y rfl rfl rfl eYc i [] s4 _ H4 _ I4 (stat fr4) st4 go) λ r s5 ⟨u,hr,h5⟩ => ?_
        subst hr
        refine thn h5 λ _ s6 ⟨y,H6,I6,r6,y6,st6,fr6⟩ => ?_
        have I6' := I6.pinned (stat fr6) (T.obj _ _ st6)
        have q6 := step y H6 y6
        have back : ∀ {σ7 : L2.St} {H7 : Hp} {s7 : Shared},Inv Y ([] ++ pinsAt fp s6.heap) σ7 H7 s7 → tn (i + 1) s7.heap ∧ ∀ b ∈ fp,H7 b = none := λ {σ7 H7 s7} I7 =>
          ⟨T.keep _ _ _ st6 λ b hb o e => (I7.pin (b,o) (List.mem_append_right _ (List.mem_append_right _ (mem_pinsAt hb e)))).1,λ b hb => by
            obtain ⟨o,e,_⟩ := T.obj _ _ st6 b hb
            exact (I7.pin (b,o) (List.mem_append_right _ (List.mem_append_right _ (mem_pinsAt hb e)))).2.1⟩
        refine wpAny_mono (hg' _ s6 _ H6 y u (λ σ' H' => σ' = some y :: frees js σ ∧ H' = H6) I6' r6 ⟨rfl,rfl⟩) (λ _ s7 ⟨σ7,H7,I7,e7,e7'⟩ => ?_) λ _ _ z => by rw [eYx] at z; exact z
        subst e7 e7'
        refine wpAny_mono (ht' _ s7 _ H7 _ I7 q6) (λ ok s8 ⟨H8,I8,q8⟩ => ?_) λ _ _ z => by rw [eYx] at z; exact z
        cases ok with
        | false =>
          rw [if_neg Bool.false_ne_true] at q8 ⊢
          obtain ⟨zs',m',hz',hm',w'⟩ := q8
          obtain ⟨b1,b2⟩ := back I8
          exact ⟨m',hm',i + 1,some y,H8,zs',I8.unpinned,b1,b2,hz',w'⟩
        | true =>
          rw [if_pos rfl] at q8 ⊢
          refine wpAny_mono (he' _ s8 _ H8 _ I8 q8) (λ u9 s9 ⟨v9,H9,I9,r9,zs9,hz9,hl9,m9,hm9,w9⟩ => ?_) λ _ _ z => by rw [eYx] at z; exact z
          refine wpAny_mono (mt_append (X := Y) _ s9 _ H9 (.ref D) [v9] (.ref D) [u9] (λ _ H' => H' = upd H9 D (.lst (zs9 ++ [v9]))) I9 rfl (.cons r9 .nil) ⟨D,zs9,v9,rfl,rfl,hz9,hl9,rfl⟩) (λ _ s10 ⟨_,H10,I10,_,e10⟩ => ?_) λ _ _ z => by rw [eYx] at z; exact z
          subst e10
          obtain ⟨b1,b2⟩ := back I10
          exact ⟨m9,hm9,i + 1,some y,_,zs9 ++ [v9],I10.unpinned,b1,b2,upd_same,w9⟩
    · rw [upd_ne (Nat.ne_of_lt (fpD b hb))]
      exact (f2 b hb).1
  exact codeAny_compStart_list (loop _ rfl) (T.self _ 0 _ _ _ (T.keep 0 _ _ st2 (λ b _ o q => k34 b o (k23 b o q))) (loop _ rfl))
end FL
namespace FL
open PySem PySem.Spec PyProof.Rows L2
def tN (X : Cx) (ρ : Ro) (ds : List D) : TE := λ σ H Q => RelE X H σ ρ∧∀ a vs H',H a = none→Same H H'→H' a = some (.lst vs)→IsAll X.K H' vs ds→Q (.ref a) H'
def EvN (X : Cx) (e : Expr) (ρ : Ro) (ds : List D) : Prop := PE X e (tN X ρ ds)
theorem EvN.ev {X : Cx} {e : Expr} {ρ : Ro} {ds : List D} (h : EvN X e ρ ds) : Ev X e ρ (.ls ds) :=
  PE.imp h λ _ _ _ ⟨r,q⟩ => ⟨r,λ a _ H' _ s e h => q (.ref a) H' s (.ls (.of e) h)⟩
def SrcOk (K : PySem.W.Frag) (J : It) (H : Hp) (ds : List D) : Prop :=
  ∀ H3,Same H H3 → (∀ i,ds.length ≤ i → J.stop i H3) ∧ ∀ i d,ds[i]? = some d → J.go i H3 ∧ ∀ x H4,J.yld i H3 x H4 → H4 = H3 ∧ Is K H3 x d
def tSrc (X : Cx) (ρ : Ro) (ds : List D) : TI := λ σ H R => RelE X H σ ρ∧∀ J H',Same H H'→SrcOk X.K J H' ds→R J H'
def Src (X : Cx) (tg e : Expr) (ρ : Ro) (ds : List D) : Prop := PI X tg e (tSrc X ρ ds)
section
variable {X : Cx} {e a b tg : Expr} {ρ : Ro} {ds : List D} {d : D} {pos : Pos} {i j : Int}
theorem PI.imp {t t' : TI} (h : PI X tg e t) (f : ∀ σ H R,t' σ H R→t σ H R) : PI X tg e t' := λ pins s σ H R I q => h pins s σ H R I (f σ H R q)
theorem src_tup (h : Ev X e ρ (.tup ds)) : Src X tg e ρ ds := by
  refine PI.imp (pi_tup h) ?_
  rintro σ H R ⟨r,q⟩
  refine ⟨r,λ v H1 s1 h1 => ?_⟩
  obtain ⟨p,xs,rfl,hT,hA⟩ := h1.tup_inv
  refine ⟨p,rfl,⟨xs,hT⟩,q _ H1 s1 λ H3 s3 => ⟨λ i hi => ⟨xs,sameT s3 hT,by rw [hA.length]; exact hi⟩,λ i d hd => ?_⟩⟩
  obtain ⟨v,hv,hI⟩ := (hA.mono s3).get hd
  exact ⟨⟨xs,v,sameT s3 hT,hv⟩,λ x H4 ⟨e4,y⟩ => ⟨e4,by have := y xs (sameT s3 hT); rw [hv] at this; cases this; exact hI⟩⟩
theorem src_ls (h : Ev X e ρ d) (hl : lsD d = some ds) : Src X tg e ρ ds := by
  refine PI.imp (pi_list h) ?_
  rintro σ H R ⟨r,q⟩
  refine ⟨r,λ v H1 s1 h1 => ?_⟩
  obtain ⟨p,xs,rfl,hT,hA⟩ := h1.lsD_inv hl
  refine ⟨p,rfl,⟨xs,hT⟩,q _ H1 s1 λ H3 s3 => ⟨λ i hi => ⟨xs,s3.seq hT,by rw [hA.length]; exact hi⟩,λ i d hd => ?_⟩⟩
  obtain ⟨v,hv,hI⟩ := (hA.mono s3).get hd
  exact ⟨⟨xs,v,s3.seq hT,hv⟩,λ x H4 ⟨e4,y⟩ => ⟨e4,by have := y xs (s3.seq hT); rw [hv] at this; cases this; exact hI⟩⟩
theorem srcOk_range {K : PySem.W.Frag} {lo : Int} {n : Nat} {H : Hp} : SrcOk K (Itr lo n) H ((List.range n).map λ (t : Nat) => D.int (lo + t)) := by
  intro H3 s3
  refine ⟨λ i hi => (by show n ≤ i; simpa using hi),λ i d hd => ?_⟩
  rw [List.getElem?_map] at hd
  by_cases hn : i < n
  · rw [List.getElem?_range hn] at hd
    cases hd
    refine ⟨hn,λ x H4 ⟨e1,e2⟩ => ⟨e1,by rw [e2]; exact .int _⟩⟩
  · rw [List.getElem?_eq_none (by simpa using hn)] at hd
    cases hd
theorem src_range2 {p : Pos} (hm : X.mg "range" = none) (ha : Ev X a ρ (.int i)) (hb : Ev X b ρ (.int j)) (h0 : -(2 ^ 62)≤i) (h0' : i < 2 ^ 62) (h1 : -(2 ^ 62)≤j) (h2 : j < 2 ^ 62) (hg : Gl X "range" := by rfl)
    (hs : starEach [a,b] X.env = [(false,eval a X.env),(false,eval b X.env)] := by rfl) (hs2 : starEach [b] X.env = [(false,eval b X.env)] := by rfl) :
    Src X tg (.Call (.Name "range" p) [a,b] [] pos) ρ ((List.range (j - i).toNat).map λ (t : Nat) => D.int (i + t)) := by
  refine PI.imp (pi_range2 hg hm (ea_cons ha (ea_cons hb ea_nil hs2) (hs.trans (by rw [hs2]))) hs hs2) ?_
  rintro σ H R ⟨r,q⟩
  refine ⟨r,λ vs H1 s1 h3' => ?_⟩
  obtain ⟨v,v',rfl,h3,h4⟩ := two_inv h3'
  cases h3.int_inv
  cases h4.int_inv
  exact ⟨i,j,rfl,⟨h0,h0',h1,h2⟩,q _ H1 s1 srcOk_range⟩
end
def Ets (X : Cx) (ifs : List Expr) (ρ : Ro) (k : Bool) : Prop := PTs X ifs (tB X ρ k)
theorem ets_nil {X : Cx} {ρ : Ro} : Ets X [] ρ true := λ pins s σ H Q I ⟨_,q⟩ => pts_nil pins s σ H Q I (q H (Same.refl H))
theorem ets_one {X : Cx} {ρ : Ro} {c : Expr} {k : Bool} (h : Et X c ρ k) : Ets X [c] ρ k := pts_one h
def freesD (js : List Nat) (ρ : Ro) : Ro := js.map λ j => (ρ[j]?).join
theorem relE_blk {X Y : Cx} (hK : Y.K = X.K) {H : Hp} {σ : L2.St} {ρ : Ro} {js : List Nat} {x : V} {d : D} (r : RelE X H σ ρ) (hx : Is X.K H x d) : RelE Y H (some x :: frees js σ) (some d :: freesD js ρ) := by
  have vals : ∀ (i : Nat) (e : D),(some d :: freesD js ρ)[i]? = some (some e) → ∃ v,(some x :: frees js σ)[i]? = some (some v) ∧ Is X.K H v e := λ i e h => by
    cases i with
    | zero => cases h; exact ⟨x,rfl,hx⟩
    | succ i =>
      have h' : (freesD js ρ)[i]? = some (some e) := h
      unfold freesD at h'
      rw [List.getElem?_map] at h'
      cases q : js[i]? with
      | none => rw [q] at h'; cases h'
      | some j =>
        rw [q] at h'
        have h4 : (ρ[j]?).join = some e := Option.some.inj h'
        have h5 : ρ[j]? = some (some e) := by
          cases z : ρ[j]? with
          | none => rw [z] at h4; cases h4
          | some o => rw [z] at h4; have h4' : o = some e := h4; rw [h4']
        obtain ⟨v,e1,e2⟩ := r.val j e h5
        refine ⟨v,?_,e2⟩
        show (frees js σ)[i]? = some (some v)
        unfold frees
        rw [List.getElem?_map,q]
        show some (σ[j]?).join = _
        rw [e1]
        rfl
  exact ⟨by simp [frees,freesD],λ i e h => by rw [hK]; exact vals i e h⟩
theorem no_free {scope : Scope} {env : Env} {cl : List (Str × Addr)} (h : ∀ p∈scope.names,p.2≠.cell∧p.2≠.free) :
    ∀ y,(relabel scope env).names.lookup y = some .cell ∨ (relabel scope env).names.lookup y = some .free → ∃ c,cl.lookup y = some c := by
  have key : ∀ p ∈ (relabel scope env).names,p.2 ≠ .cell ∧ p.2 ≠ .free := by
    intro p hp
    obtain ⟨⟨n,k⟩,hm,e⟩ := List.mem_map.mp (show p ∈ scope.names.map _ from hp)
    have hk := h _ hm
    have hf : (k == NameKind.free) = false := by simpa using hk.2
    simp only [hf,Bool.false_and,Bool.false_eq_true,if_false] at e
    subst e
    exact hk
  intro y z
  rcases z with z | z
  · exact absurd rfl (key _ (PySem.mem_of_lookup z)).1
  · exact absurd rfl (key _ (PySem.mem_of_lookup z)).2
theorem evn_comp {X : Cx} {elt iter : Expr} {x : Str} {px : Pos} {ifs : List Expr} {scope : Scope} {cl : List (Str × Addr)} {pos : Pos} {ys : List Str} {js : List Nat} {ρ : Ro} {ds : List D} (p : D→Bool) (f : D→D)
    (hc : X.calm = true) (hi : Src X (.Name x px) iter ρ ds) (hz : ds.length ≤ 1000000) (hfz : ∀ d ∈ ds,p d = true → Fz (f d))
    (ht : ∀ C s₀ H₀ fp,∀ d ∈ ds,Ets (blk X scope cl (x :: ys) C s₀ H₀ fp) ifs (some d :: freesD js ρ) (p d))
    (he : ∀ C s₀ H₀ fp,∀ d ∈ ds,p d = true → Ev (blk X scope cl (x :: ys) C s₀ H₀ fp) elt (some d :: freesD js ρ) (f d))
    (hclos : closureFor scope X.env = pure cl) (hcell : ∀ y ∈ scope.names,y.2 ≠ .cell) (hkind : scope.kind = .function)
    (hnames : ∀ y ∈ scope.names,y.2 = .local → scope.names.lookup y.1 = some .local) (hx : scope.names.lookup x = some .local) (hnd : (x :: ys).Nodup)
    (hcl : ∀ y c,cl.lookup y = some c → X.env.cells.lookup y = some c)
    (hhas : ∀ y,(relabel scope X.env).names.lookup y = some .cell ∨ (relabel scope X.env).names.lookup y = some .free → ∃ c,cl.lookup y = some c)
    (hjs : js.length = ys.length) (hjy : ∀ (i j : Nat) (y : Str),js[i]? = some j → ys[i]? = some y → X.N[j]? = some y ∧ Vis X.env.scope y ∧ (X.env.kindOf y = some .cell ∨ X.env.kindOf y = some .free) ∧ ((relabel scope X.env).names.lookup y = some .cell ∨ (relabel scope X.env).names.lookup y = some .free))
    (hs : ∀ x,foldedSetIterable iter X.env x = pure x := by intro _; rfl) : EvN X (.ListComp elt [⟨.Name x px,iter,ifs,0⟩] scope pos) ρ ((ds.filter p).map f) := by
  refine PE.imp (pe_comp (js := js) (tt := λ Y σ H Q => ∃ d,d ∈ ds ∧ tB Y (some d :: freesD js ρ) (p d) σ H Q) (te := λ Y σ H Q => ∃ d,d ∈ ds ∧ p d = true ∧ tD Y (some d :: freesD js ρ) (f d) σ H Q) hc hi
    (λ C s₀ H₀ fp pins s σ H Q I ⟨d,hd,q⟩ => ht C s₀ H₀ fp d hd pins s σ H Q I q) (λ C s₀ H₀ fp pins s σ H Q I ⟨d,hd,hp,q⟩ => he C s₀ H₀ fp d hd hp pins s σ H Q I q) hclos hcell hkind hnames hx hnd hcl hhas hjs hjy hs) ?_
  rintro σ H Q ⟨r,q⟩
  refine ⟨r,λ J H2 s2 ok D hD Y eH eK => ?_⟩
  -- the invariant: what was there stands,the list holds what came of the items so far
  have fzs : ∀ (i : Nat),∀ d ∈ ((ds.take i).filter p).map f,Fz d := λ i d hd => by
    obtain ⟨d',h1,rfl⟩ := List.mem_map.mp hd
    obtain ⟨h2,h3⟩ := List.mem_filter.mp h1
    exact hfz d' (List.mem_of_mem_take h2) h3
  refine ⟨λ i m zs H3 => m = ds.length - i ∧ i ≤ ds.length ∧ (∀ b o,H2 b = some o → H3 b = some o) ∧ IsAll X.K H3 zs (((ds.take i).filter p).map f),⟨ds.length,by simp,Nat.zero_le _,same_new hD,?_⟩,?_⟩
  · simpa using IsAll.nil
  · rintro i m zs H3 hzs ⟨rfl,hil,k3,hA⟩
    obtain ⟨stop,go⟩ := ok H3 k3
    by_cases hlt : i < ds.length
    · obtain ⟨g,y⟩ := go i ds[i] (by simp [hlt])
      refine .inr ⟨g,λ v H4 hy => ?_⟩
      obtain ⟨rfl,hv⟩ := y v H4 hy
      have hmem : ds[i] ∈ ds := List.getElem_mem hlt
      have r3 : RelE X H4 σ ρ := r.mono (s2.trans k3)
      refine ⟨ds[i],hmem,relE_blk eK r3 hv,λ H5 s5 => ?_⟩
      have etake : ds.take (i + 1) = ds.take i ++ [ds[i]] := by rw [List.take_succ_eq_append_getElem hlt]
      cases hp : p ds[i] with
      | false =>
        refine iteF ⟨zs,ds.length - (i + 1),s5 _ _ hzs,by omega,rfl,hlt,λ b o h => s5 _ _ (k3 b o h),?_⟩
        rw [etake,List.filter_append]
        simpa [hp] using hA.mono s5
      | true =>
        refine iteT ⟨ds[i],hmem,hp,(relE_blk eK r3 hv).mono s5,λ y H6 s6 hy6 => ⟨zs,s6 _ _ (s5 _ _ hzs),?_,ds.length - (i + 1),by omega,rfl,hlt,λ b o h => ?_,?_⟩⟩
        · have e1 := hA.length
          rw [List.length_map] at e1
          have e2 := List.length_filter_le p (ds.take i)
          rw [List.length_take] at e2
          rw [sizeLine_eq]
          omega
        · rw [upd_ne (ne_of_none h hD)]
          exact s6 _ _ (s5 _ _ (k3 b o h))
        · have hD6 : H6 D = some (.lst zs) := s6 _ _ (s5 _ _ hzs)
          have kt : KT H6 (upd H6 D (.lst (zs ++ [y]))) :=
            ⟨λ b xs h => by rw [upd_ne (ne_of h hD6 (by intro z; cases z))]; exact h,λ b o u h => by rw [upd_ne (ne_of h hD6 (by intro z; cases z))]; exact h⟩
          rw [etake,List.filter_append,List.map_append]
          refine IsAll.append ((hA.mono (s5.trans s6)).keep kt (fzs i)) ?_
          rw [eK] at hy6
          simpa [hp] using IsAll.cons (hy6.keep kt (hfz _ hmem hp)) .nil
    · refine .inl ⟨stop i (by omega),q D zs H3 (s2.free hD) (s2.trans k3) hzs ?_⟩
      have : ds.take i = ds := List.take_of_length_le (by omega)
      rw [this] at hA
      exact hA
end FL
namespace FL
open PySem PySem.Spec PyProof.Rows L2
theorem bools_of : ∀ {bs : List Bool} {us : List Value},Vals (bs.map V.bl) us→LSm.BoolsAre us bs
  | [],_,.nil => .nil
  | b :: _,_,.cons r t => by
    cases r
    exact .cons b (bools_of t)
theorem call_all {X : Cx} (hc : X.calm = true) : CallR X (.builtin "all") (λ vs H Q => ∃ (a : Addr) (bs : List Bool),vs = [.ref a]∧SqL X.K H a (bs.map V.bl)∧Q (.bl (bs.all id)) H) := by
  intro pins s σ H vs us Q I r h
  obtain ⟨l,bs,rfl,hq,q⟩ := h
  obtain ⟨u,rfl,ru⟩ := vals1 r
  cases ru
  obtain ⟨its,rv,p,hz⟩ := I.list hq
  have hb : LSm.BoolsAre its bs := bools_of rv
  have hl := p.isList
  have hlt : l < s.heap.objs.size := by obtain ⟨_,e,_⟩ := hl; exact Heap.lt_size e
  refine call_all_walk (wpAny_pyIter_list hl ?_)
  refine ⟨s.heap.objs.size,[s.heap.objs.size,l],[s.heap.objs.size],its.toArray.size,_,_,λ i => (bs[i]?).getD true,rfl,Walks.list (A := X.A.in1) (I.ok.hd hc) _ l (Nat.ne_of_lt hlt) its.toArray,
    ⟨⟨_,Heap.get?_push_size _ rfl,rfl,rfl⟩,hl.push _⟩,λ i v s' Q' E' hP hQ => ?_,λ h' tk hk => ?_⟩
  · obtain ⟨b,e,rfl⟩ := hb.get i v (by simpa using hP)
    simp only [e,Option.getD_some] at hQ
    exact wpAny_truthy_bool hQ
  · have e : ((List.range its.toArray.size).all λ i => (bs[i]?).getD true) = bs.all id := by
      rw [List.size_toArray,hb.length]; exact LSm.range_all bs
    rw [e]
    exact ⟨.bl _,H,I.kept (LSm.kept_iter hk),rfl,q⟩
theorem IsAll.bools {K : PySem.W.Frag} {H : Hp} : ∀ {vs : List V} {bs : List Bool},IsAll K H vs (bs.map D.bl)→vs = bs.map V.bl
  | _,[],.nil => rfl
  | _,b :: bs,.cons h r => by
    cases h.bl_inv
    rw [IsAll.bools r]
    rfl
section
variable {X : Cx} {e a b c : Expr} {es : List Expr} {ρ : Ro} {d : D} {ds : List D} {pos : Pos} {i j : Int} {k k' : Bool}
theorem ev_all {p : Pos} {bs : List Bool} (hc : X.calm = true) (hm : X.mg "all" = none) (ha : Ev X a ρ (.ls (bs.map D.bl))) (hg : Gl X "all" := by rfl) (he : starEach [a] X.env = [(false,eval a X.env)] := by rfl) : Ev X (.Call (.Name "all" p) [a] [] pos) ρ (.bl (bs.all id)) :=
  ev_callB (call_all hc) hm boot_all (ea_cons ha ea_nil he) (λ vs H Q h0 q => by
    obtain ⟨v,rfl,h⟩ := one_inv h0
    obtain ⟨l,xs,rfl,h1,h2⟩ := h.ls_inv
    cases h2.bools
    exact ⟨l,bs,rfl,h1,q _ H (Same.refl H) (.bl _)⟩) hg (by decide) (by decide) he rfl
end
theorem kit_b {K : PySem.W.Frag} {T U : String} {k : Bool} (hne : (Value.type T == Value.type U) = false) (hm : PySem.W.kitMeta U = true) (hs : (fastBuiltinMro T).map (·.contains (.type U)) = some k) : PySem.W.kitOne K (.type T) (.type U) = some k := by
  unfold PySem.W.kitOne
  rw [hne,if_neg Bool.false_ne_true]
  unfold PySem.W.kitCls
  dsimp only
  rw [if_pos hm]
  exact hs
theorem kit_s {K : PySem.W.Frag} {T : String} : PySem.W.kitOne K (.type T) (.type T) = some true := by
  unfold PySem.W.kitOne
  rw [if_pos (by simp)]
theorem kit_int_bool {K : PySem.W.Frag} : PySem.W.kitOne K (.type "int") (.type "bool") = some false := kit_b (by decide +kernel) (by decide +kernel) (by decide +kernel)
theorem bo_int : bootBuiltins "int" = some (.type "int") := by decide +kernel
theorem bo_bool : bootBuiltins "bool" = some (.type "bool") := by decide +kernel
theorem bo_tuple : bootBuiltins "tuple" = some (.type "tuple") := by decide +kernel
theorem bo_list : bootBuiltins "list" = some (.type "list") := by decide +kernel
theorem bo_str : bootBuiltins "str" = some (.type "str") := by decide +kernel
theorem bits_of_lay {ns : List Int} (h : PySem.W.WData.layableAll [PySem.W.WData.list (ns.map PySem.W.WData.int)] = true) : ∀ z∈ns,Builtin.Int.intBits z≤1048576 := λ z hz => by
  have h1 := PySem.W.layableW_arg h _ List.mem_cons_self
  have h2 := PySem.W.layableW_item h1 (.int z) (List.mem_map.mpr ⟨z,hz,rfl⟩)
  have h3 := PySem.W.layable0_of_all (PySem.W.lay0_int h2)
  exact PyData.bits_of_layable h3
theorem walk_ofB {l : PySem.W.OpenLaw} {n k : Nat} {q : Program} {loose : List Str} {XP : (Str→Option Value)→Heap→Prop} {YP : World→Heap→Prop} {d : DefRec} {K : Params→PySem.W.Frag} {x : Str} {Pf : List D→D→Prop}
    (hn : l.most = some n) (hn2 : n ≤ sizeLine) (hdf : d.params.defaults = []) (hr : Room k callerA)
    (hY : ∀ (w : World) (h : Heap),YP w h → (K w.params).In h)
    (F : ∀ (w : World) (mg : Str → Option Value) (fa : Addr) (h : Heap),(K w.params).In h → h.Ns mainGlobals mg → mg d.name = some (.ref fa) →
      ∃ fd : FuncData,(∀ (s : Shared) (u : Value),BindsTo s fd ⟨[u],[]⟩ [(x,u)]) ∧
        ∀ base : Heap,(K w.params).In base → base.Ns mainGlobals mg → FnOk l.prog w (K w.params) mg base CX0 k fa fd [x] (SpD (K w.params) Pf))
    (hsp : ∀ (ns : List Int),ns.length ≤ n → (∀ z ∈ ns,Builtin.Int.intBits z ≤ 1048576) → Pf [.ls (ns.map D.int)] (.bl true)) :
    PySem.W.WalkO q loose XP YP l.row.toRowW d [] (λ f vs => PySem.call f vs) := by
  intro w s₀ s₁ mg mb G Y fa o pm cd doc dV kV ho hd hcd hD hmg hg args vals as hpre hlay hrd hwl hlo
  obtain rfl : dV = .none := PySem.W.Dflts.none hD hdf
  obtain rfl : kV = .none := PySem.W.Dflts.noKw hD
  obtain ⟨a,vs,ns,rfl,rfl,hobj,hints,hlen⟩ := Att.script_of hn hpre hwl
  have hbits := bits_of_lay hlay
  have KX := hY w _ Y
  obtain ⟨fd,hb,hF⟩ := F w mg fa _ KX G.T.g hmg
  have hc : codeAny (model l.prog w) callerA (.call (.ref fa) ⟨[.ref a],[]⟩) (λ r s' => r = .ok (.ret (.bool true)) ∧ OldK s₁.heap s'.heap ∧ s'.os = s₁.os ∧ AllBare s'.gens) s₁ :=
    law_call KX G.T.g G.T.b G.T.builtins G.T.nolimit hg hobj hints (Nat.le_trans hlen hn2) hr hF hb
      (λ H hO hS => ⟨[.ls (ns.map D.int)],.bl true,.cons (.ls hS (IsAll.ints ns)) .nil,hsp ns hlen hbits,λ v H' _ h => h.bl_inv⟩) (λ H e s' z => z)
  refine PySem.W.enter_call (codeAny_mono hc λ r s' hq => ?_)
  obtain ⟨rfl,h2,h3,h4⟩ := hq
  exact ⟨.inl ⟨.bool true,.bool true,[],rfl,λ _ => rfl,.bool true,Att.post_true l _,λ _ => ⟨List.Pairwise.nil,λ _ hm => (nomatch hm)⟩⟩,h2,h3,h4⟩
end FL
namespace FL
open PySem
open Builtin.Int (intBits)
theorem Bd.up {i : Int} {m : Nat} (h : Bd i m) (n : Nat) (hn : m≤n) : Bd i n := ⟨Nat.le_trans h.lt hn⟩
theorem Bd.of_lt {i : Int} {m : Nat} (h : i.natAbs < 2 ^ m) : Bd i m := ⟨intBits_le_iff.mpr h⟩
theorem Bd.lit {i : Int} {m : Nat} (h : i.natAbs < 2 ^ m := by decide) : Bd i m := .of_lt h
theorem Bd.add {i j : Int} {m n : Nat} (hi : Bd i m) (hj : Bd j n) (k : Nat) (h : max m n + 1≤k) : Bd (i + j) k := ⟨Nat.le_trans (intBits_add_le hi.lt hj.lt) h⟩
theorem Bd.sub {i j : Int} {m n : Nat} (hi : Bd i m) (hj : Bd j n) (k : Nat) (h : max m n + 1≤k) : Bd (i - j) k := ⟨Nat.le_trans (intBits_sub_le hi.lt hj.lt) h⟩
theorem Bd.mul {i j : Int} {m n : Nat} (hi : Bd i m) (hj : Bd j n) (k : Nat) (h : m + n≤k) : Bd (i * j) k := ⟨Nat.le_trans (intBits_mul_le hi.lt hj.lt) h⟩
instance bd_add {i j : Int} {m n : Nat} [hi : Bd i m] [hj : Bd j n] : Bd (i + j) (max m n + 1) := ⟨intBits_add_le hi.lt hj.lt⟩
instance bd_mul {i j : Int} {m n : Nat} [hi : Bd i m] [hj : Bd j n] : Bd (i * j) (m + n) := ⟨intBits_mul_le hi.lt hj.lt⟩
instance bd_0 : Bd 0 0 := .lit
instance bd_2 : Bd 2 2 := .lit
instance bd_3 : Bd 3 2 := .lit
instance bd_4 : Bd 4 3 := .lit
instance bd_10 : Bd 10 4 := .lit
theorem Bd.div {i j : Int} {m : Nat} (hi : Bd i m) (h : 0 < j) : Bd (i / j) m := by
  have e := intBits_fdiv_le (y := j) hi.lt
  rw [Int.fdiv_eq_ediv_of_nonneg i (by omega)] at e
  exact ⟨e⟩
theorem Bd.le {i j : Int} {m : Nat} (hj : Bd j m) (h : i.natAbs≤j.natAbs) : Bd i m := ⟨intBits_le_of_natAbs h hj.lt⟩
theorem Bd.sqrt {y N : Int} {k : Nat} (h : y * y≤N) (hN : Bd N (k + k)) : Bd y k := by
  refine .of_lt ?_
  have h1 := intBits_le_iff.mp hN.lt
  have h2 : y.natAbs * y.natAbs ≤ N.natAbs := by
    have : (y.natAbs * y.natAbs : Nat) = (y * y).natAbs := by rw [Int.natAbs_mul]
    rw [this]
    have h0 : 0 ≤ y * y := by
      rw [← Int.natAbs_mul_self]
      exact Int.natCast_nonneg _
    omega
  refine Nat.lt_of_not_le λ q => ?_
  have h3 := Nat.mul_le_mul q q
  rw [← Nat.pow_add] at h3
  omega
theorem Bd.factor {a p : Int} {k : Nat} (ha : 0 < a) (h : Bd (2 * a * p) k) : Bd p k := by
  refine h.le ?_
  rw [Int.natAbs_mul]
  have : 1 ≤ (2 * a).natAbs := by omega
  have := Nat.mul_le_mul_right p.natAbs this
  omega
end FL
namespace FL
open PySem PySem.Spec PyProof.Rows L2
def SrcS (X : Cx) (Ok : Ro→Prop) (J : It) (ρ : Ro) (H : Hp) (ds : List D) : Prop :=
  ∀ ρ' H3 σ3,Go ρ H ρ' H3 → RelS X X.H₀ H3 σ3 ρ' → Ok ρ' → (∀ i,ds.length ≤ i → J.stop i H3) ∧ ∀ i d,ds[i]? = some d → J.go i H3 ∧ ∀ x H4,J.yld i H3 x H4 → H4 = H3 ∧ Is X.K H3 x d
def tSrcS (X : Cx) (Ok : Ro→Prop) (ρ : Ro) (ds : List D) : TI := λ σ H R => RelS X X.H₀ H σ ρ∧∀ J H',Same H H'→SrcS X Ok J ρ H' ds→R J H'
def Wk (X : Cx) (Ok : Ro→Prop) (tg e : Expr) (ρ : Ro) (ds : List D) : Prop := PI X tg e (tSrcS X Ok ρ ds)
theorem srcS_T {X : Cx} {Ok : Ro→Prop} {ρ : Ro} {H : Hp} {σ : L2.St} {a : Addr} {xs : List V} {ds : List D} (r : RelS X X.H₀ H σ ρ) (hT : SqT X.K H a xs) (hA : IsAll X.K H xs ds) (hz : ∀ d∈ds,Fz d) : SrcS X Ok (Itt X.K a) ρ H ds := by
  intro ρ' H3 σ3 g r3 _
  have kt := g.kt r
  have hT3 := kt.seqT hT
  refine ⟨λ i hi => ⟨xs,hT3,by rw [hA.length]; exact hi⟩,λ i d hd => ?_⟩
  obtain ⟨v,hv,hI⟩ := (hA.keep kt hz).get hd
  exact ⟨⟨xs,v,hT3,hv⟩,λ x H4 ⟨e4,y⟩ => ⟨e4,by have := y xs hT3; rw [hv] at this; cases this; exact hI⟩⟩
theorem srcS_L {X : Cx} {Ok : Ro→Prop} {ρ : Ro} {H : Hp} {a : Addr} {ds : List D} (h : ∀ ρ' H3 σ3,Go ρ H ρ' H3→RelS X X.H₀ H3 σ3 ρ'→Ok ρ'→∃ xs,SqL X.K H3 a xs∧IsAll X.K H3 xs ds) : SrcS X Ok (Itl X.K a) ρ H ds := by
  intro ρ' H3 σ3 g r3 ok
  obtain ⟨xs,hT3,hA⟩ := h ρ' H3 σ3 g r3 ok
  refine ⟨λ i hi => ⟨xs,hT3,by rw [hA.length]; exact hi⟩,λ i d hd => ?_⟩
  obtain ⟨v,hv,hI⟩ := hA.get hd
  exact ⟨⟨xs,v,hT3,hv⟩,λ x H4 ⟨e4,y⟩ => ⟨e4,by have := y xs hT3; rw [hv] at this; cases this; exact hI⟩⟩
theorem srcS_R {X : Cx} {Ok : Ro→Prop} {ρ : Ro} {H : Hp} {lo : Int} {n : Nat} : SrcS X Ok (Itr lo n) ρ H ((List.range n).map λ (t : Nat) => D.int (lo + t)) := by
  intro ρ' H3 σ3 g r3 _
  exact srcOk_range (K := X.K) (H := H3) H3 (Same.refl H3)
section
variable {X : Cx} {e a b c tg : Expr} {es : List Expr} {ρ : Ro} {d : D} {ds : List D} {pos : Pos} {i j : Int} {rest A B : List Stmt} {P : Po}
theorem wk_tup (h : Ev X e ρ (.tup ds)) (hz : ∀ d∈ds,Fz d) : Wk X (λ _ => True) tg e ρ ds := by
  refine PI.imp (pi_tup h) ?_
  rintro σ H R ⟨r,q⟩
  refine ⟨r.e,λ v H1 s1 h1 => ?_⟩
  obtain ⟨p,xs,rfl,hT,hA⟩ := h1.tup_inv
  exact ⟨p,rfl,⟨xs,hT⟩,q _ H1 s1 (srcS_T (r.mono s1) hT hA hz)⟩
theorem wk_new (h : EvN X e ρ ds) (hz : ∀ d∈ds,Fz d) : Wk X (λ _ => True) tg e ρ ds := by
  refine PI.imp (pi_list h) ?_
  rintro σ H R ⟨r,q⟩
  refine ⟨r.e,λ p vs H1 hp s1 e1 h1 => ⟨p,rfl,⟨vs,.of e1⟩,q _ H1 s1 (srcS_L λ ρ' H3 σ3 g r3 _ => ?_)⟩⟩
  have nm : ¬ Mu ρ p := λ m => by obtain ⟨ys,z,_⟩ := r.mu m; rw [hp] at z; cases z
  exact ⟨vs,.of (g.kept _ _ e1 nm),h1.keep (g.kt (r.mono s1)) hz⟩
theorem wk_range1 {p : Pos} (hm : X.mg "range" = none) (ha : Ev X a ρ (.int j)) (h1 : -(2 ^ 62)≤j) (h2 : j < 2 ^ 62) (hg : Gl X "range" := by rfl) (hs : starEach [a] X.env = [(false,eval a X.env)] := by rfl) :
    Wk X (λ _ => True) tg (.Call (.Name "range" p) [a] [] pos) ρ ((List.range j.toNat).map λ (t : Nat) => D.int (0 + t)) := by
  refine PI.imp (pi_range1 hg hm (ea_cons ha ea_nil hs) hs) ?_
  rintro σ H R ⟨r,q⟩
  refine ⟨r.e,λ vs H1 s1 h3' => ?_⟩
  obtain ⟨v,rfl,h3⟩ := one_inv h3'
  cases h3.int_inv
  exact ⟨j,rfl,h1,h2,q _ H1 s1 srcS_R⟩
theorem wk_range2 {p : Pos} (hm : X.mg "range" = none) (ha : Ev X a ρ (.int i)) (hb : Ev X b ρ (.int j)) (h0 : -(2 ^ 62)≤i) (h0' : i < 2 ^ 62) (h1 : -(2 ^ 62)≤j) (h2 : j < 2 ^ 62) (hg : Gl X "range" := by rfl)
    (hs : starEach [a,b] X.env = [(false,eval a X.env),(false,eval b X.env)] := by rfl) (hs2 : starEach [b] X.env = [(false,eval b X.env)] := by rfl) :
    Wk X (λ _ => True) tg (.Call (.Name "range" p) [a,b] [] pos) ρ ((List.range (j - i).toNat).map λ (t : Nat) => D.int (i + t)) := by
  refine PI.imp (pi_range2 hg hm (ea_cons ha (ea_cons hb ea_nil hs2) (hs.trans (by rw [hs2]))) hs hs2) ?_
  rintro σ H R ⟨r,q⟩
  refine ⟨r.e,λ vs H1 s1 h3' => ?_⟩
  obtain ⟨v,v',rfl,h3,h4⟩ := two_inv h3'
  cases h3.int_inv
  cases h4.int_inv
  exact ⟨i,j,rfl,⟨h0,h0',h1,h2⟩,q _ H1 s1 srcS_R⟩
theorem do_for (n : Nat) {x : Str} {p' : Pos} {Ok : Ro→Prop} (Iv : Nat→Ro→Prop) (M : Ro→Prop) (hp : PassesOwn (model X.prog X.w) X.A X.env X.xe) (hc : X.calm = true) (he : Wk X Ok (.Name x p') e ρ ds) (hz : ∀ d∈ds,Fz d) (hok : ∀ i ρ,Iv i ρ→Ok ρ) (h0 : Iv 0 ρ)
    (hs : ∀ (i : Nat) (d : D) (ρ : Ro),ds[i]? = some d → Iv i ρ → Do X A (ρ.set n (some d)) { nx := Iv (i + 1),rt := P.rt,bk := M,ct := Iv (i + 1) }) (hd : ∀ ρ,Iv ds.length ρ → M ρ)
    (h : ∀ ρ',M ρ' → Do X rest ρ' P) (hN : X.N.Nodup) (hi : X.N[n]? = some x := by rfl) (hx : Loc X.env.scope x := by first | exact Or.inl rfl | exact Or.inr rfl)
    (hf : X.fn x = true ∨ X.env.scope.names.lookup x = some .local := by first | exact .inl rfl | exact .inr rfl) (hset : ∀ x,foldedSetIterable e X.env x = pure x := by intro _; rfl) : Do X (.For (.Name x p') e A [] pos :: rest) ρ P := by
  refine do_seq (M := M) ?_ h
  have hb : PSs X A (λ D σ H => ∃ i d ρ,ds[i]? = some d ∧ Iv i ρ ∧ tPo X (ρ.set n (some d)) { nx := Iv (i + 1),rt := P.rt,bk := M,ct := Iv (i + 1) } D σ H) :=
    λ pins s σ H D I ⟨i,d,ρ,e1,e2,q⟩ => hs i d ρ e1 e2 pins s σ H D I q
  refine PS.imp (ps_for hp hc he (pg_name hN hi hx hf) hb hset) ?_
  rintro D σ H ⟨r,q1,q2,q3,q4⟩
  refine ⟨r,λ J H1 s1 src => ?_⟩
  have g1 : Go ρ H ρ H1 := Go.same s1
  refine ⟨λ i m σ' H' => m = ds.length - i ∧ i ≤ ds.length ∧ ∃ ρ',Iv i ρ' ∧ RelS X X.H₀ H' σ' ρ' ∧ Go ρ H1 ρ' H',⟨ds.length,by simp,Nat.zero_le _,ρ,h0,r.mono s1,Go.refl ρ H1⟩,?_⟩
  rintro i m σ' H' ⟨rfl,hil,ρ',iv,r',g⟩
  obtain ⟨stop,go⟩ := src ρ' H' σ' g r' (hok i ρ' iv)
  by_cases hlt : i < ds.length
  · obtain ⟨g0,y⟩ := go i ds[i] (by simp [hlt])
    refine .inr ⟨g0,λ σ2 H2 => ∃ ρ2,Iv (i + 1) ρ2 ∧ RelS X X.H₀ H2 σ2 ρ2 ∧ Go ρ H1 ρ2 H2,λ σ2 H2 p2 => ⟨ds.length - (i + 1),by omega,rfl,hlt,p2⟩,λ v H4 hy => ?_⟩
    obtain ⟨rfl,hv⟩ := y v H4 hy
    have fz : Fz ds[i] := hz _ (List.getElem_mem hlt)
    have g2 : Go ρ H1 (ρ'.set n (some ds[i])) H4 := g.trans (Go.set (Same.refl H4) λ a z => (fz.no_own z).elim)
    refine ⟨i,ds[i],ρ',by simp [hlt],iv,r'.set hv n (.inl fz) (λ a z => (fz.no_own z).elim),?_,q2,?_,?_⟩
    · exact λ σ2 H2 ρ2 g' r2 iv2 => ⟨ρ2,iv2,r2,g2.trans g'⟩
    · exact λ σ2 H2 ρ2 g' r2 m => q1 σ2 H2 ρ2 (g1.trans (g2.trans g')) r2 m
    · exact λ σ2 H2 ρ2 g' r2 iv2 => ⟨ρ2,iv2,r2,g2.trans g'⟩
  · have e : i = ds.length := by omega
    subst e
    exact .inl ⟨stop _ (Nat.le_refl _),q1 σ' H' ρ' (g1.trans g) r' (hd ρ' iv)⟩
theorem do_setN (n : Nat) {x : Str} {pos' : Pos} (he : EvN X e ρ ds) (hz : ∀ d∈ds,Fz d) (h : ∀ l,¬ Mu ρ l→Do X rest (ρ.set n (some (.lst l ds))) P) (hN : X.N.Nodup) (hi : X.N[n]? = some x := by rfl) (hx : Loc X.env.scope x := by first | exact Or.inl rfl | exact Or.inr rfl)
    (hs : swapsWith e (some (.Name x pos')) pos.line X.env = pure false := by rfl) (hf : X.fn x = true ∨ X.env.scope.names.lookup x = some .local := by first | exact .inl rfl | exact .inr rfl) : Do X (.Assign [.Name x pos'] e pos :: rest) ρ P := by
  refine do_seq (M := λ ρ' => ∃ l,¬ Mu ρ l ∧ ρ' = ρ.set n (some (.lst l ds))) (PS.imp (ps_set hN hi hx he hs hf) ?_) (λ _ ⟨l,hl,z⟩ => z ▸ h l hl)
  rintro D σ H ⟨r,q1,q2,q3,q4⟩
  refine ⟨r.e,λ l vs H' hl s e1 h' => q1 _ H' _ (Go.set s λ a z => ?_) ((r.mono s).set (.lst e1 h') n (.inr (.inr (.lst hz))) λ a z => ?_) ⟨l,λ m => ?_,rfl⟩⟩
  · cases z
    exact .inr hl
  · cases z
    exact r.same.free hl
  · obtain ⟨ys,z,_⟩ := r.mu m
    rw [hl] at z
    cases z
theorem do_append (n : Nat) {x : Str} {l : Addr} {p1 p2 p3 : Pos} (hρ : ρ[n]? = some (some (.lst l ds))) (he : Ev X e ρ d) (hz : Fz d) (hl : ds.length < 1000000) (hothers : ∀ (j : Nat) (es : List D),j≠n→ρ[j]?≠some (some (.lst l es)))
    (h : Do X rest (ρ.set n (some (.lst l (ds ++ [d])))) P) (hN : X.N[n]? = some x := by rfl) (hv : Vis X.env.scope x := by first | exact Or.inl rfl | exact Or.inr (Or.inl rfl) | exact Or.inr (Or.inr rfl))
    (hd : (x == ("__debug__" : Str)) = false := by decide) (hcd : (x == ("__classdict__" : Str)) = false := by decide)
    (hbase : attributeBase (.Name x p1) "append" X.env (eval (.Name x p1) X.env) = eval (.Name x p1) X.env := by rfl)
    (hfew : ((backTo p3 (starEach [e] X.env)).all (λ x => !x.1) && (backToKw p3 (keywordEach [] X.env)).all (λ x => x.1.isSome) && decide ([e].length + ([] : List Keyword).length + (if ([] : List Keyword).isEmpty then 0 else 1) < 30)) = true := by rfl)
    (hline : (p2.endLine == p3.line) = true := by rfl) (hstar : starEach [e] X.env = [(false,eval e X.env)] := by rfl) (hs : swapsWith (.Call (.Attribute (.Name x p1) "append" p2) [e] [] p3) none pos.line X.env = pure false := by rfl) :
    Do X (.Expr (.Call (.Attribute (.Name x p1) "append" p2) [e] [] p3) pos :: rest) ρ P := by
  refine do_seq (M := λ ρ' => ρ' = ρ.set n (some (.lst l (ds ++ [d])))) (PS.imp (ps_expr (pe_bm PySem.F.plainAttrs_list PySem.F.slot_list_append PySem.F.type_list_append mt_append (pe_var hN hv hd hcd) (ea_cons he ea_nil hstar) hbase hfew hline hstar rfl) hs) ?_) (λ _ z => z ▸ h)
  rintro D σ H ⟨r,q1,q2,q3,q4⟩
  obtain ⟨v,e1,h1,h2⟩ := r.val n _ hρ
  obtain ⟨rfl,xs,hT,hA⟩ := h1.lst_inv
  have fds : ∀ e ∈ ds,Fz e := by
    rcases h2 with z | z | z
    · cases z
    · obtain ⟨_,ys,z,_⟩ := z.lst_inv
      rw [r.own l ⟨n,_,hρ,rfl⟩] at z
      cases z
    · cases z with | lst f => exact f
  refine ⟨_,e1,.inl ⟨rfl,xs,.of hT⟩,r.e,λ vs H2 s2 h3' => ?_⟩
  obtain ⟨v2,rfl,h3⟩ := one_inv h3'
  have hT2 := s2 _ _ hT
  have lx : xs.length = ds.length := hA.length
  refine ⟨l,xs,v2,rfl,rfl,hT2,by rw [sizeLine_eq]; omega,?_⟩
  have kt : KT H2 (upd H2 l (.lst (xs ++ [v2]))) :=
    ⟨λ b xs h => by rw [upd_ne (ne_of h hT2 (by intro z; cases z))]; exact h,λ b o u h => by rw [upd_ne (ne_of h hT2 (by intro z; cases z))]; exact h⟩
  have r2 := r.mono s2
  have h0 : X.H₀ l = none := r.own l ⟨n,_,hρ,rfl⟩
  have same : Same X.H₀ (upd H2 l (.lst (xs ++ [v2]))) := λ b o h => by
    rw [upd_ne (ne_of_none h h0)]
    exact r2.same b o h
  have hnl : n < ρ.length := (List.getElem?_eq_some_iff.mp hρ).1
  have go : Go ρ H (ρ.set n (some (.lst l (ds ++ [d])))) (upd H2 l (.lst (xs ++ [v2]))) := by
    refine ⟨λ b o h nm => ?_,?_⟩
    · have : b ≠ l := λ z => nm (z ▸ ⟨n,_,hρ,rfl⟩)
      rw [upd_ne this]
      exact s2 _ _ h
    · rintro a ⟨j,es,hj,hw⟩
      rcases set_get hj with ⟨rfl,rfl,_⟩ | ⟨_,hj⟩
      · cases hw
        exact .inl ⟨_,_,hρ,rfl⟩
      · exact .inl ⟨j,es,hj,hw⟩
  have own : ∀ a,Mu (ρ.set n (some (.lst l (ds ++ [d])))) a → X.H₀ a = none := by
    rintro a ⟨j,es,hj,hw⟩
    rcases set_get hj with ⟨rfl,rfl,_⟩ | ⟨_,hj⟩
    · cases hw
      exact h0
    · exact r.own a ⟨j,es,hj,hw⟩
  refine q1 _ _ _ go ⟨same,by simp [r.len],λ j e' hj => ?_,own⟩ rfl
  rcases set_get hj with ⟨rfl,rfl,_⟩ | ⟨hne,hj⟩
  · refine ⟨.ref l,e1,.lst upd_same ?_,.inr (.inr (.lst λ e' he' => ?_))⟩
    · exact ((hA.mono s2).keep kt fds).append (.cons (h3.keep kt hz) .nil)
    · rcases List.mem_append.mp he' with z | z
      · exact fds _ z
      · rw [List.mem_singleton.mp z]; exact hz
  · obtain ⟨u,f1,f2,f3⟩ := r2.val j e' hj
    refine ⟨u,f1,?_,f3⟩
    rcases f3 with z | z | z
    · exact f2.keep kt z
    · exact z.mono same
    · exact z.keep f2 kt λ a ha => upd_ne (ne_list f2 ha hT2 λ es ez => hothers j es hne (ez ▸ hj))
end
end FL
namespace FL
open PySem PySem.Spec PyProof.Rows L2
mutual
inductive Cm : Nat → D → D → Prop
  | non {n : Nat} : Cm n .non .non
  | bl {n : Nat} (a b : Bool) : Cm n (.bl a) (.bl b)
  | int {n : Nat} (i j : Int) : Cm n (.int i) (.int j)
  | str {n : Nat} (x y : Str) : Cm n (.str x) (.str y)
  | tup {n : Nat} {ds es : List D} (h : Cms n ds es) : Cm (n + 1) (.tup ds) (.tup es)
  | fl {n : Nat} {ds es : List D} (h : Cms n ds es) : Cm (n + 1) (.fl ds) (.fl es)
inductive Cms : Nat → List D → List D → Prop
  | nil {n : Nat} : Cms n [] []
  | short {n : Nat} (e : D) (es : List D) : Cms n [] (e :: es)
  | long {n : Nat} (d : D) (ds : List D) : Cms n (d :: ds) []
  | cons {n : Nat} {d e : D} {ds es : List D} (h : Cm n d e) (r : Cms n ds es) : Cms n (d :: ds) (e :: es)
end
theorem Cms.ints {n : Nat} : ∀ (ns ms : List Int),Cms n (ns.map D.int) (ms.map D.int)
  | [],[] => .nil
  | [],m :: ms => .short _ _
  | n :: ns,[] => .long _ _
  | n :: ns,m :: ms => .cons (.int n m) (Cms.ints ns ms)
theorem Cm.ints {n : Nat} (ns ms : List Int) : Cm (n + 1) (.tup (ns.map D.int)) (.tup (ms.map D.int)) := .tup (Cms.ints ns ms)
theorem Cms.get {n : Nat} : ∀ {ds es : List D},Cms n ds es→∀ (j : Nat) (d e : D),ds[j]? = some d→es[j]? = some e→Cm n d e
  | _,_,.nil,j,d,e,h,_ => by simp at h
  | _,_,.short _ _,j,d,e,h,_ => by simp at h
  | _,_,.long _ _,j,d,e,_,h => by simp at h
  | _,_,.cons h r,0,d,e,h1,h2 => by simp at h1 h2; subst h1 h2; exact h
  | _,_,.cons h r,j + 1,d,e,h1,h2 => Cms.get r j d e (by simpa using h1) (by simpa using h2)
open Classical in
noncomputable def eqb (d e : D) : Bool := decide (d = e)
open Classical in
theorem eqb_iff {d e : D} : eqb d e = true↔d = e := by unfold eqb; exact decide_eq_true_iff
theorem eqb_of {d e : D} {k : Bool} (h : k = true↔d = e) : eqb d e = k := by
  cases k with
  | true => exact eqb_iff.mpr (h.mp rfl)
  | false =>
    cases q : eqb d e with
    | false => rfl
    | true => exact absurd (h.mpr (eqb_iff.mp q)) Bool.false_ne_true
section
variable {X : Cx} {pins : List (Addr × Obj)} {σ : L2.St} {H : Hp} {s : Shared}
mutual
theorem Is.inj (I : L2.Inv X pins σ H s) : ∀ {n : Nat} {d e : D} {v : V},Cm n d e→Is X.K H v d→Is X.K H v e→d = e
  | _,_,_,_,.non,_,_ => rfl
  | _,_,_,_,.bl a b,h1,h2 => by cases h1.bl_inv; cases h2.bl_inv; rfl
  | _,_,_,_,.int a b,h1,h2 => by cases h1.int_inv; cases h2.int_inv; rfl
  | _,_,_,_,.str a b,h1,h2 => by cases h1.str_inv; cases h2.str_inv; rfl
  | _,_,_,_,.tup c,h1,h2 => by
    obtain ⟨a,xs,rfl,t1,r1⟩ := h1.tup_inv
    obtain ⟨a',ys,z,t2,r2⟩ := h2.tup_inv
    cases z
    cases I.tuple_inj t1 t2
    rw [IsAll.inj I c r1 r2]
  | _,_,_,_,.fl c,h1,h2 => by
    obtain ⟨a,o,xs,rfl,t1,r1⟩ := h1.fl_inv
    obtain ⟨a',o',ys,z,t2,r2⟩ := h2.fl_inv
    cases z
    rw [t1] at t2
    cases t2
    rw [IsAll.inj I c r1 r2]
theorem IsAll.inj (I : L2.Inv X pins σ H s) : ∀ {n : Nat} {ds es : List D} {vs : List V},Cms n ds es→IsAll X.K H vs ds→IsAll X.K H vs es→ds = es
  | _,_,_,_,.nil,_,_ => rfl
  | _,_,_,_,.short _ _,h1,h2 => by have a := h1.length; have b := h2.length; rw [a] at b; simp at b
  | _,_,_,_,.long _ _,h1,h2 => by have a := h1.length; have b := h2.length; rw [a] at b; simp at b
  | _,_,_,_,.cons c r,.cons h1 r1,.cons h2 r2 => by rw [Is.inj I c h1 h2,IsAll.inj I r r1 r2]
end
theorem tup_eq_iff {ds es : List D} : D.tup ds = D.tup es↔ds.length = es.length∧∀ (j : Nat) (d e : D),ds[j]? = some d→es[j]? = some e→d = e := by
  constructor
  · intro h
    cases h
    exact ⟨rfl,λ j d e h1 h2 => by rw [h1] at h2; exact Option.some.inj h2⟩
  · rintro ⟨h1,h2⟩
    congr 1
    refine List.ext_getElem? λ j => ?_
    by_cases hj : j < ds.length
    · have hj' : j < es.length := by omega
      rw [List.getElem?_eq_getElem hj,List.getElem?_eq_getElem hj',h2 j _ _ (List.getElem?_eq_getElem hj) (List.getElem?_eq_getElem hj')]
    · rw [List.getElem?_eq_none (by omega),List.getElem?_eq_none (by omega)]
noncomputable def fEq (ds es : List D) (j : Nat) : Bool := match ds[j]?,es[j]? with
  | some d,some e => eqb d e
  | _,_ => true
theorem fEq_at {ds es : List D} {j : Nat} {d e : D} (h1 : ds[j]? = some d) (h2 : es[j]? = some e) : fEq ds es j = eqb d e := by
  unfold fEq
  rw [h1,h2]
theorem fEq_all {ds es : List D} {n m : Nat} (l1 : n = ds.length) (l2 : m = es.length) : eqb (.tup ds) (.tup es) = ((List.range (min n m)).all (fEq ds es) && n == m) := by
  subst l1 l2
  refine eqb_of ?_
  rw [tup_eq_iff,Bool.and_eq_true,List.all_eq_true,beq_iff_eq]
  simp only [List.mem_range]
  constructor
  · rintro ⟨g1,g2⟩
    refine ⟨g2,λ j d e hd he => ?_⟩
    have hj : j < ds.length := (List.getElem?_eq_some_iff.mp hd).1
    have := g1 j (by omega)
    rw [fEq_at hd he] at this
    exact eqb_iff.mp this
  · rintro ⟨g2,g1⟩
    refine ⟨λ j hj => ?_,g2⟩
    have d1 : ds[j]? = some ds[j] := List.getElem?_eq_getElem (by omega)
    have d2 : es[j]? = some es[j] := List.getElem?_eq_getElem (by omega)
    rw [fEq_at d1 d2]
    exact eqb_iff.mpr (g1 j _ _ d1 d2)
theorem eqb_fl {ds es : List D} : eqb (.fl ds) (.fl es) = eqb (.tup ds) (.tup es) := eqb_of (by rw [eqb_iff]; constructor <;> intro h <;> cases h <;> rfl)
theorem fEq_items {A : Around} {xs ys : List V} {us ws : List Value} {ds es : List D} (q1 : IsAll X.K H xs ds) (q2 : IsAll X.K H ys es) (w1 : Vals xs us) (w2 : Vals ys ws)
    (hit : ∀ (j : Nat) (d e : D) (v1 v2 : V) (u1 u2 : Value),ds[j]? = some d → es[j]? = some e → Is X.K H v1 d → Is X.K H v2 e → RelV v1 u1 → RelV v2 u2 → SeqAt.EqAt A s u1 u2 (eqb d e)) :
    ∀ (j : Nat) (h1 : j < us.toArray.size) (h2 : j < ws.toArray.size),SeqAt.EqAt A s us.toArray[j] ws.toArray[j] (fEq ds es j) := by
  intro j h1 h2
  have l1 : us.length = ds.length := by rw [← w1.length,q1.length]
  have l2 : ws.length = es.length := by rw [← w2.length,q2.length]
  have j1 : j < us.length := by simpa using h1
  have j2 : j < ws.length := by simpa using h2
  have d1 : ds[j]? = some ds[j] := List.getElem?_eq_getElem (by omega)
  have d2 : es[j]? = some es[j] := List.getElem?_eq_getElem (by omega)
  obtain ⟨v1,g1,i1⟩ := q1.get d1
  obtain ⟨v2,g2,i2⟩ := q2.get d2
  obtain ⟨u1,g3,k1⟩ := w1.get g1
  obtain ⟨u2,g4,k2⟩ := w2.get g2
  have e1 : us.toArray[j] = u1 := by
    have : us[j]? = some us[j] := List.getElem?_eq_getElem j1
    rw [g3] at this
    simpa using (Option.some.inj this).symm
  have e2 : ws.toArray[j] = u2 := by
    have : ws[j]? = some ws[j] := List.getElem?_eq_getElem j2
    rw [g4] at this
    simpa using (Option.some.inj this).symm
  rw [e1,e2,fEq_at d1 d2]
  exact hit j _ _ v1 v2 u1 u2 d1 d2 i1 i2 k1 k2
theorem eqAt_D (I : L2.Inv X pins σ H s) : ∀ {n : Nat} {d e : D} {v u : V} {v' u' : Value} (A : Around),Cm n d e→A.units + n < cLine→Is X.K H v d→Is X.K H u e→RelV v v'→RelV u u'→SeqAt.EqAt A s v' u' (eqb d e)
  | n,_,_,v,u,v',u',A,.non,_,h1,h2,r1,r2 => by
    cases h1.non_inv; cases h2.non_inv; cases r1; cases r2
    rw [eqb_of (k := true) (by simp)]
    exact SeqAt.EqAt.same _
  | n,_,_,v,u,v',u',A,.bl a b,_,h1,h2,r1,r2 => by
    cases h1.bl_inv; cases h2.bl_inv
    rw [eqb_of (k := eqV (.bl a) (.bl b)) (by show (a == b) = true ↔ _; simp)]
    exact eqAt_V r1 r2 rfl rfl
  | n,_,_,v,u,v',u',A,.int a b,_,h1,h2,r1,r2 => by
    cases h1.int_inv; cases h2.int_inv
    rw [eqb_of (k := eqV (.int a) (.int b)) (by show (a == b) = true ↔ _; simp)]
    exact eqAt_V r1 r2 rfl rfl
  | n,_,_,v,u,v',u',A,.str a b,_,h1,h2,r1,r2 => by
    cases h1.str_inv; cases h2.str_inv
    rw [eqb_of (k := eqV (.str a) (.str b)) (by show (a == b) = true ↔ _; simp)]
    exact eqAt_V r1 r2 rfl rfl
  | n + 1,.tup ds,.tup es,v,u,v',u',A,.tup c,hu,h1,h2,r1,r2 => by
    obtain ⟨a,xs,rfl,t1,q1⟩ := h1.tup_inv
    obtain ⟨b,ys,rfl,t2,q2⟩ := h2.tup_inv
    cases r1
    cases r2
    by_cases hab : a = b
    · subst hab
      cases I.tuple_inj t1 t2
      rw [IsAll.inj I c q1 q2,eqb_of (k := true) (by simp)]
      exact SeqAt.EqAt.same _
    · obtain ⟨us,w1,p1,_⟩ := I.tuple t1
      obtain ⟨ws,w2,p2,_⟩ := I.tuple t2
      rw [fEq_all (n := us.toArray.size) (m := ws.toArray.size) (by rw [List.size_toArray,← w1.length,q1.length]) (by rw [List.size_toArray,← w2.length,q2.length])]
      exact SeqAt.EqAt.of_refs hab (SeqAt.RcAt.tuples p1 p2 (by omega) (fEq_items q1 q2 w1 w2 λ j d e v1 v2 u1 u2 d1 d2 i1 i2 k1 k2 => eqAt_D I A.in1 (c.get j _ _ d1 d2) (by show A.units + 1 + n < cLine; omega) i1 i2 k1 k2))
  | n + 1,.fl ds,.fl es,v,u,v',u',A,.fl c,hu,h1,h2,r1,r2 => by
    obtain ⟨a,o,xs,rfl,t1,q1⟩ := h1.fl_inv
    obtain ⟨b,o',ys,rfl,t2,q2⟩ := h2.fl_inv
    cases r1
    cases r2
    by_cases hab : a = b
    · subst hab
      rw [t1] at t2
      cases t2
      rw [IsAll.inj I c q1 q2,eqb_of (k := true) (by simp)]
      exact SeqAt.EqAt.same _
    · obtain ⟨us,w1,p1,_⟩ := I.list (.inl (.inr ⟨o,t1⟩))
      obtain ⟨ws,w2,p2,_⟩ := I.list (.inl (.inr ⟨o',t2⟩))
      have e1 : us.length = ds.length := by rw [← w1.length,q1.length]
      have e2 : ws.length = es.length := by rw [← w2.length,q2.length]
      rw [eqb_fl,fEq_all (n := us.length) (m := ws.length) e1 e2]
      by_cases hz : us.length = ws.length
      · have ek : (List.range us.toArray.size).all (fEq ds es) = ((List.range (min us.length ws.length)).all (fEq ds es) && us.length == ws.length) := by
          rw [List.size_toArray,show min us.length ws.length = us.length by omega,show (us.length == ws.length) = true by simp; omega,Bool.and_true]
        rw [← ek]
        exact SeqAt.EqAt.of_refs hab (SeqAt.RcAt.lists p1.isList p2.isList (by simp; omega) (by omega) (fEq_items q1 q2 w1 w2 λ j d e v1 v2 u1 u2 d1 d2 i1 i2 k1 k2 => eqAt_D I A.in1 (c.get j _ _ d1 d2) (by show A.units + 1 + n < cLine; omega) i1 i2 k1 k2))
      · have ek : ((List.range (min us.length ws.length)).all (fEq ds es) && us.length == ws.length) = false := by
          rw [show (us.length == ws.length) = false by simpa using hz,Bool.and_false]
        rw [ek]
        exact SeqAt.EqAt.of_refs hab (SeqAt.RcAt.lists_lengths p1.isList p2.isList (by simpa using hz) (by omega))
end
section
variable {X : Cx}
def rEqT (X : Cx) (neg : Bool) : R2 := λ x y H Q => ∃ n ds es,Cm (n + 1) (.tup ds) (.tup es)∧X.A.units + n + 1 < cLine∧Is X.K H x (.tup ds)∧Is X.K H y (.tup es)∧Q (.bl (if neg then !eqb (.tup ds) (.tup es) else eqb (.tup ds) (.tup es))) H
theorem op_eqT : OpR X (compareOp .Eq) (rEqT X false) := by
  intro pins s σ H x y v u Q I rx ry h
  obtain ⟨n,ds,es,c,hu,h1,h2,q⟩ := h
  obtain ⟨a,xs,rfl,t1,q1⟩ := h1.tup_inv
  obtain ⟨b,ys,rfl,t2,q2⟩ := h2.tup_inv
  cases rx
  cases ry
  cases c with
  | tup c =>
    obtain ⟨us,w1,p1,_⟩ := I.tuple t1
    obtain ⟨ws,w2,p2,_⟩ := I.tuple t2
    refine SeqAt.eq_tupleAt p1 p2 (by omega) (fEq_items q1 q2 w1 w2 λ j d e v1 v2 u1 u2 d1 d2 i1 i2 k1 k2 => eqAt_D I X.A.in1 (c.get j _ _ d1 d2) (by show X.A.units + 1 + n < cLine; omega) i1 i2 k1 k2) ?_
    rw [← fEq_all (n := us.toArray.size) (m := ws.toArray.size) (by rw [List.size_toArray,← w1.length,q1.length]) (by rw [List.size_toArray,← w2.length,q2.length])]
    exact ⟨.bl _,H,I,rfl,q⟩
theorem op_neT : OpR X (compareOp .NotEq) (rEqT X true) := by
  intro pins s σ H x y v u Q I rx ry h
  obtain ⟨n,ds,es,c,hu,h1,h2,q⟩ := h
  obtain ⟨a,xs,rfl,t1,q1⟩ := h1.tup_inv
  obtain ⟨b,ys,rfl,t2,q2⟩ := h2.tup_inv
  cases rx
  cases ry
  cases c with
  | tup c =>
    obtain ⟨us,w1,p1,_⟩ := I.tuple t1
    obtain ⟨ws,w2,p2,_⟩ := I.tuple t2
    refine SeqAt.RcNeAt.tuples p1 p2 (by omega) (fEq_items q1 q2 w1 w2 λ j d e v1 v2 u1 u2 d1 d2 i1 i2 k1 k2 => eqAt_D I X.A.in1 (c.get j _ _ d1 d2) (by show X.A.units + 1 + n < cLine; omega) i1 i2 k1 k2) _ _ _ _ ?_
    rw [← fEq_all (n := us.toArray.size) (m := ws.toArray.size) (by rw [List.size_toArray,← w1.length,q1.length]) (by rw [List.size_toArray,← w2.length,q2.length])]
    exact ⟨.bl _,H,I,rfl,q⟩
variable {e a b c : Expr} {es : List Expr} {ρ : Ro} {d : D} {ds fs : List D} {pos : Pos} {i j : Int} {k k' : Bool}
theorem rEqT_of {n m : Nat} {neg : Bool} (hr : Room m X.A) (c : Cm (n + 1) (.tup ds) (.tup fs)) (hn : n≤60) (hk : d = .bl (if neg then !eqb (.tup ds) (.tup fs) else eqb (.tup ds) (.tup fs))) :
    ∀ v1 v2 H Q,Is X.K H v1 (.tup ds) → Is X.K H v2 (.tup fs) → (∀ v H',Same H H' → Is X.K H' v d → Q v H') → rEqT X neg v1 v2 H Q :=
  λ _ _ H _ h1 h2 q => ⟨n,ds,fs,c,(by have := hr.units; omega),h1,h2,q _ H (Same.refl H) (hk ▸ .bl _)⟩
theorem et_neT {n m : Nat} (hr : Room m X.A) (ha : Ev X a ρ (.tup ds)) (hb : Ev X b ρ (.tup fs)) (c : Cm (n + 1) (.tup ds) (.tup fs)) (hn : n≤60 := by decide) : Et X (.Compare a [.NotEq] [b] pos) ρ (!eqb (.tup ds) (.tup fs)) :=
  et_cmp op_neT ha hb (nomark _) (rEqT_of hr c hn rfl)
theorem evn_list (h : EvA X es ρ ds) (hl : ds.length≤1000 := by exact Nat.le_of_ble_eq_true rfl) : EvN X (.List es pos) ρ ds := by
  refine PE.imp (pe_lst h) ?_
  rintro σ H Q ⟨r,q⟩
  exact ⟨r,λ vs H1 s1 h1 => ⟨by rw [h1.length]; exact Nat.le_of_lt (small1000 hl),λ p hp => q p vs _ (s1.free hp) (s1.trans (same_new hp)) upd_same (h1.mono (same_new hp))⟩⟩
end
def SpL (K : PySem.W.Frag) (Pf : List D→List D→Prop) : Sp := λ vs H Q _ => ∃ ds es,IsAll K H vs ds∧Pf ds es∧∀ a us H',H a = none→Same H H'→H' a = some (.lst us)→IsAll K H' us es→Q (.ref a) H'
def FnL (P : Program) (w : World) (K : PySem.W.Frag) (mg : Str→Option Value) (base : Heap) (k : Nat) (x : Str) (Pf : List D→List D→Prop) : Prop :=
  ∃ f fd ps,FnOk P w K mg base CX0 k f fd ps (SpL K Pf) ∧ mg x = some (.ref f) ∧ PySem.W.keepIn K (.ref f) = true ∧ Binds K fd ps []
section
variable {X : Cx} {e a b c : Expr} {es : List Expr} {ρ : Ro} {d : D} {ds : List D} {pos : Pos} {rest : List Stmt} {Q : Po}
theorem evn_call {k : Nat} {x : Str} {Pf : List D→List D→Prop} {fs : List D} {p : Pos} (C : FnL X.prog X.w X.K X.mg X.base k x Pf) (hr : Room k X.A) (ha : EvA X (e :: es) ρ ds) (hp : Pf ds fs) (hg : Gl X x := by rfl) (hdb : (x == ("__debug__" : Str)) = false := by decide)
    (he : starEach (e :: es) X.env = (false,eval e X.env) :: starEach es X.env := by rfl) (hpl : (backTo pos (starEach es X.env)).any (·.1) = false := by rfl) : EvN X (.Call (.Name x p) (e :: es) [] pos) ρ fs := by
  obtain ⟨f,fd,ps,F,hm,hk,hb⟩ := C
  refine PE.imp (pe_call F hr hg hm hk hb .nil pass0 ha hdb he hpl) ?_
  rintro σ H Q ⟨r,q⟩
  refine ⟨r,λ vs H1 s1 h1 => ⟨ds,fs,?_,hp,λ v us H' hv s' e' h' => q v us H' (s1.free hv) (s1.trans s') e' h'⟩⟩
  rw [List.append_nil]
  exact h1
theorem do_retL (he : EvN X e ρ ds) (h : ∀ l,Q.rt (.lst l ds)) : Do X (.Return (some e) pos :: rest) ρ Q := by
  refine PSs.imp (pss_cons (u := tNever) (ps_ret he) pss_never) ?_
  rintro D σ H ⟨r,q1,q2,q3,q4⟩
  exact ⟨r.e,λ l vs H' hl s e' h' => q2 _ H' _ (r.same.trans s) (.lst e' h') (λ a z => by cases z; exact r.same.free hl) (h l)⟩
end
section
variable {P : Program} {w : World} {K : PySem.W.Frag} {mg : Str→Option Value} {base : Heap}
theorem fnl_mk {x qual : Str} {st : Stmt} {f : Addr} {fd : FuncData} {N ps : List Str} {k : Nat} {Pf : List D→List D→Prop} (F : Fun K x qual st f fd) (S : FnScope N ps (defScope st)) (hm : mg x = some (.ref f)) (hb : Binds K fd ps [])
    (hl : ∀ ds es,Pf ds es → ds.length = ps.length ∧ ∀ d ∈ ds,ownA d = none)
    (hbody : ∀ (cdv : Value) (A : Around) (outer : List Env) (s : Shared) (H : Hp) (E : XK),Room k (A.deeper (envOfC qual (defScope st) s.heap.objs.size f cdv)) → ∀ ds es,Pf ds es →
      Do (cxD P w K mg base N qual st f cdv A outer s H E) (defBody st) (ini N ds) { nx := λ _ => False,rt := λ d' => ∃ l,d' = .lst l es }) : FnL P w K mg base (k + 1) x Pf := by
  refine ⟨f,fd,ps,F.ok S (λ vs H Q E h => ?_) (λ cdv A outer s H vs Q E hr h => ?_),hm,F.kp,hb⟩
  · obtain ⟨ds,es,h1,h2,_⟩ := h
    rw [h1.length]
    exact (hl ds es h2).1
  · obtain ⟨ds,es,h1,h2,q⟩ := h
    refine ⟨_,hbody cdv A outer s H E hr ds es h2,?_⟩
    refine ⟨relS_start (X := cxD P w K mg base N qual st f cdv A outer s H E) h1 (hl ds es h2).2,λ _ _ _ _ _ z => z.elim,λ v H' d' sm hv fr z => ?_,λ _ _ _ _ _ z => z.elim,λ _ _ _ _ _ z => z.elim⟩
    obtain ⟨l,z⟩ : ∃ l,d' = .lst l es := z
    subst z
    obtain ⟨rfl,us,e1,e2⟩ := hv.lst_inv
    exact q l us H' (fr l rfl) sm e1 e2
end
end FL
namespace FL
open PySem PySem.Spec PyProof.Rows L2
def tR (X : Cx) (ρ : Ro) (R : D→Prop) : TE := λ σ H Q => RelE X H σ ρ∧∀ d v H',R d→Same H H'→Is X.K H' v d→Q v H'
def tRs (X : Cx) (ρ : Ro) (R : List D→Prop) : TA := λ σ H Q => RelE X H σ ρ∧∀ ds vs H',R ds→Same H H'→IsAll X.K H' vs ds→Q vs H'
def EvR (X : Cx) (e : Expr) (ρ : Ro) (R : D→Prop) : Prop := PE X e (tR X ρ R)
def EvAR (X : Cx) (es : List Expr) (ρ : Ro) (R : List D→Prop) : Prop := PA X es (tRs X ρ R)
section
variable {X : Cx} {e a b c : Expr} {es : List Expr} {ρ : Ro} {d : D} {ds : List D} {pos : Pos} {i j : Int} {rest : List Stmt} {P : Po} {R S : D→Prop} {Rs : List D→Prop}
theorem EvR.imp (h : EvR X e ρ R) (f : ∀ d,R d→S d) : EvR X e ρ S := PE.imp h λ _ _ _ ⟨r,q⟩ => ⟨r,λ d v H' x s h => q d v H' (f d x) s h⟩
theorem EvA.r (h : EvA X es ρ ds) : EvAR X es ρ (λ x => x = ds) := PA.imp h λ _ _ _ ⟨r,q⟩ => ⟨r,λ v H' s h => q ds v H' rfl s h⟩
theorem evr_ix (ha : EvR X a ρ R) (hb : Ev X b ρ (.int i)) (h : ∀ d,R d→∃ ds d',d = .tup ds∧atI ds i = some d'∧S d') (hs : PlainIx b := by exact λ _ _ => rfl) : EvR X (.Subscript a b pos) ρ S :=
  PE.imp (pe_ix ix_tup ha hb hs) λ σ H Q ⟨r,q⟩ => ⟨r,λ d v1 H1 x1 s1 h1 => ⟨r.mono s1,λ v2 H2 s2 h2 => by
    obtain ⟨ds,d',rfl,hi,x2⟩ := h d x1
    obtain ⟨p,xs,rfl,h3,h4⟩ := (h1.mono s2).tup_inv
    obtain ⟨v,e,h5⟩ := atI_map h4 hi
    exact ⟨p,xs,i,v,rfl,h2.int_inv,h3,e,q d' v H2 x2 (s1.trans s2) h5⟩⟩⟩
theorem do_setR (n : Nat) {x : Str} {pos' : Pos} (he : EvR X e ρ R) (hz : ∀ d,R d→Fz d) (h : ∀ d,R d→Do X rest (ρ.set n (some d)) P) (hN : X.N.Nodup) (hi : X.N[n]? = some x := by rfl) (hx : Loc X.env.scope x := by first | exact Or.inl rfl | exact Or.inr rfl)
    (hs : swapsWith e (some (.Name x pos')) pos.line X.env = pure false := by rfl) (hf : X.fn x = true ∨ X.env.scope.names.lookup x = some .local := by first | exact .inl rfl | exact .inr rfl) : Do X (.Assign [.Name x pos'] e pos :: rest) ρ P := by
  refine do_seq (M := λ ρ' => ∃ d,R d ∧ ρ' = ρ.set n (some d)) (PS.imp (ps_set hN hi hx he hs hf) ?_) (λ _ ⟨d,x,z⟩ => z ▸ h d x)
  rintro D σ H ⟨r,q1,q2,q3,q4⟩
  refine ⟨r.e,λ d v H' x s h' => ?_⟩
  exact q1 _ H' _ (Go.set s λ a z => ((hz d x).no_own z).elim) ((r.mono s).set h' n (.inl (hz d x)) λ a z => ((hz d x).no_own z).elim) ⟨d,x,rfl⟩
theorem do_retR (he : EvR X e ρ R) (hz : ∀ d,R d→Fz d) (h : ∀ d,R d→P.rt d) : Do X (.Return (some e) pos :: rest) ρ P := by
  refine PSs.imp (pss_cons (u := tNever) (ps_ret he) pss_never) ?_
  rintro D σ H ⟨r,q1,q2,q3,q4⟩
  exact ⟨r.e,λ d v H' x s h' => q2 v H' d (r.same.trans s) h' (λ a z => ((hz d x).no_own z).elim) (h d x)⟩
end
def SpR (K : PySem.W.Frag) (Pre : List D→Prop) (Post : List D→D→Prop) : Sp := λ vs H Q _ => ∃ ds,IsAll K H vs ds∧Pre ds∧∀ d v H',Post ds d→Same H H'→Is K H' v d→Q v H'
def FnR (P : Program) (w : World) (K : PySem.W.Frag) (mg : Str→Option Value) (base : Heap) (k : Nat) (x : Str) (Pre : List D→Prop) (Post : List D→D→Prop) : Prop :=
  ∃ f fd ps,FnOk P w K mg base CX0 k f fd ps (SpR K Pre Post) ∧ mg x = some (.ref f) ∧ PySem.W.keepIn K (.ref f) = true ∧ Binds K fd ps []
section
variable {X : Cx} {e : Expr} {es : List Expr} {ρ : Ro} {ds : List D} {pos : Pos} {Rs : List D→Prop}
theorem evr_callR {k : Nat} {x : Str} {Pre : List D→Prop} {Post : List D→D→Prop} {p : Pos} (C : FnR X.prog X.w X.K X.mg X.base k x Pre Post) (hr : Room k X.A) (ha : EvAR X (e :: es) ρ Rs) (hp : ∀ ds,Rs ds→Pre ds) (hg : Gl X x := by rfl) (hdb : (x == ("__debug__" : Str)) = false := by decide)
    (he : starEach (e :: es) X.env = (false,eval e X.env) :: starEach es X.env := by rfl) (hpl : (backTo pos (starEach es X.env)).any (·.1) = false := by rfl) : EvR X (.Call (.Name x p) (e :: es) [] pos) ρ (λ d => ∃ ds,Rs ds ∧ Post ds d) := by
  obtain ⟨f,fd,ps,F,hm,hk,hb⟩ := C
  refine PE.imp (pe_call F hr hg hm hk hb .nil pass0 ha hdb he hpl) ?_
  rintro σ H Q ⟨r,q⟩
  refine ⟨r,λ ds vs H1 x1 s1 h1 => ⟨ds,?_,hp ds x1,λ d v H' x2 s' h' => q d v H' ⟨ds,x1,x2⟩ (s1.trans s') h'⟩⟩
  rw [List.append_nil]
  exact h1
theorem evr_call {k : Nat} {x : Str} {Pre : List D→Prop} {Post : List D→D→Prop} {p : Pos} (C : FnR X.prog X.w X.K X.mg X.base k x Pre Post) (hr : Room k X.A) (ha : EvA X (e :: es) ρ ds) (hp : Pre ds) (hg : Gl X x := by rfl) (hdb : (x == ("__debug__" : Str)) = false := by decide)
    (he : starEach (e :: es) X.env = (false,eval e X.env) :: starEach es X.env := by rfl) (hpl : (backTo pos (starEach es X.env)).any (·.1) = false := by rfl) : EvR X (.Call (.Name x p) (e :: es) [] pos) ρ (Post ds) :=
  (evr_callR C hr ha.r (λ _ z => z ▸ hp) hg hdb he hpl).imp λ d ⟨_,z,h⟩ => z ▸ h
end
section
variable {P : Program} {w : World} {K : PySem.W.Frag} {mg : Str→Option Value} {base : Heap}
theorem fnr_mk {x qual : Str} {st : Stmt} {f : Addr} {fd : FuncData} {N ps : List Str} {k : Nat} {Pre : List D→Prop} {Post : List D→D→Prop} (F : Fun K x qual st f fd) (S : FnScope N ps (defScope st)) (hm : mg x = some (.ref f)) (hb : Binds K fd ps [])
    (hl : ∀ ds,Pre ds → ds.length = ps.length ∧ ∀ d ∈ ds,ownA d = none)
    (hbody : ∀ (cdv : Value) (A : Around) (outer : List Env) (s : Shared) (H : Hp) (E : XK),Room k (A.deeper (envOfC qual (defScope st) s.heap.objs.size f cdv)) → ∀ ds,Pre ds →
      Do (cxD P w K mg base N qual st f cdv A outer s H E) (defBody st) (ini N ds) { nx := λ _ => Post ds .non,rt := Post ds }) : FnR P w K mg base (k + 1) x Pre Post := by
  refine ⟨f,fd,ps,F.ok S (λ vs H Q E h => ?_) (λ cdv A outer s H vs Q E hr h => ?_),hm,F.kp,hb⟩
  · obtain ⟨ds,h1,h2,_⟩ := h
    rw [h1.length]
    exact (hl ds h2).1
  · obtain ⟨ds,h1,h2,q⟩ := h
    refine ⟨_,hbody cdv A outer s H E hr ds h2,?_⟩
    exact ⟨relS_start (X := cxD P w K mg base N qual st f cdv A outer s H E) h1 (hl ds h2).2,λ σ' H' ρ' _ r' z => q _ _ H' z r'.same .non,λ v H' d' sm hv _ z => q d' v H' z sm hv,λ _ _ _ _ _ z => z.elim,λ _ _ _ _ _ z => z.elim⟩
end
end FL
namespace FL
open PySem PySem.Spec PyProof.Rows L2
section
variable {X : Cx} {pins : List (Addr × Obj)} {σ : L2.St} {H : Hp} {s : Shared}
theorem Cm.cast {n : Nat} {d e f : D} (h : Cm n d f) (z : e = f) : Cm n d e := z ▸ h
open Classical in
noncomputable def ansU (K : PySem.W.Frag) (H : Hp) (ds : List D) (x : D) (u : Value) : Bool := decide (∃ v d,RelV v u∧Is K H v d∧d∈ds∧d = x)
open Classical in
theorem ansU_at (I : L2.Inv X pins σ H s) {n : Nat} {ds : List D} {x d : D} {v : V} {u : Value} (hc : ∀ d∈ds,Cm n d x) (hd : d∈ds) (h : Is X.K H v d) (r : RelV v u) : ansU X.K H ds x u = eqb d x := by
  rw [Bool.eq_iff_iff,eqb_iff]
  unfold ansU
  rw [decide_eq_true_iff]
  constructor
  · rintro ⟨v',d',r',h',hd',e⟩
    cases r.inj r'
    have c : Cm n d d' := (hc d hd).cast e
    rw [Is.inj I c h h',e]
  · intro e
    exact ⟨v,d,r,h,hd,e⟩
theorem ansU_any (I : L2.Inv X pins σ H s) {n : Nat} {x : D} {ds0 : List D} (hc : ∀ d∈ds0,Cm n d x) : ∀ {vs : List V} {us : List Value} {ds : List D},(∀ d∈ds,d∈ds0)→IsAll X.K H vs ds→Vals vs us→us.any (ansU X.K H ds0 x) = ds.any (λ d => eqb d x)
  | _,_,_,_,.nil,.nil => rfl
  | _,_,_,hs,.cons h q,.cons r t => by
    rw [List.any_cons,List.any_cons,ansU_at I hc (hs _ List.mem_cons_self) h r,ansU_any I hc (λ d hd => hs d (List.mem_cons_of_mem _ hd)) q t]
theorem ansU_items (I : L2.Inv X pins σ H s) {A : Around} {n : Nat} {x : D} {vx : V} {ux : Value} {ds0 : List D} (hc : ∀ d∈ds0,Cm n d x) (hu : A.units + n < cLine) (hx : Is X.K H vx x) (rx : RelV vx ux) :
    ∀ {vs : List V} {us : List Value} {ds : List D},(∀ d ∈ ds,d ∈ ds0) → IsAll X.K H vs ds → Vals vs us → ∀ y ∈ us,SeqAt.EqAt A s y ux (ansU X.K H ds0 x y)
  | _,_,_,_,.nil,.nil => λ y hy => by cases hy
  | _,_,_,hs,.cons h q,.cons r t => λ y hy => by
    rcases List.mem_cons.mp hy with rfl | hy
    · rw [ansU_at I hc (hs _ List.mem_cons_self) h r]
      exact eqAt_D I A (hc _ (hs _ List.mem_cons_self)) hu h hx r rx
    · exact ansU_items I hc hu hx rx (λ d hd => hs d (List.mem_cons_of_mem _ hd)) q t y hy
end
section
variable {X : Cx}
noncomputable def inD (x : D) (ds : List D) : Bool := ds.any λ d => eqb d x
theorem inD_iff {x : D} {ds : List D} : inD x ds = true↔x∈ds := by
  unfold inD
  rw [List.any_eq_true]
  constructor
  · rintro ⟨d,h1,h2⟩
    rw [eqb_iff] at h2
    exact h2 ▸ h1
  · intro h
    exact ⟨x,h,eqb_iff.mpr rfl⟩
def rInD (X : Cx) (neg : Bool) : R2 := λ x y H Q => ∃ n d e ds,Is X.K H x d∧Is X.K H y e∧(lsD e = some ds∨e = .tup ds)∧(∀ z∈ds,Cm n z d)∧X.A.units + n + 1 < cLine∧Q (.bl (if neg then !inD d ds else inD d ds)) H
theorem op_inD : OpR X (compareOp .In) (rInD X false) := by
  intro pins s σ H x y v u Q I rx ry h
  obtain ⟨n,d,e,ds,h1,h2,h3,hc,hu,q⟩ := h
  rcases h3 with h3 | rfl
  · obtain ⟨a,xs,rfl,t,r⟩ := h2.lsD_inv h3
    cases ry
    obtain ⟨us,w1,p1,_⟩ := I.list t
    refine SeqAt.in_listAt (ansU X.K H ds d) p1.isList (λ z hz => ansU_items I hc (by show X.A.units + 1 + n < cLine; omega) h1 rx (λ _ h => h) r w1 z (by simpa using hz)) ?_
    have e' : us.toArray.any (ansU X.K H ds d) = inD d ds := by rw [List.any_toArray]; exact ansU_any I hc (λ _ h => h) r w1
    rw [e']
    exact ⟨.bl _,H,I,rfl,q⟩
  · obtain ⟨a,xs,rfl,t,r⟩ := h2.tup_inv
    cases ry
    obtain ⟨us,w1,p1,_⟩ := I.tuple t
    refine SeqAt.in_tupleAt (ansU X.K H ds d) p1 (λ z hz => ansU_items I hc (by show X.A.units + 1 + n < cLine; omega) h1 rx (λ _ h => h) r w1 z (by simpa using hz)) ?_
    have e' : us.toArray.any (ansU X.K H ds d) = inD d ds := by rw [List.any_toArray]; exact ansU_any I hc (λ _ h => h) r w1
    rw [e']
    exact ⟨.bl _,H,I,rfl,q⟩
variable {e a b c : Expr} {es : List Expr} {ρ : Ro} {d f : D} {ds fs : List D} {pos : Pos} {i j : Int} {k k' : Bool}
theorem rInD_of {n m : Nat} {neg : Bool} {x : D} (hr : Room m X.A) (hf : lsD f = some ds∨f = .tup ds) (hc : ∀ z∈ds,Cm n z x) (hn : n≤60) (hk : d = .bl (if neg then !inD x ds else inD x ds)) :
    ∀ v1 v2 H Q,Is X.K H v1 x → Is X.K H v2 f → (∀ v H',Same H H' → Is X.K H' v d → Q v H') → rInD X neg v1 v2 H Q :=
  λ _ _ H _ h1 h2 q => ⟨n,x,f,ds,h1,h2,hf,hc,(by have := hr.units; omega),q _ H (Same.refl H) (hk ▸ .bl _)⟩
theorem ev_in {n m : Nat} (hr : Room m X.A) (ha : Ev X a ρ d) (hb : Ev X b ρ f) (hf : lsD f = some ds∨f = .tup ds) (hc : ∀ z∈ds,Cm n z d) (hn : n≤60 := by decide) (hm : behindInMarks .In b = false := by rfl) : Ev X (.Compare a [.In] [b] pos) ρ (.bl (inD d ds)) :=
  ev_cmp op_inD ha hb hm (rInD_of hr hf hc hn rfl)
theorem et_in {n m : Nat} (hr : Room m X.A) (ha : Ev X a ρ d) (hb : Ev X b ρ f) (hf : lsD f = some ds∨f = .tup ds) (hc : ∀ z∈ds,Cm n z d) (hn : n≤60 := by decide) (hm : behindInMarks .In b = false := by rfl) : Et X (.Compare a [.In] [b] pos) ρ (inD d ds) :=
  et_cmp op_inD ha hb hm (rInD_of hr hf hc hn rfl)
end
end FL
namespace FT
open PySem PySem.W PyProof.Rows
section
variable {r : Nat→Int} {n : Nat} {p p' : Array Nat}
def Yes {α : Type} (r : Nat→Int) (n : Nat) : KasT α→(α→Prop)→Prop
  | .ret a,Q => Q a
  | .ask i j k,Q => i < n ∧ j < n ∧ Yes r n (k (decide (r i < r j))) Q
theorem Yes.bnd {α β : Type} {f : α→KasT β} {Q : β→Prop} : ∀ (t : KasT α),Yes r n t (λ a => Yes r n (f a) Q)→Yes r n (t.bind f) Q
  | .ret _,h => h
  | .ask _ _ k,h => ⟨h.1,h.2.1,Yes.bnd (k _) h.2.2⟩
def kv (r : Nat→Int) (p : Array Nat) (i : Nat) : Int := r (p.getD i 0)
def Up (r : Nat→Int) (p : Array Nat) (k : Nat) : Prop := ∀ i j,i≤j→j < k→kv r p i≤kv r p j
def Dn (r : Nat→Int) (p : Array Nat) (k : Nat) : Prop := ∀ i j,i≤j→j < k→kv r p j≤kv r p i
def Pm (n : Nat) (p : Array Nat) : Prop := p.Perm (List.range n).toArray
theorem Pm.size (h : Pm n p) : p.size = n := by have := Array.Perm.size_eq h; simpa using this
theorem Pm.lt (h : Pm n p) (hn : 0 < n) (i : Nat) : p.getD i 0 < n := by
  by_cases hi : i < p.size
  · have : p.getD i 0 = p[i] := by simp [Array.getD,hi]
    rw [this]
    have m : p[i] ∈ (List.range n) := by
      have := (Array.perm_iff_toList_perm.mp h).mem_iff (a := p[i])
      simp only [Array.mem_toList_iff,List.toList_toArray] at this
      exact this.mp (by simp)
    exact List.mem_range.mp m
  · have : p.getD i 0 = 0 := by simp [Array.getD,hi]
    omega
theorem kv_eq {q : Array Nat} {i j : Nat} (h : q[i]? = p[j]?) : kv r q i = kv r p j := by
  unfold kv
  congr 1
  rw [Array.getD_eq_getD_getElem?,Array.getD_eq_getD_getElem?,h]
theorem kv_rev {i j : Nat} (hj : j≤p.size) (k : Nat) : kv r (kas_rev p i j) k = if i≤k∧k < j then kv r p (i + j - 1 - k) else kv r p k := by
  have e := getElem?_mirror_all (i := i) hj k
  unfold kas_rev
  by_cases c : i ≤ k ∧ k < j
  · rw [if_pos c] at e ⊢; exact kv_eq e
  · rw [if_neg c] at e ⊢; exact kv_eq e
theorem kv_rev_const {i j : Nat} (hj : j≤p.size) (hc : ∀ k,i≤k→k < j→kv r p k = kv r p (j - 1)) (k : Nat) : kv r (kas_rev p i j) k = kv r p k := by
  rw [kv_rev hj]
  split
  · next c => rw [hc k c.1 c.2]; exact hc _ (by omega) (by omega)
  · rfl
theorem Pm.rev (h : Pm n p) (i j : Nat) : Pm n (kas_rev p i j) := (mirror_perm p i j ((j - i) / 2)).trans h
theorem kv_down {src d : Nat} (hs : src < p.size) (hd : d≤src) (k : Nat) : kv r (bubble p src d) k = if k = src - d then kv r p src else if src - d < k∧k≤src then kv r p (k - 1) else kv r p k := by
  have e := getElem?_bubble hs d hd k
  by_cases c : k = src - d
  · rw [if_pos c] at e ⊢; exact kv_eq e
  · rw [if_neg c] at e ⊢
    by_cases c' : src - d < k ∧ k ≤ src
    · rw [if_pos c'] at e ⊢; exact kv_eq e
    · rw [if_neg c'] at e ⊢; exact kv_eq e
theorem Up.more {m : Nat} (h : Up r p m) (hl : 1≤m) (c : kv r p (m - 1)≤kv r p m) : Up r p (m + 1) := λ i j hij hj => by
  by_cases q : j < m
  · exact h i j hij q
  · have : j = m := by omega
    subst this
    by_cases q2 : i = j
    · rw [q2]; exact Int.le_refl _
    · exact Int.le_trans (h i (j - 1) (by omega) (by omega)) c
theorem Dn.more {m : Nat} (h : Dn r p m) (hl : 1≤m) (c : kv r p m≤kv r p (m - 1)) : Dn r p (m + 1) := λ i j hij hj => by
  by_cases q : j < m
  · exact h i j hij q
  · have : j = m := by omega
    subst this
    by_cases q2 : i = j
    · rw [q2]; exact Int.le_refl _
    · exact Int.le_trans c (h i (j - 1) (by omega) (by omega))
theorem up_one : Up r p 1 := λ i j h1 h2 => by
  have : i = j := by omega
  rw [this]; exact Int.le_refl _
theorem dn_one : Dn r p 1 := λ i j h1 h2 => by
  have : i = j := by omega
  rw [this]; exact Int.le_refl _
theorem Dn.cong {q : Array Nat} {m : Nat} (h : Dn r p m) (e : ∀ k,kv r q k = kv r p k) : Dn r q m := λ i j h1 h2 => by rw [e,e]; exact h i j h1 h2
theorem y_asc (P : Pm n p) (hn : 0 < n) {Q : Nat→Prop} : ∀ (f m : Nat),m + f = n→1≤m→Up r p m→(∀ m',m≤m'→m'≤n→Up r p m'→(m' = n∨kv r p m' < kv r p (m' - 1))→Q m')→Yes r n (kas_asc p f m) Q
  | 0,m,hm,_,h,k => k m (Nat.le_refl _) (by omega) h (.inl (by omega))
  | f + 1,m,hm,h1,h,k => by
    refine ⟨P.lt hn _,P.lt hn _,?_⟩
    by_cases c : kv r p m < kv r p (m - 1)
    · have c' : r (p.getD m 0) < r (p.getD (m - 1) 0) := c
      rw [decide_eq_true c']
      dsimp only
      rw [if_pos rfl]
      exact k m (Nat.le_refl _) (by omega) h (.inr c)
    · have c' : ¬ r (p.getD m 0) < r (p.getD (m - 1) 0) := c
      rw [decide_eq_false c']
      dsimp only
      rw [if_neg Bool.false_ne_true]
      exact y_asc P hn f (m + 1) (by omega) (by omega) (h.more h1 (by omega)) λ m' a b => k m' (by omega) b
theorem y_desc (hn : 0 < n) {Q : Array Nat × Nat × Nat→Prop} : ∀ (f : Nat) (p : Array Nat) (m q : Nat),m + f = n→1≤m→Pm n p→Dn r p m→q + 1≤m→(∀ i,m - (q + 1)≤i→i < m→kv r p i = kv r p (m - 1)) →
    (∀ p' m' q',Pm n p' → m ≤ m' → m' ≤ n → Dn r p' m' → q' + 1 ≤ m' → (∀ i,m' - (q' + 1) ≤ i → i < m' → kv r p' i = kv r p' (m' - 1)) → Q (p',m',q')) → Yes r n (kas_desc f p m q) Q
  | 0,p,m,q,hm,_,P,h,hq,he,k => k p m q P (Nat.le_refl _) (by omega) h hq he
  | f + 1,p,m,q,hm,h1,P,h,hq,he,k => by
    have sz := P.size
    refine ⟨P.lt hn _,P.lt hn _,?_⟩
    by_cases c : kv r p m < kv r p (m - 1)
    · have c' : r (p.getD m 0) < r (p.getD (m - 1) 0) := c
      rw [decide_eq_true c']
      dsimp only
      rw [if_pos rfl]
      have big : Dn r p (m + 1) := h.more h1 (by omega)
      by_cases g : q > 0
      · rw [if_pos g]
        exact y_desc hn f _ (m + 1) 0 (by omega) (by omega) (P.rev _ _) (big.cong λ k => kv_rev_const (by omega) he k) (by omega) (λ i a b => by congr 1; omega) λ p' m' q' x y => k p' m' q' x (by omega)
      · rw [if_neg g]
        exact y_desc hn f _ (m + 1) 0 (by omega) (by omega) P big (by omega) (λ i a b => by congr 1; omega) λ p' m' q' x y => k p' m' q' x (by omega)
    · have c' : ¬ r (p.getD m 0) < r (p.getD (m - 1) 0) := c
      rw [decide_eq_false c']
      dsimp only
      rw [if_neg Bool.false_ne_true]
      refine ⟨P.lt hn _,P.lt hn _,?_⟩
      by_cases d : kv r p (m - 1) < kv r p m
      · have d' : r (p.getD (m - 1) 0) < r (p.getD m 0) := d
        rw [decide_eq_true d']
        dsimp only
        rw [if_pos rfl]
        exact k p m q P (Nat.le_refl _) (by omega) h hq he
      · have d' : ¬ r (p.getD (m - 1) 0) < r (p.getD m 0) := d
        rw [decide_eq_false d']
        dsimp only
        rw [if_neg Bool.false_ne_true]
        have ee : kv r p m = kv r p (m - 1) := by omega
        refine y_desc hn f _ (m + 1) (q + 1) (by omega) (by omega) P (h.more h1 (by omega)) (by omega) (λ i a b => ?_) λ p' m' q' x y => k p' m' q' x (by omega)
        show kv r p i = kv r p m
        by_cases z : i = m
        · rw [z]
        · rw [ee]; exact he i (by omega) (by omega)
theorem y_tail (hn : 0 < n) {m : Nat} {Q : Nat × Array Nat→Prop} (P : Pm n p) (h1 : 1≤m) (h2 : m≤n) (h : Dn r p m) (k : ∀ m' p',Pm n p'→1≤m'→m'≤n→Up r p' m'→Q (m',p')) : Yes r n (kas_tail3 m n p) Q := by
  have sz := P.size
  unfold kas_tail3
  refine Yes.bnd _ (y_asc (P.rev 0 m) hn (n - m) m (by omega) h1 (λ i j a b => ?_) λ m' a b c _ => k m' _ (P.rev 0 m) (by omega) b c)
  rw [kv_rev (by omega),kv_rev (by omega),if_pos (by omega),if_pos (by omega)]
  exact h _ _ (by omega) (by omega)
theorem y_descPart (hn : 0 < n) {m : Nat} {Q : Nat × Array Nat→Prop} (P : Pm n p) (h2 : m + 1≤n) (h : Dn r p (m + 1)) (k : ∀ m' p',Pm n p'→1≤m'→m'≤n→Up r p' m'→Q (m',p')) : Yes r n (kas_descPart m n p) Q := by
  unfold kas_descPart
  refine Yes.bnd _ (y_desc hn (n - (m + 1)) p (m + 1) 0 (by omega) (by omega) P h (by omega) (λ i a b => by congr 1; omega) λ p' m' q' P' a b c d e => ?_)
  have sz := P'.size
  dsimp only
  by_cases g : q' > 0
  · rw [if_pos g]
    exact y_tail hn (P'.rev _ _) (by omega) b (c.cong λ k => kv_rev_const (by omega) e k) k
  · rw [if_neg g]
    exact y_tail hn P' (by omega) b c k
theorem y_count (hn : 0 < n) {Q : Nat × Array Nat→Prop} (P : Pm n p) (k : ∀ m' p',Pm n p'→1≤m'→m'≤n→Up r p' m'→Q (m',p')) : Yes r n (kas_count n p) Q := by
  have sz := P.size
  unfold kas_count
  refine Yes.bnd _ (y_asc P hn (n - 1) 1 (by omega) (Nat.le_refl _) up_one λ m a b c d => ?_)
  by_cases g : m = n
  · rw [if_pos (by simpa using g)]
    exact k m p P a b c
  · rw [if_neg (by simpa using g)]
    have dl : kv r p m < kv r p (m - 1) := d.resolve_left g
    by_cases g1 : m > 1
    · rw [if_pos g1]
      refine ⟨P.lt hn _,P.lt hn _,?_⟩
      by_cases q : kv r p 0 < kv r p (m - 1)
      · have q' : r (p.getD 0 0) < r (p.getD (m - 1) 0) := q
        rw [decide_eq_true q']
        dsimp only
        rw [if_pos rfl]
        exact k m p P a b c
      · have q' : ¬ r (p.getD 0 0) < r (p.getD (m - 1) 0) := q
        rw [decide_eq_false q']
        dsimp only
        rw [if_neg Bool.false_ne_true]
        have flat : ∀ i,0 ≤ i → i < m → kv r p i = kv r p (m - 1) := λ i _ hi => by
          have a1 := c 0 i (by omega) hi
          have a2 := c i (m - 1) (by omega) (by omega)
          omega
        have dn : Dn r p m := λ i j x y => by rw [flat i (by omega) (by omega),flat j (by omega) y]; exact Int.le_refl _
        exact y_descPart hn (P.rev _ _) (by omega) ((dn.more (by omega) (by omega)).cong λ k => kv_rev_const (by omega) flat k) k
    · rw [if_neg g1]
      have : m = 1 := by omega
      subst this
      exact y_descPart hn P (by omega) (dn_one.more (by omega) (by omega)) k
theorem y_place (P : Pm n p) (hn : 0 < n) {k : Nat} (hk : k < n) (hs : Up r p k) {Q : Nat→Prop} (fin : ∀ l,l≤k→(∀ i,i < l→kv r p i≤kv r p k)→(∀ i,l≤i→i < k→kv r p k < kv r p i)→Q l) :
    ∀ (f l u : Nat),u - l ≤ f → l ≤ u → u ≤ k → (∀ i,i < l → kv r p i ≤ kv r p k) → (∀ i,u ≤ i → i < k → kv r p k < kv r p i) → Yes r n (kas_place p k f l u) Q
  | 0,l,u,hf,hl,hu,lo,hi => fin l (by omega) lo λ i a b => hi i (by omega) b
  | f + 1,l,u,hf,hl,hu,lo,hi => by
    unfold kas_place
    by_cases g : l ≥ u
    · rw [if_pos g]
      exact fin l (by omega) lo λ i a b => hi i (by omega) b
    · rw [if_neg g]
      refine ⟨P.lt hn _,P.lt hn _,?_⟩
      by_cases c : kv r p k < kv r p ((l + u) / 2)
      · have c' : r (p.getD k 0) < r (p.getD ((l + u) / 2) 0) := c
        rw [decide_eq_true c']
        dsimp only
        rw [if_pos rfl]
        refine y_place P hn hk hs fin f _ _ (by omega) (by omega) (by omega) lo λ i a b => ?_
        exact Int.lt_of_lt_of_le c (hs _ _ a b)
      · have c' : ¬ r (p.getD k 0) < r (p.getD ((l + u) / 2) 0) := c
        rw [decide_eq_false c']
        dsimp only
        rw [if_neg Bool.false_ne_true]
        refine y_place P hn hk hs fin f _ _ (by omega) (by omega) (by omega) (λ i a => ?_) hi
        have := hs i ((l + u) / 2) (by omega) (by omega)
        omega
theorem y_bin (hn : 0 < n) {Q : Array Nat→Prop} (fin : ∀ p',Pm n p'→Up r p' n→Q p') : ∀ (f : Nat) (p : Array Nat) (k : Nat),k + f = n→1≤k→Pm n p→Up r p k→Yes r n (kas_bin f p k) Q
  | 0,p,k,hk,_,P,h => fin p P ((show k = n by omega) ▸ h)
  | f + 1,p,k,hk,h1,P,h => by
    unfold kas_bin
    have sz := P.size
    refine Yes.bnd _ (y_place P hn (by omega) h (λ l hl lo hi => ?_) k 0 k (by omega) (by omega) (Nat.le_refl _) (λ i a => by omega) λ i a b => by omega)
    refine y_bin hn fin f _ (k + 1) (by omega) (by omega) ((bubble_perm p k (k - l)).trans P) λ i j a b => ?_
    have e : k - (k - l) = l := by omega
    rw [kv_down (by omega) (by omega),kv_down (by omega) (by omega),e]
    repeat' split
    all_goals first | exact Int.le_refl _ | (exfalso; omega) | exact lo i (by omega) | exact Int.le_of_lt (hi (j - 1) (by omega) (by omega)) | exact h _ _ (by omega) (by omega)
theorem y_sort (hn : 0 < n) {Q : Array Nat→Prop} (fin : ∀ p',Pm n p'→Up r p' n→Q p') : Yes r n (kas_sort n) Q := by
  unfold kas_sort
  refine Yes.bnd _ (y_count hn (Array.Perm.refl _) λ m p' P h1 h2 h => ?_)
  dsimp only
  have e : max m 1 = m := by omega
  by_cases g : m < n
  · rw [if_pos g,e]
    exact y_bin hn fin _ _ _ (by omega) h1 P h
  · rw [if_neg g]
    exact fin p' P ((show m = n by omega) ▸ h)
theorem Yes.wp {α : Type} {cmp : Nat→Nat→(Bool→Shared→Prop)→Shared→Prop} {s : Shared} (hc : ∀ i j C,i < n→j < n→C (decide (r i < r j)) s→cmp i j C s) {Q : α→Shared→Prop} : ∀ (t : KasT α),Yes r n t (λ a => Q a s)→t.kasWp cmp Q s
  | .ret _,h => h
  | .ask i j k,h => hc i j _ h.1 h.2.1 (Yes.wp hc (k _) h.2.2)
end
end FT
namespace FT
open PySem PySem.W PySem.Calls PyProof.Rows
def Kp (h h' : Heap) : Prop := ∀ b o,h.get? b = some o→h'.get? b = some o
theorem Kp.trans {h h1 h2 : Heap} (a : Kp h h1) (b : Kp h1 h2) : Kp h h2 := λ c o e => b c o (a c o e)
theorem Kp.push (h : Heap) (o : Obj) : Kp h (h.push o) := λ _ _ e => Heap.get?_push_of_some o e
theorem Kp.but {h h1 h2 : Heap} {d : Addr} (a : Kp h h1) (hd : h.objs.size≤d) (b : Heap.SameBut d h1 h2) : Kp h h2 := λ c o e =>
  (b.2 c (Nat.ne_of_lt (Nat.lt_of_lt_of_le (Heap.lt_size e) hd))).trans (a c o e)
section
variable {prog : Program} {w : World} {A : Around} {E : Value→Shared→Prop} {s : Shared} {vs : List Value} {r : Nat→Int} {κ : SortKind}
abbrev outs (vs : List Value) (p : Array Nat) : List Value := p.toList.map λ i => vs.getD i Value.none
theorem lsort_raw {a n : Nat} {P : PySem.Fin→Shared→Prop} {h0 : Heap} (K0 : Kp h0 s.heap) (ha : h0.objs.size≤a) (ho : s.heap.get? a = some (seqObj "list" vs.toArray n)) (h2 : 2≤vs.length) (h64 : vs.length < 64)
    (hk : ∀ h' C,Kp h0 h' → C κ { s with heap := h' } → wpAny (model prog w) A (keyKind' vs.toArray) C (λ _ _ => False) { s with heap := h' })
    (hc : ∀ h' i j C,Kp h0 h' → i < vs.length → j < vs.length → C (decide (r i < r j)) { s with heap := h' } → kas_ask prog w A κ vs i j C { s with heap := h' })
    (h : ∀ p h' c,Pm vs.length p → Up r p vs.length → Kp h0 h' → h'.get? a = some (seqObj "list" (outs vs p).toArray c) → P (.done (.ret .none)) { s with heap := h' }) :
    wpAny (model prog w) A (Builtin.«list.sort» ⟨[.ref a],[]⟩) P E s := by
  have small : vs.length ≤ sizeLine := by rw [sizeLine_eq]; omega
  have sb1 := Heap.SameBut.update s.heap a (Obj.mapSeq λ _ => (#[] : Array Value))
  have g1 := get?_update_seq ho λ _ => (#[] : Array Value)
  generalize eh1 : s.heap.update a (Obj.mapSeq λ _ => (#[] : Array Value)) = h1 at sb1 g1
  have K1 : Kp h0 h1 := K0.but ha sb1
  rw [list_sort_plain]
  refine wpAny_bind (listItems_at ho rfl (wpAny_bind (listUpdate_at ho rfl ?_ (by rw [List.size_toArray]; exact small) (Nat.zero_le _))))
  rw [eh1]
  refine wpAny_bind (seqEpoch_at g1 rfl (wpAny_bind (wpAny_newTuple (wpAny_bind (wpAny_newList (wpAny_holding ?_) (Nat.zero_le _))) small)))
  show wpAny (model prog w) A _ P E { s with heap := (h1.push (seqObj "tuple" vs.toArray 0)).push (seqObj "list" #[] 0) }
  have g3 := Heap.get?_push_of_some (seqObj "list" #[] 0) (Heap.get?_push_of_some (seqObj "tuple" vs.toArray 0) g1)
  have K3 : Kp h0 ((h1.push (seqObj "tuple" vs.toArray 0)).push (seqObj "list" #[] 0)) := K1.trans ((Kp.push _ _).trans (Kp.push _ _))
  generalize (h1.push (seqObj "tuple" vs.toArray 0)).push (seqObj "list" #[] 0) = h3 at g3 K3 ⊢
  dsimp only
  have two : ¬ vs.toArray.size < 2 := by rw [List.size_toArray]; omega
  rw [if_neg two,if_neg two]
  refine wpAny_bind (wpAny_mono (hk h3 (λ κ' s' => κ' = κ ∧ s' = { s with heap := h3 }) K3 ⟨rfl,rfl⟩) (λ κ' s' q => ?_) λ _ _ z => z.elim)
  obtain ⟨rfl,rfl⟩ := q
  have tree : (kas_sort vs.length).kasWp (kas_ask prog w A κ' vs) (λ p s' => (Pm vs.length p ∧ Up r p vs.length) ∧ s' = { s with heap := h3 }) { s with heap := h3 } :=
    Yes.wp (r := r) (n := vs.length) (λ i j C a b c => hc h3 i j C K3 a b c) _ (y_sort (by omega) λ p a b => ⟨⟨a,b⟩,rfl⟩)
  refine wpAny_bind (wpAny_mono (kat_run (ks := vs) (vs := vs) (Q := λ st' s' => ∃ p,arrOf st' = p.map (kas_item (vs.toArray.zip vs.toArray)) ∧ failedOf st' = none ∧ (Pm vs.length p ∧ Up r p vs.length) ∧ s' = { s with heap := h3 })
    rfl h2 h64 (λ p st' s' _ x y z => ⟨p,x,y,z⟩) tree) ?_ λ _ _ e => e)
  rintro ⟨⟨⟩,st'⟩ s' ⟨p,har,hf,⟨hp,hu⟩,rfl⟩
  dsimp only
  rw [kat_snds rfl har]
  have len : (outs vs p).length = vs.length := by rw [List.length_map,Array.length_toList,hp.size]
  have sb2 := Heap.SameBut.update h3 a (Obj.mapSeq λ _ => (outs vs p).toArray)
  have g4 := get?_update_seq g3 λ _ => (outs vs p).toArray
  refine wpAny_bind (seqEpoch_at g3 rfl (wpAny_bind (listUpdate_at g3 rfl ?_ (Nat.zero_le _) (by rw [List.size_toArray,len]; first | exact small | exact Nat.le_succ_of_le small))))
  rw [hf]
  simp only [bne_self_eq_false,Bool.false_eq_true,if_false]
  exact wpAny_pure (h p _ _ hp hu (K3.but ha sb2) g4)
theorem outs_all (vs : List Value) : outs vs (List.range vs.length).toArray = vs := by
  refine List.ext_getElem (by simp) λ i a b => ?_
  simp [b]
theorem snd_zip (vs : List Value) : (vs.toArray.zip vs.toArray).map (·.2) = vs.toArray := by
  refine Array.ext (by simp) λ i a b => ?_
  simp
theorem lsort_few {a n : Nat} {P : PySem.Fin→Shared→Prop} {h0 : Heap} (K0 : Kp h0 s.heap) (ha : h0.objs.size≤a) (ho : s.heap.get? a = some (seqObj "list" vs.toArray n)) (h2 : vs.length < 2)
    (h : ∀ p h' c,Pm vs.length p → Up r p vs.length → Kp h0 h' → h'.get? a = some (seqObj "list" (outs vs p).toArray c) → P (.done (.ret .none)) { s with heap := h' }) :
    wpAny (model prog w) A (Builtin.«list.sort» ⟨[.ref a],[]⟩) P E s := by
  have small : vs.length ≤ sizeLine := by rw [sizeLine_eq]; omega
  have sb1 := Heap.SameBut.update s.heap a (Obj.mapSeq λ _ => (#[] : Array Value))
  have g1 := get?_update_seq ho λ _ => (#[] : Array Value)
  generalize eh1 : s.heap.update a (Obj.mapSeq λ _ => (#[] : Array Value)) = h1 at sb1 g1
  have K1 : Kp h0 h1 := K0.but ha sb1
  rw [list_sort_plain]
  refine wpAny_bind (listItems_at ho rfl (wpAny_bind (listUpdate_at ho rfl ?_ (by rw [List.size_toArray]; exact small) (Nat.zero_le _))))
  rw [eh1]
  refine wpAny_bind (seqEpoch_at g1 rfl (wpAny_bind (wpAny_newTuple (wpAny_bind (wpAny_newList (wpAny_holding ?_) (Nat.zero_le _))) small)))
  show wpAny (model prog w) A _ P E { s with heap := (h1.push (seqObj "tuple" vs.toArray 0)).push (seqObj "list" #[] 0) }
  have g3 := Heap.get?_push_of_some (seqObj "list" #[] 0) (Heap.get?_push_of_some (seqObj "tuple" vs.toArray 0) g1)
  have K3 : Kp h0 ((h1.push (seqObj "tuple" vs.toArray 0)).push (seqObj "list" #[] 0)) := K1.trans ((Kp.push _ _).trans (Kp.push _ _))
  generalize (h1.push (seqObj "tuple" vs.toArray 0)).push (seqObj "list" #[] 0) = h3 at g3 K3 ⊢
  dsimp only
  have two : vs.toArray.size < 2 := by rw [List.size_toArray]; omega
  rw [if_pos two,if_pos two]
  refine wpAny_bind (wpAny_pure (wpAny_bind (show wpAny _ _ (pure _) _ _ _ from wpAny_pure ?_)))
  dsimp only
  have e0 : (arrOf (SortSt.mk' general' (vs.toArray.zip vs.toArray) #[] 7 none)).map (·.2) = (outs vs (List.range vs.length).toArray).toArray := by
    rw [outs_all]
    exact snd_zip vs
  have sb2 := Heap.SameBut.update h3 a (Obj.mapSeq λ _ => (outs vs (List.range vs.length).toArray).toArray)
  have g4 := get?_update_seq g3 λ _ => (outs vs (List.range vs.length).toArray).toArray
  rw [e0]
  refine wpAny_bind (seqEpoch_at g3 rfl (wpAny_bind (listUpdate_at g3 rfl ?_ (Nat.zero_le _) (by rw [outs_all,List.size_toArray]; first | exact small | exact Nat.le_succ_of_le small))))
  simp only [bne_self_eq_false,Bool.false_eq_true,if_false]
  refine wpAny_pure (h _ _ _ (Array.Perm.refl _) (λ i j x y => ?_) (K3.but ha sb2) g4)
  have : i = j := by omega
  rw [this]
  exact Int.le_refl _
end
end FT
namespace FT
open PySem PySem.W PySem.Spec PySem.Calls PyProof.Rows L2 FL
section
variable {prog : Program} {w : World} {A : Around} {s : Shared}
end
end FT
namespace FT
open PySem PySem.W PySem.Spec PySem.Calls PyProof.Rows L2 FL
theorem ints_of {K : PySem.W.Frag} {H : Hp} : ∀ {ys : List V} {ns : List Int},IsAll K H ys (ns.map D.int)→ys = ns.map V.int
  | _,[],h => by cases h; rfl
  | _,n :: ns,h => by
    cases h with
    | cons h1 h2 => rw [h1.int_inv,ints_of h2]; rfl
section
variable {X : Cx} {pins : List (Addr × Obj)} {σ : L2.St} {H : Hp} {s : Shared}
variable {e : Expr} {ρ : Ro} {d : D} {pos p : Pos} {ts : List (List Int)} {k : Nat}
end
end FT
namespace FU
open PySem PyProof.Rows HT
section
open PySem.SeqAt
open PySem.AutoSeq1 (wpAny_loadPart')
open PySem.MeetsSeq PySem.MeetsSeq2 PySem.MeetsSeq3
end
section
variable {prog : Program} {w : World} {A : Around} {E : Value→Shared→Prop} {s : Shared}
end
end FU
namespace FU
open PySem PySem.Spec PyProof.Rows L2 FL
section
variable {X : Cx} {a b : Expr} {ρ : Ro} {pos : Pos} {ns ms : List Int} {m : Nat}
end
end FU
namespace FL
open PySem PySem.Spec PyProof.Rows L2
def Con (K : PySem.W.Frag) (mg : Str→Option Value) (x : Str) (d : D) : Prop := ∃ v u,mg x = some u∧RelV v u∧∀ H,Is K H v d
theorem con_int {K : PySem.W.Frag} {mg : Str→Option Value} {x : Str} {i : Int} {t : Tok} (h : mg x = some (.int i t)) : Con K mg x (.int i) := ⟨.int i,_,h,⟨t,rfl⟩,λ _ => .int i⟩
inductive IntsOf : List Value → List Int → Prop
  | nil : IntsOf [] []
  | cons {i : Int} {t : Tok} {us : List Value} {ns : List Int} (h : IntsOf us ns) : IntsOf (.int i t :: us) (i :: ns)
theorem IntsOf.vals : ∀ {us : List Value} {ns : List Int},IntsOf us ns→Vals (ns.map V.int) us
  | _,_,.nil => .nil
  | _,_,.cons h => .cons ⟨_,rfl⟩ h.vals
theorem con_tup {K : PySem.W.Frag} {mg : Str→Option Value} {x : Str} {a : Addr} {od : Option Addr} {its : Array Value} {n : Nat} {sl : Array (Option Value)} {ns : List Int} (h : mg x = some (.ref a)) (hl : K.lookup a = some ⟨.type "tuple",od,.seq its n,sl⟩) (hi : IntsOf its.toList ns) (hn : its.size≤1000 := by decide) : Con K mg x (.kt (ns.map D.int)) :=
  ⟨.ref a,_,h,rfl,λ _ => .kt (.inr ⟨_,its,n,hl,rfl,rfl,Nat.le_of_lt (small1000 hn),hi.vals⟩) (IsAll.ints ns)⟩
section
variable {X : Cx} {e a b c f : Expr} {es : List Expr} {ρ : Ro} {d : D} {ds gs : List D} {pos : Pos} {i j k l : Int} {rest : List Stmt} {P : Po}
theorem ev_con {x : Str} (C : Con X.K X.mg x d) (hg : Gl X x := by rfl) (hd : (x == ("__debug__" : Str)) = false := by decide) : Ev X (.Name x pos) ρ d := by
  obtain ⟨v,u,hm,r,h⟩ := C
  exact PE.imp (pe_glob hg hm r hd) λ _ H _ ⟨_,q⟩ => q _ H (Same.refl H) (h H)
theorem ev_ktOf (h : Ev X e ρ (.tup ds)) : Ev X e ρ (.kt ds) := PE.imp h λ σ H Q ⟨r,q⟩ => ⟨r,λ v H' s h1 => by
  obtain ⟨a,xs,rfl,h3,h4⟩ := h1.tup_inv
  exact q _ H' s (.kt h3 h4)⟩
theorem ev_ixK (ha : Ev X a ρ (.kt ds)) (hb : Ev X b ρ (.int i)) (hi : atI ds i = some d) (hs : PlainIx b := by exact λ _ _ => rfl) : Ev X (.Subscript a b pos) ρ d :=
  PE.imp (pe_ix ix_tup ha hb hs) λ σ H Q ⟨r,q⟩ => ⟨r,λ v1 H1 s1 h1 => ⟨r.mono s1,λ v2 H2 s2 h2 => by
    obtain ⟨p,xs,rfl,h3,h4⟩ := (h1.mono s2).kt_inv
    obtain ⟨v,e,h5⟩ := atI_map h4 hi
    exact ⟨p,xs,i,v,rfl,h2.int_inv,h3,e,q v H2 (s1.trans s2) h5⟩⟩⟩
def tChain3 (r r' r'' : R2) (ta tb tc td : TE) : TE := λ σ H Q => ta σ H λ x H1 => tb σ H1 λ y H2 => r x y H2 λ z H3 => ∃ k,z = .bl k ∧
  (if k = true then tc σ H3 λ w' H4 => r' y w' H4 λ z' H5 => ∃ k',z' = .bl k' ∧ (if k' = true then td σ H5 λ w2 H6 => r'' w' w2 H6 Q else Q (.bl false) H5) else Q (.bl false) H3)
theorem pe_chain3 {op op' op'' : CmpOp} {r r' r'' : R2} {ta tb tc td : TE} (ho : OpR X (compareOp op) r) (ho' : OpR X (compareOp op') r') (ho'' : OpR X (compareOp op'') r'') (ha : PE X a ta) (hb : PE X b tb) (hc : PE X c tc) (hf : PE X f td)
    (hm : lastMarks [op,op',op''] [b,c,f] = false := by with_unfolding_all rfl) : PE X (.Compare a [op,op',op''] [b,c,f] pos) (tChain3 r r' r'' ta tb tc td) := by
  intro pins s σ H Q I h
  refine Compare_chain (thn (ha pins s σ H _ I h) λ v s1 ⟨x,H1,I1,r1,q1⟩ => chain_link (thn (hb pins s1 σ H1 _ I1 q1) λ u s2 ⟨y,H2,I2,r2,q2⟩ =>
    thn (ho pins s2 σ H2 x y v u _ I2 r1 r2 q2) λ d s3 ⟨z,H3,I3,r3,k,e,q3⟩ => ?_)) hm
  subst e
  cases r3
  refine wpAny_truthy_bool ?_
  cases k with
  | false => exact ite_ff ⟨.bl false,H3,I3,rfl,q3⟩
  | true =>
    refine ite_tt (chain_link (thn (hc pins s3 σ H3 _ I3 q3) λ w' s4 ⟨z',H4,I4,r4,q4⟩ => thn (ho' pins s4 σ H4 y z' u w' _ I4 r2 r4 q4) λ d' s5 ⟨z2,H5,I5,r5,k2,e2,q5⟩ => ?_))
    subst e2
    cases r5
    refine wpAny_truthy_bool ?_
    cases k2 with
    | false => exact ite_ff ⟨.bl false,H5,I5,rfl,q5⟩
    | true => exact ite_tt (chain_last (thn (hf pins s5 σ H5 _ I5 q5) λ w2 s6 ⟨z3,H6,I6,r6,q6⟩ => ho'' pins s6 σ H6 z' z3 w' w2 Q I6 r4 r6 q6))
theorem ev_chain3 {op op' op'' : CmpOp} {g g' g'' : Int→Int→Bool} (ho : OpR X (compareOp op) (rI0 λ i j => .bl (g i j))) (ho' : OpR X (compareOp op') (rI0 λ i j => .bl (g' i j))) (ho'' : OpR X (compareOp op'') (rI0 λ i j => .bl (g'' i j)))
    (ha : Ev X a ρ (.int i)) (hb : Ev X b ρ (.int j)) (hc : Ev X c ρ (.int k)) (hf : Ev X f ρ (.int l)) (hm : lastMarks [op,op',op''] [b,c,f] = false := by with_unfolding_all rfl) : Ev X (.Compare a [op,op',op''] [b,c,f] pos) ρ (.bl (g i j && (g' j k && g'' k l))) := by
  refine PE.imp (pe_chain3 ho ho' ho'' ha hb hc hf hm) ?_
  rintro σ H Q ⟨r,q⟩
  refine ⟨r,λ v1 H1 s1 h1 => ⟨r.mono s1,λ v2 H2 s2 h2 => ⟨i,j,h1.int_inv,h2.int_inv,g i j,rfl,?_⟩⟩⟩
  cases hg : g i j with
  | false => rw [hg] at q; exact iteF (q _ H2 (s1.trans s2) (.bl _))
  | true =>
    rw [hg] at q
    refine iteT ⟨r.mono (s1.trans s2),λ v3 H3 s3 h3 => ⟨j,k,h2.int_inv,h3.int_inv,g' j k,rfl,?_⟩⟩
    cases hg' : g' j k with
    | false => rw [hg'] at q; exact iteF (q _ H3 ((s1.trans s2).trans s3) (.bl _))
    | true =>
      rw [hg'] at q
      exact iteT ⟨r.mono ((s1.trans s2).trans s3),λ v4 H4 s4 h4 => ⟨k,l,h3.int_inv,h4.int_inv,q _ H4 (((s1.trans s2).trans s3).trans s4) (.bl _)⟩⟩
theorem do_extend (n : Nat) {x : Str} {l : Addr} {p1 p2 p3 : Pos} (hρ : ρ[n]? = some (some (.lst l ds))) (he : EvN X e ρ gs) (hz : ∀ d∈gs,Fz d) (hl : ds.length + gs.length < 1000000) (hothers : ∀ (j : Nat) (es : List D),j≠n→ρ[j]?≠some (some (.lst l es)))
    (h : Do X rest (ρ.set n (some (.lst l (ds ++ gs)))) P) (hN : X.N[n]? = some x := by rfl) (hv : Vis X.env.scope x := by first | exact Or.inl rfl | exact Or.inr (Or.inl rfl) | exact Or.inr (Or.inr rfl))
    (hd : (x == ("__debug__" : Str)) = false := by decide) (hcd : (x == ("__classdict__" : Str)) = false := by decide)
    (hbase : attributeBase (.Name x p1) "extend" X.env (eval (.Name x p1) X.env) = eval (.Name x p1) X.env := by rfl)
    (hfew : ((backTo p3 (starEach [e] X.env)).all (λ x => !x.1) && (backToKw p3 (keywordEach [] X.env)).all (λ x => x.1.isSome) && decide ([e].length + ([] : List Keyword).length + (if ([] : List Keyword).isEmpty then 0 else 1) < 30)) = true := by rfl)
    (hline : (p2.endLine == p3.line) = true := by rfl) (hstar : starEach [e] X.env = [(false,eval e X.env)] := by rfl) (hs : swapsWith (.Call (.Attribute (.Name x p1) "extend" p2) [e] [] p3) none pos.line X.env = pure false := by rfl) :
    Do X (.Expr (.Call (.Attribute (.Name x p1) "extend" p2) [e] [] p3) pos :: rest) ρ P := by
  refine do_seq (M := λ ρ' => ρ' = ρ.set n (some (.lst l (ds ++ gs)))) (PS.imp (ps_expr (pe_bm PySem.F.plainAttrs_list PySem.F.slot_list_extend PySem.F.type_list_extend mt_extend (pe_var hN hv hd hcd) (pa_cons he pa_nil hstar) hbase hfew hline hstar rfl) hs) ?_) (λ _ z => z ▸ h)
  rintro D σ H ⟨r,q1,q2,q3,q4⟩
  obtain ⟨v,e1,h1,h2⟩ := r.val n _ hρ
  obtain ⟨rfl,xs,hT,hA⟩ := h1.lst_inv
  have fds : ∀ e ∈ ds,Fz e := by
    rcases h2 with z | z | z
    · cases z
    · obtain ⟨_,ys,z,_⟩ := z.lst_inv
      rw [r.own l ⟨n,_,hρ,rfl⟩] at z
      cases z
    · cases z with | lst f => exact f
  refine ⟨_,e1,.inl ⟨rfl,xs,.of hT⟩,r.e,λ b zs H2 hfr s2 hB h3 => ?_⟩
  have hT2 := s2 _ _ hT
  have lx : xs.length = ds.length := hA.length
  have lz : zs.length = gs.length := h3.length
  refine ⟨l,b,xs,zs,rfl,rfl,hT2,hB,by rw [sizeLine_eq]; omega,?_⟩
  have kt : KT H2 (upd H2 l (.lst (xs ++ zs))) :=
    ⟨λ b xs h => by rw [upd_ne (ne_of h hT2 (by intro z; cases z))]; exact h,λ b o u h => by rw [upd_ne (ne_of h hT2 (by intro z; cases z))]; exact h⟩
  have r2 := r.mono s2
  have h0 : X.H₀ l = none := r.own l ⟨n,_,hρ,rfl⟩
  have same : Same X.H₀ (upd H2 l (.lst (xs ++ zs))) := λ b o h => by
    rw [upd_ne (ne_of_none h h0)]
    exact r2.same b o h
  have hnl : n < ρ.length := (List.getElem?_eq_some_iff.mp hρ).1
  have go : Go ρ H (ρ.set n (some (.lst l (ds ++ gs)))) (upd H2 l (.lst (xs ++ zs))) := by
    refine ⟨λ b o h nm => ?_,?_⟩
    · have : b ≠ l := λ z => nm (z ▸ ⟨n,_,hρ,rfl⟩)
      rw [upd_ne this]
      exact s2 _ _ h
    · rintro a ⟨j,es,hj,hw⟩
      rcases set_get hj with ⟨rfl,rfl,_⟩ | ⟨_,hj⟩
      · cases hw
        exact .inl ⟨_,_,hρ,rfl⟩
      · exact .inl ⟨j,es,hj,hw⟩
  have own : ∀ a,Mu (ρ.set n (some (.lst l (ds ++ gs)))) a → X.H₀ a = none := by
    rintro a ⟨j,es,hj,hw⟩
    rcases set_get hj with ⟨rfl,rfl,_⟩ | ⟨_,hj⟩
    · cases hw
      exact h0
    · exact r.own a ⟨j,es,hj,hw⟩
  refine q1 _ _ _ go ⟨same,by simp [r.len],λ j e' hj => ?_,own⟩ rfl
  rcases set_get hj with ⟨rfl,rfl,_⟩ | ⟨hne,hj⟩
  · refine ⟨.ref l,e1,.lst upd_same ?_,.inr (.inr (.lst λ e' he' => ?_))⟩
    · exact ((hA.mono s2).keep kt fds).append (h3.keep kt hz)
    · rcases List.mem_append.mp he' with z | z
      · exact fds _ z
      · exact hz _ z
  · obtain ⟨u,f1,f2,f3⟩ := r2.val j e' hj
    refine ⟨u,f1,?_,f3⟩
    rcases f3 with z | z | z
    · exact f2.keep kt z
    · exact z.mono same
    · exact z.keep f2 kt λ a ha => upd_ne (ne_list f2 ha hT2 λ es ez => hothers j es hne (ez ▸ hj))
end
theorem hcl_of {cl cells : List (Str × Addr)} (h : ∀ p∈cl,cells.lookup p.1 = some p.2) : ∀ y c,cl.lookup y = some c→cells.lookup y = some c := λ y c e => h (y,c) (PySem.mem_of_lookup e)
theorem has_of {scope : Scope} {env : Env} {cl : List (Str × Addr)} (h1 : ∀ p∈scope.names,p.2≠.cell) (h2 : ∀ p∈scope.names,p.2 = .free→∃ c,cl.lookup p.1 = some c) :
    ∀ y,(relabel scope env).names.lookup y = some .cell ∨ (relabel scope env).names.lookup y = some .free → ∃ c,cl.lookup y = some c := by
  have key : ∀ p ∈ (relabel scope env).names,(p.2 = .cell ∨ p.2 = .free) → ∃ c,cl.lookup p.1 = some c := by
    intro p hp hk'
    obtain ⟨⟨n,k⟩,hm,e⟩ := List.mem_map.mp (show p ∈ scope.names.map _ from hp)
    have hk := h1 _ hm
    by_cases hf : k = .free
    · have h3 := h2 _ hm hf
      have e1 : p.1 = n := by
        rw [← e]
        dsimp only
        split <;> rfl
      rw [e1]
      exact h3
    · have hf' : (k == NameKind.free) = false := by simpa using hf
      simp only [hf',Bool.false_and,Bool.false_eq_true,if_false] at e
      subst e
      rcases hk' with z | z
      · exact absurd z hk
      · exact absurd z hf
  intro y z
  rcases z with z | z
  · exact key _ (PySem.mem_of_lookup z) (.inl rfl)
  · exact key _ (PySem.mem_of_lookup z) (.inr rfl)
end FL
namespace FL
open PySem PySem.Spec PyProof.Rows L2
section
variable {X : Cx} {e a b c f : Expr} {es : List Expr} {ρ : Ro} {d d' : D} {ds gs : List D} {pos : Pos} {i j k l : Int} {rest : List Stmt} {P : Po}
def CDivN (_ j : Int) : Prop := j≠0∧Builtin.Int.intBits j≤9000
theorem op_fdivN : OpR X (binaryOp .FloorDiv) (rI CDivN λ i j => .int (i.fdiv j)) := opI λ i j _ _ _ _ _ hc q => by
  have h1 : j ≠ 0 := hc.1
  refine floordiv_int h1 q (.inl (PyProof.noPylong_of_log2 ?_))
  have h2 := intBits_le_iff.mp hc.2
  exact (Nat.log2_lt (by omega)).mpr h2
theorem ev_divN {m : Nat} (ha : Ev X a ρ (.int i)) (hb : Ev X b ρ (.int j)) (h : j≠0) (hj : Bd j m) (hm : m≤9000 := by decide) : Ev X (.BinOp a .FloorDiv b pos) ρ (.int (i.fdiv j)) :=
  ev_op op_fdivN ha hb (rI_of ⟨h,Nat.le_trans hj.lt hm⟩ λ _ => .int _)
theorem ev_tupleOf {p : Pos} (hm : X.mg "tuple" = none) (ha : Ev X a ρ d') (hl : lsD d' = some ds) (hg : Gl X "tuple" := by rfl) (he : starEach [a] X.env = [(false,eval a X.env)] := by rfl) : Ev X (.Call (.Name "tuple" p) [a] [] pos) ρ (.tup ds) :=
  PE.imp (pe_callTy call_tuple_of hg hm bo_tuple (ea_cons ha ea_nil he) (by decide) (by decide) he rfl) λ σ H Q ⟨r,q⟩ => ⟨r,λ vs H1 s1 h1 => by
    obtain ⟨v,rfl,h⟩ := one_inv h1
    obtain ⟨a,xs,rfl,h3,h4⟩ := h.lsD_inv hl
    exact ⟨a,xs,rfl,.inl ⟨h3,λ l hl => q _ _ (s1.trans (same_new hl)) (.tup upd_same (h4.mono (same_new hl)))⟩⟩⟩
theorem map_at {α β : Type} {g h : α→β} : ∀ {xs : List α},xs.map g = xs.map h→∀ x∈xs,g x = h x
  | [],_,x,hx => by cases hx
  | y :: ys,e,x,hx => by
    simp only [List.map_cons,List.cons.injEq] at e
    rcases List.mem_cons.mp hx with rfl | hx
    · exact e.1
    · exact map_at e.2 x hx
theorem evn_compC {elt iter : Expr} {x : Str} {px : Pos} {ifs : List Expr} {scope : Scope} (cl : List (Str × Addr)) (ys : List Str) (js : List Nat) (p : D→Bool) (f : D→D)
    (hi : Src X (.Name x px) iter ρ ds) (hz : ds.length ≤ 1000000) (hfz : ∀ d ∈ ds,p d = true → Fz (f d))
    (ht : ∀ C s₀ H₀ fp,∀ d ∈ ds,Ets (blk X scope cl (x :: ys) C s₀ H₀ fp) ifs (some d :: freesD js ρ) (p d))
    (he : ∀ C s₀ H₀ fp,∀ d ∈ ds,p d = true → Ev (blk X scope cl (x :: ys) C s₀ H₀ fp) elt (some d :: freesD js ρ) (f d))
    (hc : X.calm = true := by rfl) (hclos : closureFor scope X.env = pure cl := by rfl) (hcell : scope.names.all (λ y => !(y.2 == .cell)) = true := by rfl) (hkind : scope.kind = .function := by rfl)
    (hnames : scope.names.all (λ y => !(y.2 == .local) || (scope.names.lookup y.1 == some .local)) = true := by rfl) (hx : scope.names.lookup x = some .local := by rfl) (hnd : (x :: ys).Nodup := by decide)
    (hcl : cl.map (λ p => X.env.cells.lookup p.1) = cl.map (λ p => some p.2) := by rfl) (hhas : scope.names.all (λ y => !(y.2 == .free) || (cl.lookup y.1).isSome) = true := by rfl)
    (hjs : js.length = ys.length := by rfl) (hN : js.map (λ j => X.N[j]?) = ys.map some := by rfl) (hK : ys.map (λ y => X.env.scope.names.lookup y) = ys.map (λ _ => some .cell) := by rfl) (hR : ys.map (λ y => (relabel scope X.env).names.lookup y) = ys.map (λ _ => some .cell) := by rfl)
    (hs : ∀ x,foldedSetIterable iter X.env x = pure x := by intro _; rfl) : EvN X (.ListComp elt [⟨.Name x px,iter,ifs,0⟩] scope pos) ρ ((ds.filter p).map f) := by
  have hcell' : ∀ y ∈ scope.names,y.2 ≠ .cell := λ y hy z => by
    have := List.all_eq_true.mp hcell y hy
    rw [z] at this
    cases this
  refine evn_comp (cl := cl) (ys := ys) (js := js) p f hc hi hz hfz ht he hclos hcell' hkind (λ y hy z => ?_) hx hnd (hcl_of λ q hq => map_at hcl q hq) (has_of hcell' λ q hq z => ?_) hjs (λ i j y hj hy => ?_) hs
  · have := List.all_eq_true.mp hnames y hy
    rw [z] at this
    simpa using this
  · have := List.all_eq_true.mp hhas q hq
    rw [z] at this
    have h2 : (cl.lookup q.1).isSome = true := by simpa using this
    exact Option.isSome_iff_exists.mp h2
  · have my : y ∈ ys := List.mem_of_getElem? hy
    have e1 : X.N[j]? = some y := by
      have : (js.map (λ j => X.N[j]?))[i]? = (ys.map some)[i]? := by rw [hN]
      rw [List.getElem?_map,List.getElem?_map,hj,hy] at this
      simpa using this
    have e2 := map_at hK y my
    have e3 := map_at hR y my
    exact ⟨e1,.inr (.inl e2),.inl e2,.inl e3⟩
theorem evn_map0 {elt iter : Expr} {x : Str} {px : Pos} {scope : Scope} (f : D→D) (hi : Src X (.Name x px) iter ρ ds) (hz : ds.length≤1000000) (hfz : ∀ d∈ds,Fz (f d))
    (he : ∀ C s₀ H₀ fp,∀ d ∈ ds,Ev (blk X scope [] [x] C s₀ H₀ fp) elt [some d] (f d))
    (hc : X.calm = true := by rfl) (hclos : closureFor scope X.env = pure [] := by rfl) (hcell : scope.names.all (λ y => !(y.2 == .cell)) = true := by rfl) (hkind : scope.kind = .function := by rfl)
    (hnames : scope.names.all (λ y => !(y.2 == .local) || (scope.names.lookup y.1 == some .local)) = true := by rfl) (hx : scope.names.lookup x = some .local := by rfl) (hhas : scope.names.all (λ y => !(y.2 == .free)) = true := by rfl)
    (hs : ∀ x,foldedSetIterable iter X.env x = pure x := by intro _; rfl) : EvN X (.ListComp elt [⟨.Name x px,iter,[],0⟩] scope pos) ρ (ds.map f) := by
  have h := evn_compC (X := X) (ρ := ρ) (pos := pos) (ds := ds) (elt := elt) (iter := iter) (x := x) (px := px) (ifs := []) (scope := scope) [] [] [] (λ _ => true) f hi hz (λ d hd _ => hfz d hd) (λ _ _ _ _ _ _ => ets_nil) (λ C s₀ H₀ fp d hd _ => he C s₀ H₀ fp d hd) hc hclos hcell hkind hnames hx (by simp) rfl (by
    rw [List.all_eq_true]
    intro y hy
    rw [List.all_eq_true.mp hhas y hy]
    rfl) rfl rfl rfl rfl hs
  rwa [List.filter_eq_self.mpr (λ _ _ => rfl)] at h
end
end FL
namespace FL
open PySem PySem.Spec PyProof.Rows L2
section
variable {P : Program} {w : World} {K : PySem.W.Frag} {mg : Str→Option Value} {base : Heap} {k : Nat} {x : Str}
end
end FL
namespace FL
open PySem PySem.Spec PyProof.Rows L2
theorem comp_core {X : Cx} {elt iter : Expr} {x : Str} {px : Pos} {ifs : List Expr} {scope : Scope} {cl : List (Str × Addr)} {pos : Pos} {ys : List Str} {js : List Nat} {wi : TI} {tt : Cx→TT} {te : Cx→TE}
    (hc : X.calm = true) (hi : PI X (.Name x px) iter wi)
    (ht : ∀ C s₀ H₀ fp,PTs (blk X scope cl (x :: ys) C s₀ H₀ fp) ifs (tt (blk X scope cl (x :: ys) C s₀ H₀ fp)))
    (he : ∀ C s₀ H₀ fp,PE (blk X scope cl (x :: ys) C s₀ H₀ fp) elt (te (blk X scope cl (x :: ys) C s₀ H₀ fp)))
    (hclos : closureFor scope X.env = pure cl) (hcell : ∀ y ∈ scope.names,y.2 ≠ .cell) (hkind : scope.kind = .function)
    (hnames : ∀ y ∈ scope.names,y.2 = .local → scope.names.lookup y.1 = some .local) (hx : scope.names.lookup x = some .local) (hnd : (x :: ys).Nodup)
    (hcl : ∀ y c,cl.lookup y = some c → X.env.cells.lookup y = some c)
    (hhas : ∀ y,(relabel scope X.env).names.lookup y = some .cell ∨ (relabel scope X.env).names.lookup y = some .free → ∃ c,cl.lookup y = some c)
    (hjs : js.length = ys.length) (hjy : ∀ (i j : Nat) (y : Str),js[i]? = some j → ys[i]? = some y → X.N[j]? = some y ∧ Vis X.env.scope y ∧ (X.env.kindOf y = some .cell ∨ X.env.kindOf y = some .free) ∧ ((relabel scope X.env).names.lookup y = some .cell ∨ (relabel scope X.env).names.lookup y = some .free))
    (hs : ∀ x,foldedSetIterable iter X.env x = pure x)
    {use : Option (Value → Sem Unit)} {R : Value → Shared → Prop} {pins : List (Addr × Obj)} {s : Shared} {σ : L2.St} {H : Hp} {Q : VK} {pos2 : Pos} (I : Inv X pins σ H s) (h : tComp X js wi tt te σ H Q)
    (hend : ∀ D C s5 H4,Q (.ref D) H4 → H4 C = none → (∃ m,s5.heap.Ns C m) → (∀ h6,Heap.SameBut C s5.heap h6 → Inv X pins σ H4 { s5 with heap := h6 }) →
      (X.s₀.heap.objs.size ≤ C ∧ C ≠ X.env.locals ∧ (∀ x c,X.env.cells.lookup x = some c → c ≠ C) ∧ ∀ p ∈ X.pn ++ pins,p.1 ≠ C) → compPost (model X.prog X.w) X.A X.xe use R (.ref D) C (.ok .next) s5) :
    wpAny (model X.prog X.w) X.A (comprehension (.ListComp elt [⟨.Name x px,iter,ifs,0⟩] scope pos) scope X.env pos2 (newList []) false (eval iter X.env) use) R X.xe s := by
  refine wpAny_comprehension_free (use := use) rfl hs hclos hkind hnames (thn (hi pins s σ H _ I h) λ v s1 h1 => thn h1 λ itv s2 h2 => ?_)
  obtain ⟨it,fp,tn,J,H2,e,I2,T,st2,f2,h2⟩ := h2
  subst e
  refine wpAny_newObj_type (wpAny_newFunctionEnv hcell (by intro y hy; simp at hy) (λ h₁ hns₁ hsb₁ => ?_) hkind)
  dsimp only at hns₁ hsb₁ ⊢
  -- the list
  have hD : H2 s2.heap.objs.size = none := I2.hok.fresh (Nat.le_refl _)
  generalize eD : s2.heap.objs.size = D at hD hns₁ hsb₁ ⊢
  generalize eH : s2.heap.push { cls := .type "list",dict := none,data := .seq ([] : List Value).toArray } = P3 at hns₁ hsb₁ ⊢
  have k23 : ∀ b o,s2.heap.get? b = some o → P3.get? b = some o := λ b o q => by rw [← eH]; exact Heap.get?_push_of_some _ q
  have hDo : P3.get? D = some { cls := .type "list",dict := none,data := .seq ([] : List Value).toArray } := by rw [← eH,← eD]; exact Heap.get?_push_size _ rfl
  have I3 : Inv X pins σ (upd H2 D (.lst [])) { s2 with heap := P3,toks := s2.toks } := I2.laid (t' := s2.toks) k23 (Nat.le_of_eq eD) ⟨Nat.zero_le _,[],0,.nil,hDo⟩
  have hCs : P3.objs.size = D + 1 := by rw [← eH,Heap.size_push,eD]
  generalize eC : P3.objs.size = C at hns₁ hsb₁ hCs ⊢
  have k34 : ∀ b o,P3.get? b = some o → h₁.get? b = some o := λ b o q => hsb₁.extBut b o (by rw [← eC]; exact Nat.ne_of_lt (Heap.lt_size q)) (Heap.get?_push_of_some _ q)
  have fpD : ∀ b ∈ fp,b < D := λ b hb => by
    obtain ⟨o,q,_⟩ := T.obj 0 _ st2 b hb
    rw [← eD]
    exact Heap.lt_size q
  have hC0 : upd H2 D (.lst []) C = none := I3.hok.fresh (by show P3.objs.size ≤ C; rw [eC]; exact Nat.le_refl _)
  -- the block's context
  have okY : (blk X scope cl (x :: ys) C { s2 with heap := P3,toks := s2.toks } (upd H2 D (.lst [])) fp).Ok := by
    refine ⟨I3.ok.mod,hkind,I3.ok.glob,I3.ok.blt,by show P3.objs.size ≤ C; rw [eC]; exact Nat.le_refl _,λ y z c h1 h2 => I3.ok.inj y z c (hcl y c h1) (hcl z c h2),λ y hy => hhas y hy,λ y c hf _ => (by cases hf),
      I3.ok.hd,I3.ok.frames,.inl rfl,λ b hb => ⟨(by show b ≠ C; rw [hCs]; exact Nat.ne_of_lt (Nat.lt_succ_of_lt (fpD b hb))),λ y c hy => (f2 b hb).2.2.2.2.1 y c (hcl y c hy)⟩,λ b o q => ?_,?_,λ b o q hb => ?_,λ b hb z => ?_,I3.stack,I3.stkFree⟩
    · exact I3.bs b o q
    · exact Nat.le_trans I3.ok.bsz I3.sz
    · rcases (f2 b hb).2.2.2.1 with z | z
      · exact I3.ok.noex b o q z
      · exact absurd (Nat.lt_of_lt_of_le (Heap.lt_size (I3.ok.bs b o q).1) z) (Nat.lt_irrefl _)
    · rcases List.mem_cons.mp (I3.stkSub b z) with z | z
      · exact (f2 b hb).2.1 z
      · exact (f2 b hb).2.2.1 z
  generalize eY : blk X scope cl (x :: ys) C { s2 with heap := P3,toks := s2.toks } (upd H2 D (.lst [])) fp = Y at okY
  have IY : Inv Y [] (none :: frees js σ) (upd H2 D (.lst [])) { s2 with heap := h₁,toks := s2.toks + ([] : List (Str × Value)).length } := by
    subst eY
    refine ⟨okY,I3.os.trans I3.os.symm |>.trans rfl,I3.bare,Un.kept k34,⟨_,hns₁,λ i y v h1 h2 h3 => ?_⟩,λ y c hy => ?_,hC0,λ y c hy => I3.freeC y c (hcl y c hy),λ p hp => absurd (show p ∈ ([] : List (Addr × Obj)) from hp) (by simp),I3.hok.kept k34,?_⟩
    · cases i with
      | zero => cases h2
      | succ i =>
        have h1' : ys[i]? = some y := h1
        have h2' : (frees js σ)[i]? = some (some v) := h2
        unfold frees at h2'
        rw [List.getElem?_map] at h2'
        cases q : js[i]? with
        | none => rw [q] at h2'; cases h2'
        | some j =>
          rw [q] at h2'
          have h4 : (σ[j]?).join = some v := Option.some.inj h2'
          have h5 : σ[j]? = some (some v) := by
            cases z : σ[j]? with
            | none => rw [z] at h4; cases h4
            | some o => rw [z] at h4; have h4' : o = some v := h4; rw [h4']
          obtain ⟨n1,n2,n3,n4⟩ := hjy i j y q h1'
          obtain ⟨m,_,hl⟩ := I3.loc
          obtain ⟨u,ru,lk⟩ := hl j y v n1 h5 n2
          refine ⟨u,ru,.inr ⟨n4,?_⟩⟩
          obtain ⟨c,hc'⟩ := hhas y n4
          rcases lk with ⟨z,_⟩ | ⟨_,c',e1,e2⟩
          · rcases n3 with n3 | n3 <;> (rw [n3] at z; cases z)
          · have : c' = c := Option.some.inj (e1.symm.trans (hcl y c hc'))
            subst this
            obtain ⟨o,ho,hod⟩ := e2
            exact ⟨c',hc',o,k34 _ _ ho,hod⟩
    · obtain ⟨v,o,ho,hod⟩ := I3.cell y c (hcl y c hy)
      exact ⟨v,o,k34 _ _ ho,hod⟩
    · show (frees js σ).length + 1 = (x :: ys).length
      unfold frees
      simp [hjs]
  have eYA : Y.A = X.A := by rw [← eY]; rfl
  have eYp : Y.prog = X.prog := by rw [← eY]; rfl
  have eYw : Y.w = X.w := by rw [← eY]; rfl
  have eYK : Y.K = X.K := by rw [← eY]; rfl
  have eYe : Y.env = compEnvC scope cl C X.env := by rw [← eY]; rfl
  have eYH : Y.H₀ = upd H2 D (.lst []) := by rw [← eY]; rfl
  have eYc : Y.calm = true := by rw [← eY]; exact hc
  have eYx : Y.xe = λ _ _ => False := by rw [← eY]; rfl
  have eYex : Y.ex = fp := by rw [← eY]; rfl
  have eYfs : Y.fs = frs X.stack := by rw [← eY]; rfl
  have eYs : Y.s₀ = { s2 with heap := P3,toks := s2.toks } := by rw [← eY]; rfl
  have eYl : Y.env.locals = C := by rw [eYe]; rfl
  have ht' : PTs Y ifs (tt Y) := by rw [← eY]; exact ht C _ _ fp
  have he' : PE Y elt (te Y) := by rw [← eY]; exact he C _ _ fp
  have hg' : PG Y (.Name x px) (gName 0) := by
    rw [← eY]
    exact pg_name hnd rfl (.inl (lookup_relabel_local hx)) (.inr (lookup_relabel_local hx))
  have T' : Turn Y.prog Y.w Y.K (.Name x px) J fp it tn := by rw [eYp,eYw,eYK]; exact T
  obtain ⟨W,⟨m0,w0⟩,turn⟩ := h2 D hD Y eYH eYK
  have stat : ∀ {H' : Hp},(∀ b ∈ fp,H' b = none) → ∀ b ∈ fp,FpOk Y [] H' b := λ {H'} hn b hb => by
    obtain ⟨_,g1,g2,g3,g4,g5⟩ := f2 b hb
    refine ⟨hn b hb,(by rw [eYl,hCs]; exact Nat.ne_of_lt (Nat.lt_succ_of_lt (fpD b hb))),λ z => ?_,.inl (by rw [eYex]; exact hb),λ y c hy => ?_,λ p hp => ?_⟩
    · rw [eYfs] at z
      rcases List.mem_cons.mp (I3.stkSub b z) with z | z
      · exact g1 z
      · exact g2 z
    · rw [eYe] at hy
      exact g4 y c (hcl y c hy)
    · have e0 : Y.pn = [] := by rw [← eY]; rfl
      rw [e0] at hp
      exact absurd (show p ∈ ([] : List (Addr × Obj)) from hp) (by simp)
  -- the loop
  have loop : ∀ s₃ : Shared,s₃ = { s2 with heap := h₁,toks := s2.toks + ([] : List (Str × Value)).length } →
      codeAny (model X.prog X.w) X.A (.compLoop (.ListComp elt [⟨.Name x px,iter,ifs,0⟩] scope pos) 0 (.ref it) (.ref D) (compEnvC scope cl C X.env))
        (compPost (model X.prog X.w) X.A X.xe use R (.ref D) C) s₃ := by
    rintro s₃ rfl
    rw [← eYe,← eYA,← eYp,← eYw]
    refine compLoop_any (λ n s' => ∃ i z H' zs,Inv Y [] (z :: frees js σ) H' s' ∧ tn i s'.heap ∧ (∀ b ∈ fp,H' b = none) ∧ H' D = some (.lst zs) ∧ W i n zs H') ?_ m0
      ⟨0,none,_,[],IY,T.keep 0 _ _ st2 (λ b _ o q => k34 b o (k23 b o q)),λ b hb => ?_,upd_same,w0⟩
    · rintro n s4 ⟨i,z,H4,zs,I4,st4,fr4,hz4,w4⟩
      rcases turn i n zs H4 hz4 w4 with ⟨stop,qn⟩ | ⟨go,step⟩
      · refine thn (T'.done Y rfl rfl rfl eYc i [] s4 _ H4 _ I4 (stat fr4) st4 stop) λ r s5 ⟨hr,I5⟩ => ?_
        subst hr
        obtain ⟨m,hm,_⟩ := id I5.loc
        rw [eYl] at hm
        have hC5 : H4 C = none := by rw [← eYl]; exact I5.free
        have hC3 : P3.objs.size = C := eC
        show compPost (model Y.prog Y.w) Y.A X.xe use R (.ref D) C (.ok .next) s5
        rw [eYp,eYw,eYA]
        refine hend D C s5 H4 qn hC5 ⟨m,hm⟩ (λ h6 sb => ?_) ⟨?_,?_,?_,?_⟩
        · have un5 := I5.base
          rw [eYfs,eYex,eYH,eYs] at un5
          have un6 : Un (frs X.stack) fp (upd H2 D (.lst [])) H4 P3 h6 := by
            have nC : ∀ b o,P3.get? b = some o → b ≠ C := λ b o q => by rw [← eC]; exact Nat.ne_of_lt (Heap.lt_size q)
            refine ⟨λ b o q n hb hx => (sb.2 b (nC b o q)).trans (un5.keep b o q n hb hx),λ b o q n hb hx => ?_,un5.free,λ b o q hx => ?_,un5.tups,un5.frzs,un5.tbls⟩
            · obtain ⟨sl,q2⟩ := un5.slot b o q n hb hx
              exact ⟨sl,(sb.2 b (nC b o q)).trans q2⟩
            · obtain ⟨o',q2⟩ := un5.there b o q hx
              exact ⟨o',(sb.2 b (nC b o q)).trans q2⟩
          have hok6 : HOk X.prog X.w H4 h6 := λ b ob q => by
            have q5 := I5.hok b ob q
            rw [eYp,eYw] at q5
            refine q5.stay (λ c w' hc' q' => (sb.2 c ?_).trans q') (λ _ q' => q') λ _ _ q' => q'
            rintro rfl
            rcases hc' with rfl | hc'
            · rw [hC5] at q; cases q
            · rw [hC5] at hc'; cases hc'
          have os5 : s5.os = s2.os := by have := I5.os; rw [eYs] at this; exact this
          refine I3.call' (s' := { s5 with heap := h6 }) (ch := fp) os5 un6 hok6 I5.bare λ b hb => ?_
          obtain ⟨_,g1,g2,g3,g4,g5⟩ := f2 b hb
          exact ⟨g3,g1,g4,g5⟩
        · rw [← hC3]
          exact I3.sz
        · obtain ⟨m',⟨oL,_,_,hoL,_⟩,_⟩ := I3.loc
          rw [← hC3]
          exact (Nat.ne_of_lt (Heap.lt_size hoL)).symm
        · intro y c hy
          obtain ⟨_,o,ho,_⟩ := I3.cell y c hy
          rw [← hC3]
          exact Nat.ne_of_lt (Heap.lt_size ho)
        · intro p hp
          rw [← hC3]
          exact Nat.ne_of_lt (Heap.lt_size (I3.pin p hp).1)
      · refine thn (T'.item Y rfl rfl rfl eYc i [] s4 _ H4 _ I4 (stat fr4) st4 go) λ r s5 ⟨u,hr,h5⟩ => ?_
        subst hr
        refine thn h5 λ _ s6 ⟨y,H6,I6,r6,y6,st6,fr6⟩ => ?_
        have I6' := I6.pinned (stat fr6) (T.obj _ _ st6)
        have q6 := step y H6 y6
        have back : ∀ {σ7 : L2.St} {H7 : Hp} {s7 : Shared},Inv Y ([] ++ pinsAt fp s6.heap) σ7 H7 s7 → tn (i + 1) s7.heap ∧ ∀ b ∈ fp,H7 b = none := λ {σ7 H7 s7} I7 =>
          ⟨T.keep _ _ _ st6 λ b hb o e => (I7.pin (b,o) (List.mem_append_right _ (List.mem_append_right _ (mem_pinsAt hb e)))).1,λ b hb => by
            obtain ⟨o,e,_⟩ := T.obj _ _ st6 b hb
            exact (I7.pin (b,o) (List.mem_append_right _ (List.mem_append_right _ (mem_pinsAt hb e)))).2.1⟩
        refine wpAny_mono (hg' _ s6 _ H6 y u (λ σ' H' => σ' = some y :: frees js σ ∧ H' = H6) I6' r6 ⟨rfl,rfl⟩) (λ _ s7 ⟨σ7,H7,I7,e7,e7'⟩ => ?_) λ _ _ z => by rw [eYx] at z; exact z
        subst e7 e7'
        refine wpAny_mono (ht' _ s7 _ H7 _ I7 q6) (λ ok s8 ⟨H8,I8,q8⟩ => ?_) λ _ _ z => by rw [eYx] at z; exact z
        cases ok with
        | false =>
          rw [if_neg Bool.false_ne_true] at q8 ⊢
          obtain ⟨zs',m',hz',hm',w'⟩ := q8
          obtain ⟨b1,b2⟩ := back I8
          exact ⟨m',hm',i + 1,some y,H8,zs',I8.unpinned,b1,b2,hz',w'⟩
        | true =>
          rw [if_pos rfl] at q8 ⊢
          refine wpAny_mono (he' _ s8 _ H8 _ I8 q8) (λ u9 s9 ⟨v9,H9,I9,r9,zs9,hz9,hl9,m9,hm9,w9⟩ => ?_) λ _ _ z => by rw [eYx] at z; exact z
          refine wpAny_mono (mt_append (X := Y) _ s9 _ H9 (.ref D) [v9] (.ref D) [u9] (λ _ H' => H' = upd H9 D (.lst (zs9 ++ [v9]))) I9 rfl (.cons r9 .nil) ⟨D,zs9,v9,rfl,rfl,hz9,hl9,rfl⟩) (λ _ s10 ⟨_,H10,I10,_,e10⟩ => ?_) λ _ _ z => by rw [eYx] at z; exact z
          subst e10
          obtain ⟨b1,b2⟩ := back I10
          exact ⟨m9,hm9,i + 1,some y,_,zs9 ++ [v9],I10.unpinned,b1,b2,upd_same,w9⟩
    · rw [upd_ne (Nat.ne_of_lt (fpD b hb))]
      exact (f2 b hb).1
  exact codeAny_compStart_list (loop _ rfl) (T.self _ 0 _ _ _ (T.keep 0 _ _ st2 (λ b _ o q => k34 b o (k23 b o q))) (loop _ rfl))
theorem comp_reading {X : Cx} {js : List Nat} {ρ : Ro} {ds : List D} (p : D→Bool) (f : D→D) (hz : ds.length≤1000000) (hfz : ∀ d∈ds,p d = true→Fz (f d)) :
    ∀ σ H Q,tN X ρ ((ds.filter p).map f) σ H Q → tComp X js (tSrc X ρ ds) (λ Y σ H Q => ∃ d,d ∈ ds ∧ tB Y (some d :: freesD js ρ) (p d) σ H Q) (λ Y σ H Q => ∃ d,d ∈ ds ∧ p d = true ∧ tD Y (some d :: freesD js ρ) (f d) σ H Q) σ H Q := by
  rintro σ H Q ⟨r,q⟩
  refine ⟨r,λ J H2 s2 ok D hD Y eH eK => ?_⟩
  -- the invariant: what was there stands,the list holds what came of the items so far
  have fzs : ∀ (i : Nat),∀ d ∈ ((ds.take i).filter p).map f,Fz d := λ i d hd => by
    obtain ⟨d',h1,rfl⟩ := List.mem_map.mp hd
    obtain ⟨h2,h3⟩ := List.mem_filter.mp h1
    exact hfz d' (List.mem_of_mem_take h2) h3
  refine ⟨λ i m zs H3 => m = ds.length - i ∧ i ≤ ds.length ∧ (∀ b o,H2 b = some o → H3 b = some o) ∧ IsAll X.K H3 zs (((ds.take i).filter p).map f),⟨ds.length,by simp,Nat.zero_le _,same_new hD,?_⟩,?_⟩
  · simpa using IsAll.nil
  · rintro i m zs H3 hzs ⟨rfl,hil,k3,hA⟩
    obtain ⟨stop,go⟩ := ok H3 k3
    by_cases hlt : i < ds.length
    · obtain ⟨g,y⟩ := go i ds[i] (by simp [hlt])
      refine .inr ⟨g,λ v H4 hy => ?_⟩
      obtain ⟨rfl,hv⟩ := y v H4 hy
      have hmem : ds[i] ∈ ds := List.getElem_mem hlt
      have r3 : RelE X H4 σ ρ := r.mono (s2.trans k3)
      refine ⟨ds[i],hmem,relE_blk eK r3 hv,λ H5 s5 => ?_⟩
      have etake : ds.take (i + 1) = ds.take i ++ [ds[i]] := by rw [List.take_succ_eq_append_getElem hlt]
      cases hp : p ds[i] with
      | false =>
        refine iteF ⟨zs,ds.length - (i + 1),s5 _ _ hzs,by omega,rfl,hlt,λ b o h => s5 _ _ (k3 b o h),?_⟩
        rw [etake,List.filter_append]
        simpa [hp] using hA.mono s5
      | true =>
        refine iteT ⟨ds[i],hmem,hp,(relE_blk eK r3 hv).mono s5,λ y H6 s6 hy6 => ⟨zs,s6 _ _ (s5 _ _ hzs),?_,ds.length - (i + 1),by omega,rfl,hlt,λ b o h => ?_,?_⟩⟩
        · have e1 := hA.length
          rw [List.length_map] at e1
          have e2 := List.length_filter_le p (ds.take i)
          rw [List.length_take] at e2
          rw [sizeLine_eq]
          omega
        · rw [upd_ne (ne_of_none h hD)]
          exact s6 _ _ (s5 _ _ (k3 b o h))
        · have hD6 : H6 D = some (.lst zs) := s6 _ _ (s5 _ _ hzs)
          have kt : KT H6 (upd H6 D (.lst (zs ++ [y]))) :=
            ⟨λ b xs h => by rw [upd_ne (ne_of h hD6 (by intro z; cases z))]; exact h,λ b o u h => by rw [upd_ne (ne_of h hD6 (by intro z; cases z))]; exact h⟩
          rw [etake,List.filter_append,List.map_append]
          refine IsAll.append ((hA.mono (s5.trans s6)).keep kt (fzs i)) ?_
          rw [eK] at hy6
          simpa [hp] using IsAll.cons (hy6.keep kt (hfz _ hmem hp)) .nil
    · refine .inl ⟨stop i (by omega),q D zs H3 (s2.free hD) (s2.trans k3) hzs ?_⟩
      have : ds.take i = ds := List.take_of_length_le (by omega)
      rw [this] at hA
      exact hA
theorem ps_setComp {X : Cx} {elt iter : Expr} {x : Str} {px : Pos} {ifs : List Expr} {scope : Scope} {cl : List (Str × Addr)} {pos : Pos} {ys : List Str} {js : List Nat} {wi : TI} {tt : Cx→TT} {te : Cx→TE} {i : Nat} {y : Str} {py spos : Pos}
    (hN : X.N.Nodup) (hi0 : X.N[i]? = some y) (hy : X.env.scope.names.lookup y = some .local) (hsw : swapsWith (.ListComp elt [⟨.Name x px,iter,ifs,0⟩] scope pos) (some (.Name y py)) spos.line X.env = pure true)
    (hc : X.calm = true) (hi : PI X (.Name x px) iter wi)
    (ht : ∀ C s₀ H₀ fp,PTs (blk X scope cl (x :: ys) C s₀ H₀ fp) ifs (tt (blk X scope cl (x :: ys) C s₀ H₀ fp)))
    (he : ∀ C s₀ H₀ fp,PE (blk X scope cl (x :: ys) C s₀ H₀ fp) elt (te (blk X scope cl (x :: ys) C s₀ H₀ fp)))
    (hclos : closureFor scope X.env = pure cl) (hcell : ∀ y ∈ scope.names,y.2 ≠ .cell) (hkind : scope.kind = .function)
    (hnames : ∀ y ∈ scope.names,y.2 = .local → scope.names.lookup y.1 = some .local) (hx : scope.names.lookup x = some .local) (hnd : (x :: ys).Nodup)
    (hcl : ∀ y c,cl.lookup y = some c → X.env.cells.lookup y = some c)
    (hhas : ∀ y,(relabel scope X.env).names.lookup y = some .cell ∨ (relabel scope X.env).names.lookup y = some .free → ∃ c,cl.lookup y = some c)
    (hjs : js.length = ys.length) (hjy : ∀ (i j : Nat) (y : Str),js[i]? = some j → ys[i]? = some y → X.N[j]? = some y ∧ Vis X.env.scope y ∧ (X.env.kindOf y = some .cell ∨ X.env.kindOf y = some .free) ∧ ((relabel scope X.env).names.lookup y = some .cell ∨ (relabel scope X.env).names.lookup y = some .free))
    (hs : ∀ x,foldedSetIterable iter X.env x = pure x) :
    PS X (.Assign [.Name y py] (.ListComp elt [⟨.Name x px,iter,ifs,0⟩] scope pos) spos) (tAsg (tComp X js wi tt te) (gName i)) := by
  intro pins s σ H Dn I h
  rw [exec_Assign_Name_used _ _ _ _ hsw]
  refine wpAny_bind (wpAny_standAt (wpAny_bind ?_))
  show wpAny _ X.A (do let _ ← comprehension (.ListComp elt [⟨.Name x px,iter,ifs,0⟩] scope pos) scope X.env _ (newList []) false (eval iter X.env) (some (assign (.Name y py) X.env))) _ _ s
  refine wpAny_bind (wpAny_mono (comp_core (use := some (assign (.Name y py) X.env)) (R := λ _ s' => SP X pins Dn .next s') hc hi ht he hclos hcell hkind hnames hx hnd hcl hhas hjs hjy hs I h (λ D C s5 H4 q hC ns inv cc => ?_)) (λ _ s' hq => wpAny_pure (wpAny_pure hq)) λ _ _ e => e)
  show wpAny _ X.A (assign (.Name y py) X.env (.ref D)) _ _ s5
  have I5 : Inv X pins σ H4 s5 := inv s5.heap (Heap.SameBut.refl _ _)
  refine wpAny_assign_Name (store_ok2 (v := .ref D) I5 hN hi0 (.inl hy) rfl (λ s6 I6 ⟨a,sb,ha⟩ => ?_) (.inr hy))
  obtain ⟨m,hm⟩ := ns
  have aC : C ≠ a := by
    rcases ha with rfl | ha
    · exact cc.2.1
    · exact λ z => cc.2.2.1 _ _ ha z.symm
  refine ⟨m,hm.sameBut sb aC,λ h7 sb7 => ⟨_,H4,?_,q⟩⟩
  have un : Un (frs X.stack) [C] H4 H4 s6.heap h7 := by
    have nC : ∀ b,b ∉ [C] → b ≠ C := λ b hb z => hb (z ▸ List.mem_cons_self)
    exact ⟨λ b o q n hb hx => (sb7.2 b (nC b hx)).trans q,λ b o q n hb hx => ⟨o.slots,(sb7.2 b (nC b hx)).trans q⟩,λ b o q n hx => n,λ b o q hx => ⟨o,(sb7.2 b (nC b hx)).trans q⟩,λ _ _ q => q,λ _ _ _ q => q,λ _ ps q => ⟨#[],by rw [Array.append_empty]; exact q⟩⟩
  have hok7 : HOk X.prog X.w H4 h7 := λ b ob q => by
    refine (I6.hok b ob q).stay (λ c w' hc' q' => (sb7.2 c ?_).trans q') (λ _ q' => q') λ _ _ q' => q'
    rintro rfl
    rcases hc' with rfl | hc'
    · rw [hC] at q; cases q
    · rw [hC] at hc'; cases hc'
  refine I6.call' (s' := { s6 with heap := h7 }) (ch := [C]) rfl un hok7 I6.bare λ b hb => ?_
  obtain rfl : b = C := List.mem_singleton.mp hb
  exact ⟨.inr cc.1,cc.2.1,cc.2.2.1,cc.2.2.2⟩
section
variable {X : Cx} {ρ : Ro} {ds : List D} {pos spos py : Pos} {rest : List Stmt} {P : Po}
theorem do_setC (n : Nat) {elt iter : Expr} {x y : Str} {px : Pos} {ifs : List Expr} {scope : Scope} (cl : List (Str × Addr)) (ys : List Str) (js : List Nat) (p : D→Bool) (f : D→D)
    (hi : Src X (.Name x px) iter ρ ds) (hz : ds.length ≤ 1000000) (hfz : ∀ d ∈ ds,p d = true → Fz (f d))
    (ht : ∀ C s₀ H₀ fp,∀ d ∈ ds,Ets (blk X scope cl (x :: ys) C s₀ H₀ fp) ifs (some d :: freesD js ρ) (p d))
    (he : ∀ C s₀ H₀ fp,∀ d ∈ ds,p d = true → Ev (blk X scope cl (x :: ys) C s₀ H₀ fp) elt (some d :: freesD js ρ) (f d))
    (h : ∀ l,¬ Mu ρ l → Do X rest (ρ.set n (some (.lst l ((ds.filter p).map f)))) P) (hN : X.N.Nodup) (hi0 : X.N[n]? = some y := by rfl) (hy : X.env.scope.names.lookup y = some .local := by rfl)
    (hsw : swapsWith (.ListComp elt [⟨.Name x px,iter,ifs,0⟩] scope pos) (some (.Name y py)) spos.line X.env = pure true := by rfl)
    (hc : X.calm = true := by rfl) (hclos : closureFor scope X.env = pure cl := by rfl) (hcell : scope.names.all (λ y => !(y.2 == .cell)) = true := by rfl) (hkind : scope.kind = .function := by rfl)
    (hnames : scope.names.all (λ y => !(y.2 == .local) || (scope.names.lookup y.1 == some .local)) = true := by rfl) (hx : scope.names.lookup x = some .local := by rfl) (hnd : (x :: ys).Nodup := by decide)
    (hcl : cl.map (λ p => X.env.cells.lookup p.1) = cl.map (λ p => some p.2) := by rfl) (hhas : scope.names.all (λ y => !(y.2 == .free) || (cl.lookup y.1).isSome) = true := by rfl)
    (hjs : js.length = ys.length := by rfl) (hNj : js.map (λ j => X.N[j]?) = ys.map some := by rfl) (hK : ys.map (λ y => X.env.scope.names.lookup y) = ys.map (λ _ => some .cell) := by rfl) (hR : ys.map (λ y => (relabel scope X.env).names.lookup y) = ys.map (λ _ => some .cell) := by rfl)
    (hs : ∀ x,foldedSetIterable iter X.env x = pure x := by intro _; rfl) : Do X (.Assign [.Name y py] (.ListComp elt [⟨.Name x px,iter,ifs,0⟩] scope pos) spos :: rest) ρ P := by
  have hcell' : ∀ y ∈ scope.names,y.2 ≠ .cell := λ y hy z => by
    have := List.all_eq_true.mp hcell y hy
    rw [z] at this
    cases this
  have hz' : ∀ d ∈ (ds.filter p).map f,Fz d := λ d hd => by
    obtain ⟨d',h1,rfl⟩ := List.mem_map.mp hd
    exact hfz d' (List.mem_filter.mp h1).1 (List.mem_filter.mp h1).2
  refine do_seq (M := λ ρ' => ∃ l,¬ Mu ρ l ∧ ρ' = ρ.set n (some (.lst l ((ds.filter p).map f)))) (PS.imp (ps_setComp (cl := cl) (ys := ys) (js := js) (wi := tSrc X ρ ds) (tt := λ Y σ H Q => ∃ d,d ∈ ds ∧ tB Y (some d :: freesD js ρ) (p d) σ H Q) (te := λ Y σ H Q => ∃ d,d ∈ ds ∧ p d = true ∧ tD Y (some d :: freesD js ρ) (f d) σ H Q) hN hi0 hy hsw hc hi
    (λ C s₀ H₀ fp pins s σ H Q I ⟨d,hd,q⟩ => ht C s₀ H₀ fp d hd pins s σ H Q I q) (λ C s₀ H₀ fp pins s σ H Q I ⟨d,hd,hp,q⟩ => he C s₀ H₀ fp d hd hp pins s σ H Q I q) hclos hcell' hkind (λ y hy z => ?_) hx hnd (hcl_of λ q hq => map_at hcl q hq) (has_of hcell' λ q hq z => ?_) hjs (λ i j y hj hy => ?_) hs) ?_) (λ _ ⟨l,z,e⟩ => e ▸ h l z)
  · have := List.all_eq_true.mp hnames y hy
    rw [z] at this
    simpa using this
  · have := List.all_eq_true.mp hhas q hq
    rw [z] at this
    have h2 : (cl.lookup q.1).isSome = true := by simpa using this
    exact Option.isSome_iff_exists.mp h2
  · have my : y ∈ ys := List.mem_of_getElem? hy
    have e1 : X.N[j]? = some y := by
      have : (js.map (λ j => X.N[j]?))[i]? = (ys.map some)[i]? := by rw [hNj]
      rw [List.getElem?_map,List.getElem?_map,hj,hy] at this
      simpa using this
    have e2 := map_at hK y my
    have e3 := map_at hR y my
    exact ⟨e1,.inr (.inl e2),.inl e2,.inl e3⟩
  · rintro D σ H ⟨r,q1,q2,q3,q4⟩
    refine comp_reading p f hz hfz σ H _ ⟨r.e,λ l vs H' hl s e1 h' => q1 _ H' _ (Go.set s λ a z => ?_) ((r.mono s).set (.lst e1 h') n (.inr (.inr (.lst hz'))) λ a z => ?_) ⟨l,λ m => ?_,rfl⟩⟩
    · cases z
      exact .inr hl
    · cases z
      exact r.same.free hl
    · obtain ⟨ys,z,_⟩ := r.mu m
      rw [hl] at z
      cases z
end
end FL
namespace M
theorem emod_gcd (a b : Int) : Int.gcd b (a % b) = Int.gcd a b := by
  rw [Int.emod_def,Int.gcd_sub_mul_left_right,Int.gcd_comm]
theorem fmod_lt (a : Int) {b : Int} (h : b≠0) : (a.fmod b).natAbs < b.natAbs := by
  rcases Int.lt_or_gt_of_ne h with h | h
  · have e : a.fmod b = -((-a).fmod (-b)) := by rw [Int.neg_fmod_neg]; omega
    have h1 := Int.fmod_nonneg_of_pos (-a) (show 0 < -b by omega)
    have h2 := Int.fmod_lt_of_pos (-a) (show 0 < -b by omega)
    omega
  · have h1 := Int.fmod_nonneg_of_pos a h
    have h2 := Int.fmod_lt_of_pos a h
    omega
theorem gcd_abs (a b : Int) : Int.gcd (a.natAbs : Int) (b.natAbs : Int) = Int.gcd a b := by
  simp [Int.gcd]
theorem bar_neg {a b g : Int} (ha : 0 < a) (hg : 0≤g) : b * b - 4 * a * (b * b / (4 * a) + 1 + g) < 0 := by
  have h4 : 0 < 4 * a := by omega
  have h1 := Int.lt_mul_ediv_self_add (x := b * b) h4
  have h2 : 4 * a * (b * b / (4 * a) + 1 + g) = 4 * a * (b * b / (4 * a)) + 4 * a + 4 * a * g := by
    rw [Int.mul_add,Int.mul_add,Int.mul_one]
  have h3 : 0 ≤ 4 * a * g := Int.mul_nonneg (by omega) hg
  omega
end M
namespace MT
def Wo (a b c x y : Int) : Int := a * x * x + b * x * y + c * y * y
structure Least (a b c : Int) : Prop where
  lo : -a < b
  hi : b ≤ a
  ac : a ≤ c
  eq : a = c → 0 ≤ b
theorem sq_pos {x : Int} (h : x≠0) : 1≤x * x := by
  rcases Int.lt_or_gt_of_ne h with h | h
  · have := Int.mul_pos (show 0 < -x by omega) (show 0 < -x by omega)
    grind
  · have := Int.mul_pos h h
    omega
theorem sq_nonneg (x : Int) : 0≤x * x := by
  by_cases h : x = 0
  · subst h; decide
  · have := sq_pos h; omega
theorem worth_ge {a b c x y : Int} (ha : 0 < a) (L : Least a b c) (hx : x≠0) (hy : y≠0) :
    ∃ m e : Int,1 ≤ m ∧ 0 ≤ e ∧ (x * y = m ∧ e = a + b ∨ x * y = -m ∧ e = a - b) ∧ m ≤ x * x + y * y - m ∧ Wo a b c x y = a * (x * x + y * y - m) + e * m + (c - a) * (y * y) := by
  have h0 : x * y ≠ 0 := Int.mul_ne_zero hx hy
  have h1 := sq_nonneg (x - y)
  have h2 := sq_nonneg (x + y)
  have lo := L.lo
  have hi := L.hi
  rcases Int.lt_or_gt_of_ne h0 with h | h
  · refine ⟨-(x * y),a - b,by omega,by omega,.inr ⟨by omega,rfl⟩,by grind,?_⟩
    unfold Wo; grind
  · refine ⟨x * y,a + b,by omega,by omega,.inl ⟨rfl,rfl⟩,by grind,?_⟩
    unfold Wo; grind
theorem sum3 {u v w : Int} (hu : 0≤u) (hv : 0≤v) (hw : 0≤w) (h : u + v + w = 0) : u = 0∧v = 0∧w = 0 := by omega
theorem sum2 {u v : Int} (hu : 0≤u) (hv : 0≤v) (h : u + 4 * v = 0) : u = 0 := by omega
theorem mul_nn {x y : Int} (hx : 0≤x) (hy : 0≤y) : 0≤x * y := Int.mul_nonneg hx hy
theorem worth_ge_a {a b c x y : Int} (ha : 0 < a) (L : Least a b c) (h : x≠0∨y≠0) : a≤Wo a b c x y := by
  have ac := L.ac
  by_cases hy : y = 0
  · subst hy
    have hx : x ≠ 0 := by omega
    have := Int.mul_le_mul_of_nonneg_left (sq_pos hx) (Int.le_of_lt ha)
    unfold Wo; grind
  · by_cases hx : x = 0
    · subst hx
      have := Int.mul_le_mul_of_nonneg_left (sq_pos hy) (show 0 ≤ c by omega)
      unfold Wo; grind
    · obtain ⟨m,e,h1,h2,_,h4,h5⟩ := worth_ge ha L hx hy
      have t1 := mul_nn (Int.le_of_lt ha) (show 0 ≤ x * x + y * y - m - 1 by omega)
      have t2 := mul_nn h2 (show 0 ≤ m by omega)
      have t3 := mul_nn (show 0 ≤ c - a by omega) (sq_nonneg y)
      rw [h5]
      grind
theorem worth_eq_a {a b c x y : Int} (ha : 0 < a) (L : Least a b c) (hx : x≠0) (hy : y≠0) (h : Wo a b c x y = a) : a = c∧b = a∧x * y = -1 := by
  obtain ⟨m,e,h1,h2,h3,h4,h5⟩ := worth_ge ha L hx hy
  have ac := L.ac
  have lo := L.lo
  have t1 := mul_nn (Int.le_of_lt ha) (show 0 ≤ x * x + y * y - m - 1 by omega)
  have t2 := mul_nn h2 (show 0 ≤ m by omega)
  have t3 := mul_nn (show 0 ≤ c - a by omega) (sq_nonneg y)
  rw [h5] at h
  obtain ⟨s1,s2,s3⟩ := sum3 t1 t2 t3 (by grind)
  have e0 : e = 0 := by
    rcases Int.mul_eq_zero.mp s2 with z | z
    · exact z
    · omega
  have c0 : c - a = 0 := by
    rcases Int.mul_eq_zero.mp s3 with z | z
    · exact z
    · have := sq_pos hy; omega
  have q0 : x * x + y * y - m - 1 = 0 := by
    rcases Int.mul_eq_zero.mp s1 with z | z
    · omega
    · exact z
  have m1 : m = 1 := by omega
  rcases h3 with ⟨g1,g2⟩ | ⟨g1,g2⟩
  · omega
  · exact ⟨by omega,by omega,by omega⟩
theorem near_mod {a b b' k : Int} (ha : 0 < a) (h : b' = b + 2 * a * k) (l1 : -a < b) (l2 : b≤a) (l3 : -a < b') (l4 : b'≤a) : k = 0 := by
  have h1 : a * (2 * k) = b' - b := by grind
  rcases (show k = 0 ∨ 1 ≤ k ∨ k ≤ -1 by omega) with z | z | z
  · exact z
  · have := Int.mul_le_mul_of_nonneg_left (show (2 : Int) ≤ 2 * k by omega) (Int.le_of_lt ha)
    omega
  · have := Int.mul_le_mul_of_nonneg_left (show 2 * k ≤ (-2 : Int) by omega) (Int.le_of_lt ha)
    omega
theorem least_le {a b c a' b' c' p q r s : Int} (ha : 0 < a) (ha' : 0 < a') (L : Least a b c) (L' : Least a' b' c') (det : p * s - q * r = 1)
    (e1 : a' = Wo a b c p r) (e2 : b' = 2 * a * p * q + b * (p * s + q * r) + 2 * c * r * s) (e3 : c' = Wo a b c q s) (le : a' ≤ a) : a' = a ∧ b' = b ∧ c' = c := by
  have bar : b' * b' - 4 * a' * c' = b * b - 4 * a * c := by rw [e1,e2,e3]; unfold Wo; grind
  have lo := L.lo
  have hi := L.hi
  have ac := L.ac
  have lo' := L'.lo
  have hi' := L'.hi
  have ac' := L'.ac
  have ge : a ≤ a' := by
    rw [e1]
    refine worth_ge_a ha L ?_
    by_cases hp : p = 0
    · refine .inr λ hr => ?_
      rw [hp,hr] at det
      simp at det
    · exact .inl hp
  have ea : a' = a := by omega
  subst ea
  have fin : b' = b → a' = a' ∧ b' = b ∧ c' = c := λ z => ⟨rfl,z,by
    subst z
    have : a' * (4 * (c' - c)) = 0 := by grind
    rcases Int.mul_eq_zero.mp this with w | w <;> omega⟩
  by_cases hr : r = 0
  · -- a shift
    subst hr
    have ps : p * s = 1 := by omega
    have e2' : b' = b + 2 * a' * (p * q) := by grind
    have := near_mod ha e2' lo hi lo' hi'
    exact fin (by rw [e2',this]; omega)
  · by_cases hp : p = 0
    · -- the ends change places
      subst hp
      have qr : q * r = -1 := by omega
      have rr : r * r = 1 := by
        have h1 : q * q * (r * r) = 1 := by grind
        have h2 := sq_pos hr
        have h3 := sq_nonneg q
        have h4 : q * q ≠ 0 := by intro z; rw [z] at h1; simp at h1
        have h5 : 0 ≤ (q * q - 1) * (r * r) := mul_nn (by omega) (by omega)
        have h6 : 0 ≤ (r * r - 1) * (q * q) := mul_nn (by omega) h3
        grind
      have ca : c = a' := by unfold Wo at e1; grind
      have b0 : 0 ≤ b := L.eq ca.symm
      have e2' : b' = -b + 2 * a' * (r * s) := by grind
      by_cases hb : b = a'
      · -- (a,a,a)
        have : b' * b' - 4 * a' * c' = a' * a' - 4 * a' * a' := by rw [bar,hb,ca]
        have t1 := mul_nn (show 0 ≤ a' - b' by omega) (show 0 ≤ a' + b' by omega)
        have t2 := mul_nn (Int.le_of_lt ha) (show 0 ≤ c' - a' by omega)
        have s1 : (a' - b') * (a' + b') = 0 := sum2 t1 t2 (by grind)
        rcases Int.mul_eq_zero.mp s1 with w | w
        · exact fin (by omega)
        · omega
      · have := near_mod ha e2' (by omega) (by omega) lo' hi'
        rw [this] at e2'
        have e4 : b' = -b := by omega
        have : a' * (4 * (c' - c)) = 0 := by rw [e4] at bar; grind
        have ec : c' = c := by rcases Int.mul_eq_zero.mp this with w | w <;> omega
        have b0' := L'.eq (by omega)
        exact fin (by omega)
    · -- (a,a,a)
      obtain ⟨g1,g2,g3⟩ := worth_eq_a ha L hp hr e1.symm
      have : b' * b' - 4 * a' * c' = a' * a' - 4 * a' * a' := by rw [bar,g2,← g1]
      have t1 := mul_nn (show 0 ≤ a' - b' by omega) (show 0 ≤ a' + b' by omega)
      have t2 := mul_nn (Int.le_of_lt ha) (show 0 ≤ c' - a' by omega)
      have s1 : (a' - b') * (a' + b') = 0 := sum2 t1 t2 (by grind)
      rcases Int.mul_eq_zero.mp s1 with w | w
      · exact fin (by omega)
      · omega
theorem least_unique {a b c a' b' c' p q r s : Int} (ha : 0 < a) (ha' : 0 < a') (L : Least a b c) (L' : Least a' b' c') (det : p * s - q * r = 1)
    (e1 : a' = Wo a b c p r) (e2 : b' = 2 * a * p * q + b * (p * s + q * r) + 2 * c * r * s) (e3 : c' = Wo a b c q s) : a' = a ∧ b' = b ∧ c' = c := by
  by_cases h : a' ≤ a
  · exact least_le ha ha' L L' det e1 e2 e3 h
  · -- the way back
    have det' : s * p - (-q) * (-r) = 1 := by grind
    have f1 : a = Wo a' b' c' s (-r) := by rw [e1,e2,e3]; unfold Wo; grind
    have f2 : b = 2 * a' * s * (-q) + b' * (s * p + (-q) * (-r)) + 2 * c' * (-r) * p := by rw [e1,e2,e3]; unfold Wo; grind
    have f3 : c = Wo a' b' c' (-q) p := by rw [e1,e2,e3]; unfold Wo; grind
    obtain ⟨g1,g2,g3⟩ := least_le ha' ha L' L det' f1 f2 f3 (by omega)
    exact ⟨g1.symm,g2.symm,g3.symm⟩
end MT
namespace MT
theorem wo_pos {a b c x y : Int} (ha : 0 < a) (hd : b * b - 4 * a * c < 0) (h : x≠0∨y≠0) : 0 < Wo a b c x y := by
  have e : 4 * (a * Wo a b c x y) = (2 * a * x + b * y) * (2 * a * x + b * y) + (4 * a * c - b * b) * (y * y) := by unfold Wo; grind
  have s1 := sq_nonneg (2 * a * x + b * y)
  have key : 0 < a * Wo a b c x y := by
    by_cases hy : y = 0
    · subst hy
      have hx : x ≠ 0 := by omega
      have h1 := sq_pos hx
      have h2 : 0 < a * (x * x) := Int.mul_pos ha (by omega)
      have h3 : 0 < a * (a * (x * x)) := Int.mul_pos ha h2
      unfold Wo
      grind
    · have h1 := sq_pos hy
      have h2 : 0 < (4 * a * c - b * b) * (y * y) := Int.mul_pos (by omega) (by omega)
      omega
  by_cases z : 0 < Wo a b c x y
  · exact z
  · have : a * Wo a b c x y ≤ 0 := Int.mul_nonpos_of_nonneg_of_nonpos (Int.le_of_lt ha) (by omega)
    omega
def leastB (a b c : Int) : Bool := decide (-a < b) && decide (b≤a) && decide (a≤c) && (decide (a≠c) || decide (0≤b))
theorem leastB_iff {a b c : Int} : leastB a b c = true↔Least a b c := by
  unfold leastB
  simp only [Bool.and_eq_true,Bool.or_eq_true,decide_eq_true_eq]
  constructor
  · rintro ⟨⟨⟨h1,h2⟩,h3⟩,h4⟩
    exact ⟨h1,h2,h3,λ z => by rcases h4 with h | h <;> omega⟩
  · rintro ⟨h1,h2,h3,h4⟩
    refine ⟨⟨⟨h1,h2⟩,h3⟩,?_⟩
    by_cases z : a = c
    · exact .inr (h4 z)
    · exact .inl z
theorem least_small {a b c : Int} (ha : 0 < a) (L : Least a b c) : a≤4 * a * c - b * b∧c≤4 * a * c - b * b∧b.natAbs≤(4 * a * c - b * b).natAbs := by
  have lo := L.lo
  have hi := L.hi
  have ac := L.ac
  have h1 := mul_nn (show 0 ≤ a - b by omega) (show 0 ≤ a + b by omega)
  have h2 := mul_nn (Int.le_of_lt ha) (show 0 ≤ c - a by omega)
  have h3 := mul_nn (show 0 ≤ a - 1 by omega) (show 0 ≤ c by omega)
  have h4 : 3 * (a * c) ≤ 4 * a * c - b * b := by grind
  have h5 : c ≤ a * c := by grind
  omega
theorem turn_small {a b c x y v : Int} (ha : 0 < a) (hd : b * b - 4 * a * c < 0) (e : v = Wo a b c x y) : y * y≤4 * (a * v)∧(2 * a * x + b * y) * (2 * a * x + b * y)≤4 * (a * v) := by
  have e1 : 4 * (a * v) = (2 * a * x + b * y) * (2 * a * x + b * y) + (4 * a * c - b * b) * (y * y) := by rw [e]; unfold Wo; grind
  have s1 := sq_nonneg (2 * a * x + b * y)
  have s2 := mul_nn (show 0 ≤ 4 * a * c - b * b - 1 by omega) (sq_nonneg y)
  have s3 : (4 * a * c - b * b) * (y * y) = (4 * a * c - b * b - 1) * (y * y) + y * y := by grind
  have s4 := sq_nonneg y
  omega
end MT
namespace MT
theorem z_small {x y z : Int} (hx : 0 < x) (h1 : -x≤y) (h2 : y≤x) (hd : y * y - 4 * x * z < 0) : 0 < z∧4 * z≤x - (y * y - 4 * x * z) := by
  have t1 := mul_nn (show 0 ≤ x - y by omega) (show 0 ≤ x + y by omega)
  have t2 := mul_nn (show 0 ≤ x - 1 by omega) (show 0 ≤ -(y * y - 4 * x * z) by omega)
  constructor
  · by_cases hz : 0 < z
    · exact hz
    · have := mul_nn (Int.le_of_lt hx) (show 0 ≤ -z by omega)
      have := sq_nonneg y
      grind
  · refine Int.le_of_mul_le_mul_left (a := x) ?_ hx
    grind
def meas (x y z : Int) : Nat := 3 * x.natAbs + (if -x < y∧y≤x then (if x = z∧y < 0 then 1 else 0) else 2)
end MT
namespace MT
end MT
namespace CM
open PySem PySem.Spec L2 FL
def p_is_whole (ds : List D) (d : D) : Prop := ∃ i : Int,ds = [.int i]∧d = .bl true
def p_is_whole_tuple (ds : List D) (d : D) : Prop := ∃ ns : List Int,ds = [.tup (ns.map D.int),.int (ns.length : Int)]∧ns.length≤1000∧d = .bl true
def p_common_divisor (ds : List D) (d : D) : Prop := ∃ a b : Int,ds = [.int a,.int b]∧d = .int (Int.gcd a b : Int)
def p_bar_of_numbers (ds : List D) (d : D) : Prop := ∃ a b c : Int,ds = [.int a,.int b,.int c]∧Bd a 8000∧Bd b 8000∧Bd c 8000∧d = .int (b * b - 4 * a * c)
structure FormN (a b c : Int) : Prop where
  pos : 0 < a
  bar : b * b - 4 * a * c < 0
  sa : Bd a 8000
  sb : Bd b 8000
  sc : Bd c 8000
abbrev formD (a b c : Int) : D := .tup [.int a,.int b,.int c]
def p_is_form (ds : List D) (d : D) : Prop := ∃ a b c : Int,ds = [formD a b c]∧FormN a b c∧d = .bl true
def p_require_form (ds : List D) (d : D) : Prop := ∃ a b c : Int,ds = [formD a b c]∧FormN a b c∧d = .non
def p_bar_of (ds : List D) (d : D) : Prop := ∃ a b c : Int,ds = [formD a b c]∧FormN a b c∧d = .int (b * b - 4 * a * c)
def p_worth (ds : List D) (d : D) : Prop := ∃ a b c x y : Int,ds = [formD a b c,.tup [.int x,.int y]]∧FormN a b c∧Bd x 8000∧Bd y 8000∧d = .int (a * x * x + b * x * y + c * y * y)
def p_is_bare (ds : List D) (d : D) : Prop := ∃ a b c : Int,ds = [formD a b c]∧FormN a b c∧d = .bl (decide ((Int.gcd (Int.gcd a b) c : Int) = 1))
abbrev cell (ns : List Int) (k : Nat) : Int := ns.getD k 0
abbrev scrD (ns : List Int) : D := .ls (ns.map D.int)
def p_law_cell_at (ds : List D) (d : D) : Prop := ∃ (ns : List Int) (k : Nat),ds = [scrD ns,.int (k : Int)]∧d = .int (cell ns k)
def Sizes (ns : List Int) : Prop := ∀ k : Nat,Bd (cell ns k) 1048576
theorem fz_ints (ns : List Int) : Fz (.tup (ns.map D.int)) := .tup λ d hd => by
  obtain ⟨z,_,rfl⟩ := List.mem_map.mp hd
  exact .int z
theorem fz3 (a b c : Int) : Fz (formD a b c) := fz_ints [a,b,c]
theorem fz2 (a b : Int) : Fz (.tup [.int a,.int b]) := fz_ints [a,b]
def p_law (ds : List D) (d : D) : Prop := ∃ ns : List Int,ds = [scrD ns]∧ns.length≤63∧Sizes ns∧d = .bl true
theorem law_sp (ns : List Int) (hl : ns.length≤63) (hb : ∀ z∈ns,Builtin.Int.intBits z≤1048576) : p_law [.ls (ns.map D.int)] (.bl true) := by
  refine ⟨ns,rfl,hl,λ k => ⟨?_⟩,rfl⟩
  by_cases h : k < ns.length
  · have e : cell ns k = ns[k] := by simp [cell,List.getD,List.getElem?_eq_getElem h]
    rw [e]
    exact hb _ (List.getElem_mem h)
  · have e : cell ns k = 0 := by simp [cell,List.getD,List.getElem?_eq_none (Nat.le_of_not_lt h)]
    rw [e]
    exact Nat.le_trans (bd_0).lt (by decide)
structure Tx (mg : Str→Option Value) : Prop where
  abs : mg "abs" = none
  all : mg "all" = none
  any : mg "any" = none
  bool : mg "bool" = none
  dict : mg "dict" = none
  enumerate : mg "enumerate" = none
  int : mg "int" = none
  isi : mg "isinstance" = none
  len : mg "len" = none
  list : mg "list" = none
  max : mg "max" = none
  min : mg "min" = none
  range : mg "range" = none
  reversed : mg "reversed" = none
  set : mg "set" = none
  sorted : mg "sorted" = none
  str : mg "str" = none
  sum : mg "sum" = none
  tuple : mg "tuple" = none
  zip : mg "zip" = none
abbrev turD (p q r s : Int) : D := .tup [.int p,.int q,.int r,.int s]
abbrev plD (x y : Int) : D := .tup [.int x,.int y]
def p_law_sent (ds : List D) (d : D) : Prop := ∃ p q r s x y : Int,ds = [turD p q r s,plD x y]∧Bd p 8000∧Bd q 8000∧Bd r 8000∧Bd s 8000∧Bd x 8000∧Bd y 8000∧d = plD (p * x + q * y) (r * x + s * y)
abbrev wo (a b c x y : Int) : Int := a * x * x + b * x * y + c * y * y
theorem fz_int_list (ns : List Int) : ∀ d∈ns.map D.int,Fz d := λ d hd => by
  obtain ⟨z,_,rfl⟩ := List.mem_map.mp hd
  exact .int z
structure TurnN (p q r s : Int) : Prop where
  det : p * s - q * r = 1
  sp : Bd p 7000
  sq : Bd q 7000
  sr : Bd r 7000
  ss : Bd s 7000
def p_is_turning (ds : List D) (d : D) : Prop := ∃ p q r s : Int,ds = [turD p q r s]∧TurnN p q r s∧d = .bl true
def p_require_turning (ds : List D) (d : D) : Prop := ∃ p q r s : Int,ds = [turD p q r s]∧TurnN p q r s∧d = .non
theorem turned_worth (a b c p q r s x y : Int) : wo (wo a b c p r) (2 * a * p * q + b * (p * s + q * r) + 2 * c * r * s) (wo a b c q s) x y = wo a b c (p * x + q * y) (r * x + s * y) := by grind
def p_way_back (ds : List D) (d : D) : Prop := ∃ p q r s : Int,ds = [turD p q r s]∧TurnN p q r s∧d = turD s (-q) (-r) p
structure FormS (a b c : Int) : Prop where
  pos : 0 < a
  bar : b * b - 4 * a * c < 0
  sa : Bd a 3000
  sb : Bd b 3000
  sc : Bd c 3000
  sd : Bd (b * b - 4 * a * c) 1200
theorem FormS.n {a b c : Int} (h : FormS a b c) : FormN a b c := ⟨h.pos,h.bar,h.sa.up _ (by decide),h.sb.up _ (by decide),h.sc.up _ (by decide)⟩
structure Leads (a b c p q r s a' b' c' : Int) : Prop where
  det : p * s - q * r = 1
  e1 : a' = MT.Wo a b c p r
  e2 : b' = 2 * a * p * q + b * (p * s + q * r) + 2 * c * r * s
  e3 : c' = MT.Wo a b c q s
theorem Leads.bar {a b c p q r s a' b' c' : Int} (h : Leads a b c p q r s a' b' c') : b' * b' - 4 * a' * c' = b * b - 4 * a * c := by
  rw [h.e1,h.e2,h.e3]
  have := h.det
  unfold MT.Wo
  grind
theorem Leads.trans {a b c p q r s a' b' c' x y z v a2 b2 c2 : Int} (h : Leads a b c p q r s a' b' c') (g : Leads a' b' c' x y z v a2 b2 c2) : Leads a b c (p * x + q * z) (p * y + q * v) (r * x + s * z) (r * y + s * v) a2 b2 c2 := by
  have d1 := h.det
  have d2 := g.det
  refine ⟨by grind,?_,?_,?_⟩
  · rw [g.e1,h.e1,h.e2,h.e3]; unfold MT.Wo; grind
  · rw [g.e2,h.e1,h.e2,h.e3]; unfold MT.Wo; grind
  · rw [g.e3,h.e1,h.e2,h.e3]; unfold MT.Wo; grind
theorem Leads.back {a b c p q r s a' b' c' : Int} (h : Leads a b c p q r s a' b' c') : Leads a' b' c' s (-q) (-r) p a b c := by
  have d := h.det
  refine ⟨by grind,?_,?_,?_⟩
  · rw [h.e1,h.e2,h.e3]; unfold MT.Wo; grind
  · rw [h.e1,h.e2,h.e3]; unfold MT.Wo; grind
  · rw [h.e1,h.e2,h.e3]; unfold MT.Wo; grind
theorem col_bd {a b c x y v : Int} {n k : Nat} (ha : 0 < a) (hd : b * b - 4 * a * c < 0) (sa : Bd a 3000) (sb : Bd b 3000) (sv : Bd v n) (e : v = MT.Wo a b c x y) (hk : 3003 + n≤k + k) : Bd y k∧Bd x (3002 + k) := by
  obtain ⟨h1,h2⟩ := MT.turn_small ha hd e
  have s4 : Bd (4 * (a * v)) (k + k) := Bd.mul bd_4 (Bd.mul sa sv (3000 + n) (Nat.le_refl _)) _ (by omega)
  have by' : Bd y k := Bd.sqrt h1 s4
  have bz : Bd (2 * a * x + b * y) k := Bd.sqrt h2 s4
  refine ⟨by',Bd.factor ha ?_⟩
  have e2 : 2 * a * x = (2 * a * x + b * y) - b * y := by omega
  rw [e2]
  exact Bd.sub bz (Bd.mul sb by' (3000 + k) (Nat.le_refl _)) _ (by omega)
def pre_form (ds : List D) : Prop := ∃ a b c : Int,ds = [formD a b c]∧FormS a b c
def post_least_of (ds : List D) (d : D) : Prop := ∀ a b c : Int,ds = [formD a b c]→∃ a' b' c' p q r s : Int,d = .tup [formD a' b' c',turD p q r s]∧MT.Least a' b' c'∧FormS a' b' c'∧TurnN p q r s∧Leads a b c p q r s a' b' c'
def p_is_least (ds : List D) (d : D) : Prop := ∃ a b c : Int,ds = [formD a b c]∧FormN a b c∧d = .bl (MT.leastB a b c)
theorem least_bd {a b c : Int} (ha : 0 < a) (L : MT.Least a b c) (hd : b * b - 4 * a * c < 0) (sd : Bd (b * b - 4 * a * c) 1200) : FormS a b c := by
  obtain ⟨h1,h2,h3⟩ := MT.least_small ha L
  have ac := L.ac
  have up : ∀ {z : Int},z.natAbs ≤ (b * b - 4 * a * c).natAbs → Bd z 3000 := λ h => (sd.le h).up _ (by decide)
  exact ⟨ha,hd,up (by omega),up (by omega),up (by omega),sd⟩
theorem fz_pair {d e : D} (h1 : Fz d) (h2 : Fz e) : Fz (.tup [d,e]) := .tup λ x hx => by
  simp only [List.mem_cons,List.not_mem_nil,or_false] at hx
  rcases hx with rfl | rfl
  · exact h1
  · exact h2
theorem fz_post {ds : List D} {d : D} {a b c : Int} (hd : ds = [formD a b c]) (h : post_least_of ds d) : Fz d := by
  obtain ⟨a',b',c',p,q,r,s,rfl,_⟩ := h a b c hd
  exact fz_pair (fz3 _ _ _) (fz_ints [_,_,_,_])
def measAt (ρ : Ro) (i : Nat) : Nat := match ρ[i]? with
  | some (some (.tup [.int x,.int y,.int z])) => MT.meas x y z
  | _ => 0
theorem Leads.turn {a b c p q r s x y z : Int} (h : Leads a b c p q r s x y z) (f : FormS a b c) (g : FormS x y z) : TurnN p q r s := by
  obtain ⟨h1,h2⟩ := col_bd (k := 3002) f.pos f.bar f.sa f.sb g.sa h.e1 (by decide)
  obtain ⟨h3,h4⟩ := col_bd (k := 3002) f.pos f.bar f.sa f.sb g.sc h.e3 (by decide)
  exact ⟨h.det,h2.up _ (by decide),h4.up _ (by decide),h1.up _ (by decide),h3.up _ (by decide)⟩
theorem bd_quarter {z w : Int} {k : Nat} (hz : 0 < z) (h : 4 * z≤w) (hw : Bd w (k + 1)) : Bd z k := by
  refine .of_lt ?_
  have h1 := intBits_le_iff.mp hw.lt
  rw [Nat.pow_succ] at h1
  generalize 2 ^ k = m at *
  omega
theorem shift_ok {x y z : Int} (f : FormS x y z) : ∃ y' z' : Int,y' = y + 2 * x * ((x - y) / (2 * x))∧-x < y'∧y'≤x∧Leads x y z 1 ((x - y) / (2 * x)) 0 1 x y' z'∧FormS x y' z' := by
  have hx := f.pos
  generalize hk : (x - y) / (2 * x) = k
  have h1 : (x - y) = 2 * x * k + (x - y) % (2 * x) := by rw [← hk]; exact (Int.mul_ediv_add_emod (x - y) (2 * x)).symm
  have h2 := Int.emod_nonneg (x - y) (show 2 * x ≠ 0 by omega)
  have h3 := Int.emod_lt_of_pos (x - y) (show 0 < 2 * x by omega)
  have lo : -x < y + 2 * x * k := by omega
  have hi : y + 2 * x * k ≤ x := by omega
  have L : Leads x y z 1 k 0 1 x (y + 2 * x * k) (x * k * k + y * k + z) := by
    refine ⟨by omega,?_,?_,?_⟩ <;> (try unfold MT.Wo) <;> grind
  have bar := L.bar
  refine ⟨_,_,rfl,lo,hi,L,hx,by rw [bar]; exact f.bar,f.sa,f.sa.le (by omega),?_,by rw [bar]; exact f.sd⟩
  obtain ⟨z0,z1⟩ := MT.z_small hx (by omega) hi (by rw [bar]; exact f.bar)
  rw [bar] at z1
  exact bd_quarter z0 z1 (Bd.sub f.sa (f.sd.up 3000 (by decide)) _ (by decide))
theorem swap_ok {x y z : Int} (f : FormS x y z) (hz : 0 < z) : Leads x y z 0 (-1) 1 0 z (-y) x∧FormS z (-y) x := by
  have L : Leads x y z 0 (-1) 1 0 z (-y) x := by
    refine ⟨by omega,?_,?_,?_⟩ <;> (try unfold MT.Wo) <;> grind
  have bar := L.bar
  exact ⟨L,hz,by rw [bar]; exact f.bar,f.sc,⟨intBits_neg_le f.sb.lt⟩,f.sa,by rw [bar]; exact f.sd⟩
theorem FormS.zpos {x y z : Int} (f : FormS x y z) : 0 < z := by
  have h1 := f.pos
  have h2 := f.bar
  by_cases hz : 0 < z
  · exact hz
  · have := MT.mul_nn (Int.le_of_lt h1) (show 0 ≤ -z by omega)
    have := MT.sq_nonneg y
    grind
theorem fz_three {d e f : D} (h1 : Fz d) (h2 : Fz e) (h3 : Fz f) : Fz (.tup [d,e,f]) := .tup λ x hx => by
  simp only [List.mem_cons,List.not_mem_nil,or_false] at hx
  rcases hx with rfl | rfl | rfl
  · exact h1
  · exact h2
  · exact h3
end CM
namespace CM
open PySem PySem.Spec L2 FL FT
end CM
namespace CM
open PySem PySem.Spec L2 FL FT
end CM
namespace CM
open PySem PySem.Spec L2 FL FT
def isL : Option D→Bool
  | some (.lst _ _) => true
  | _ => false
theorem others_of {ρ : Ro} {n : Nat} (h : (ρ.set n none).any isL = false) {l : Addr} : ∀ (j : Nat) (es : List D),j≠n→ρ[j]?≠some (some (.lst l es)) := λ j es hj e => by
  have : (ρ.set n none)[j]? = some (some (.lst l es)) := by rw [List.getElem?_set_ne (λ z => hj z.symm)]; exact e
  have m := List.mem_of_getElem? this
  rw [List.any_eq_false] at h
  exact absurd rfl (h _ m)
end CM
namespace CM
open PySem PySem.Spec L2 FL FT
end CM
namespace CM
open PySem PySem.Spec L2 FL FT
end CM
namespace CM
open PySem PySem.Spec L2 FL FT
def p_stepped (ds : List D) (d : D) : Prop := ∃ a b c k : Int,ds = [formD a b c,.int k]∧Bd a 8000∧Bd b 8000∧Bd k 8000∧d = formD a (b + 2 * a * k) (c + k * (b + a * k))
def p_behind_step (ds : List D) (d : D) : Prop := ∃ p q r s k : Int,ds = [.kt [.int p,.int q,.int r,.int s],.int k]∧Bd p 8000∧Bd r 8000∧Bd k 8000∧d = turD p (q + p * k) r (s + r * k)
def p_swapped (ds : List D) (d : D) : Prop := ∃ a b c : Int,ds = [formD a b c]∧d = formD c (-b) a
def p_behind_swap (ds : List D) (d : D) : Prop := ∃ p q r s : Int,ds = [turD p q r s]∧d = turD q (-p) s (-r)
def p_step_to_middle (ds : List D) (d : D) : Prop := ∃ a b c : Int,ds = [formD a b c]∧0 < a∧Bd a 8000∧d = .int ((a - b) / (2 * a))
theorem Leads.stepK {a b c p q r s x y z : Int} (h : Leads a b c p q r s x y z) (k : Int) : Leads a b c p (q + p * k) r (s + r * k) x (y + 2 * x * k) (z + k * (y + x * k)) := by
  have d := h.det
  refine ⟨by grind,h.e1,?_,?_⟩
  · rw [h.e2,h.e1]; unfold MT.Wo; grind
  · rw [h.e3,h.e2,h.e1]; unfold MT.Wo; grind
theorem Leads.swapK {a b c p q r s x y z : Int} (h : Leads a b c p q r s x y z) : Leads a b c q (-p) s (-r) z (-y) x := by
  have d := h.det
  refine ⟨by grind,h.e3,?_,?_⟩
  · rw [h.e2]; grind
  · rw [h.e1]; unfold MT.Wo; grind
theorem shift_S {x y z : Int} (f : FormS x y z) : -x < y + 2 * x * ((x - y) / (2 * x))∧y + 2 * x * ((x - y) / (2 * x))≤x∧FormS x (y + 2 * x * ((x - y) / (2 * x))) (z + ((x - y) / (2 * x)) * (y + x * ((x - y) / (2 * x))))∧Bd ((x - y) / (2 * x)) 7000 := by
  obtain ⟨y',z',ey,lo,hi,L,g⟩ := shift_ok f
  have t := L.turn f g
  generalize (x - y) / (2 * x) = k at *
  have ez : z' = z + k * (y + x * k) := by rw [L.e3]; unfold MT.Wo; grind
  subst ey ez
  exact ⟨lo,hi,g,t.sq⟩
def meas2At (x y : Int) : Nat := (2 * x + if y < 0 then 1 else 0).toNat
def meas2 (ρ : Ro) (i : Nat) : Nat := match ρ[i]? with
  | some (some (.tup [.int x,.int y,.int _])) => meas2At x y
  | _ => 0
theorem meas2_lt {x y z : Int} (hz : 0 < z) (hlo : -x < y) (hk : z < x∨x = z∧y < 0) : meas2At z (-y + 2 * z * ((z - -y) / (2 * z))) < meas2At x y := by
  unfold meas2At
  rcases hk with h | ⟨rfl,h⟩
  · generalize -y + 2 * z * ((z - -y) / (2 * z)) = w
    have h1 : (if w < 0 then (1 : Int) else 0) ≤ 1 := by split <;> omega
    have h2 : (0 : Int) ≤ if y < 0 then (1 : Int) else 0 := by split <;> omega
    omega
  · have e : (x - -y) / (2 * x) = 0 := Int.ediv_eq_zero_of_lt (by omega) (by omega)
    rw [e,if_pos h,if_neg (by omega)]
    omega
theorem TurnN.back {p q r s : Int} (h : TurnN p q r s) : TurnN s (-q) (-r) p :=
  ⟨by have := h.det; grind,h.ss,⟨intBits_neg_le h.sq.lt⟩,⟨intBits_neg_le h.sr.lt⟩,h.sp⟩
end CM
namespace CM
open PySem PySem.Spec L2 FL FT
end CM
namespace CM
open PySem PySem.Spec L2 FL FT
theorem zpos_of {x y z : Int} (hx : 0 < x) (hd : y * y - 4 * x * z < 0) : 0 < z := by
  refine Int.not_le.mp λ h => ?_
  have h1 := Int.mul_nonpos_of_nonneg_of_nonpos (show 0 ≤ 4 * x by omega) h
  have h2 := MT.sq_nonneg y
  omega
theorem least_ex' : ∀ (n : Nat) (a b c : Int),a.toNat≤n→0 < a→b * b - 4 * a * c < 0→∃ p q r s x y z : Int,Leads a b c p q r s x y z∧MT.Least x y z∧0 < x := by
  intro n
  induction n with
  | zero => intro a b c h ha; omega
  | succ n ih =>
    intro a b c hn ha hd
    have L0 : Leads a b c 1 0 0 1 a b c := by
      refine ⟨by omega,?_,?_,?_⟩ <;> (try unfold MT.Wo) <;> grind
    have L1 := L0.stepK ((a - b) / (2 * a))
    have h1 : (a - b) = 2 * a * ((a - b) / (2 * a)) + (a - b) % (2 * a) := (Int.mul_ediv_add_emod (a - b) (2 * a)).symm
    have h2 := Int.emod_nonneg (a - b) (show 2 * a ≠ 0 by omega)
    have h3 := Int.emod_lt_of_pos (a - b) (show 0 < 2 * a by omega)
    generalize (a - b) / (2 * a) = k at *
    have lo : -a < b + 2 * a * k := by omega
    have hi : b + 2 * a * k ≤ a := by omega
    have bar := L1.bar
    generalize b + 2 * a * k = y at *
    generalize c + k * (b + a * k) = z at *
    have hd' : y * y - 4 * a * z < 0 := by omega
    have z0 := zpos_of ha hd'
    by_cases h : a < z ∨ (a = z ∧ 0 ≤ y)
    · exact ⟨_,_,_,_,a,y,z,L1,⟨lo,hi,by omega,λ e => by omega⟩,ha⟩
    · have L2 := L1.swapK
      by_cases e : a = z
      · exact ⟨_,_,_,_,z,-y,a,L2,⟨by omega,by omega,by omega,λ _ => by omega⟩,z0⟩
      · have hd2 : -y * -y - 4 * z * a < 0 := by
          have : -y * -y - 4 * z * a = y * y - 4 * a * z := by grind
          omega
        obtain ⟨p,q,r,s,x',y',z',l,L,px⟩ := ih z (-y) a (by omega) z0 hd2
        exact ⟨_,_,_,_,x',y',z',L2.trans l,L,px⟩
end CM
namespace ME
theorem gcd_step (a b t : Int) : Int.gcd b (a - t * b) = Int.gcd a b := by
  refine Nat.dvd_antisymm (Int.dvd_gcd ?_ ?_) (Int.dvd_gcd ?_ ?_)
  · have h1 := Int.gcd_dvd_left b (a - t * b)
    have h2 := Int.gcd_dvd_right b (a - t * b)
    have := Int.dvd_add h2 (Int.dvd_mul_of_dvd_right h1 (b := t))
    have e : a - t * b + t * b = a := by omega
    rwa [e] at this
  · exact Int.gcd_dvd_left _ _
  · exact Int.gcd_dvd_right _ _
  · exact Int.dvd_sub (Int.gcd_dvd_left a b) (Int.dvd_mul_of_dvd_right (Int.gcd_dvd_right a b))
theorem bezN (n m : Nat) : ∃ x y : Int,x * n + y * m = (Nat.gcd n m : Nat) := by
  induction n,m using Nat.gcd.induction with
  | H0 n => exact ⟨0,1,by simp⟩
  | H1 m n hm ih =>
    obtain ⟨x,y,h⟩ := ih
    refine ⟨y - x * (n / m : Nat),x,?_⟩
    rw [Nat.gcd_rec,← h]
    have e := Nat.div_add_mod n m
    have e' : (n : Int) = (m : Int) * (n / m : Nat) + (n % m : Nat) := by exact_mod_cast e.symm
    generalize ((n / m : Nat) : Int) = q at *
    generalize ((n % m : Nat) : Int) = r at *
    rw [e']
    grind
theorem bez (a b : Int) : ∃ x y : Int,x * a + y * b = (Int.gcd a b : Nat) := by
  obtain ⟨x,y,h⟩ := bezN a.natAbs b.natAbs
  have e : (Int.gcd a b : Nat) = Nat.gcd a.natAbs b.natAbs := rfl
  rw [e,← h]
  rcases Int.natAbs_eq a with ha | ha <;> rcases Int.natAbs_eq b with hb | hb
  · exact ⟨x,y,by rw [← ha,← hb]⟩
  · refine ⟨x,-y,?_⟩
    have : ((b.natAbs : Nat) : Int) = -b := by omega
    rw [this,← ha]
    grind
  · refine ⟨-x,y,?_⟩
    have : ((a.natAbs : Nat) : Int) = -a := by omega
    rw [this,← hb]
    grind
  · refine ⟨-x,-y,?_⟩
    have h1 : ((a.natAbs : Nat) : Int) = -a := by omega
    have h2 : ((b.natAbs : Nat) : Int) = -b := by omega
    rw [h1,h2]
    grind
theorem abs_part {x y : Int} (h : x * y≤0) : x.natAbs≤(x - y).natAbs := by
  have h1 : ¬ (0 < x ∧ 0 < y) := λ ⟨p,q⟩ => by have := Int.mul_pos p q; omega
  have h2 : ¬ (x < 0 ∧ y < 0) := λ ⟨p,q⟩ => by have := Int.mul_pos_of_neg_of_neg p q; omega
  omega
theorem fmod_facts {a b : Int} (hb : b≠0) : (a - a.fdiv b * b).natAbs < b.natAbs∧0≤b * (a - a.fdiv b * b) := by
  have e : a - a.fdiv b * b = a.fmod b := by
    have := Int.fmod_def a b
    rw [this,Int.mul_comm]
  rw [e]
  rcases Int.lt_or_gt_of_ne hb with h | h
  · have h1 := Int.fmod_eq_emod (a := a) (b := b)
    have h2 := Int.emod_nonneg a hb
    have h3 : a % b < -b := by
      have := Int.emod_lt_of_pos a (show 0 < -b by omega)
      rwa [Int.emod_neg] at this
    by_cases hd : b ∣ a
    · rw [if_pos (.inr hd)] at h1
      have : a % b = 0 := Int.emod_eq_zero_of_dvd hd
      rw [h1,this]
      simp
      omega
    · rw [if_neg (by
        intro z
        rcases z with z | z
        · omega
        · exact hd z)] at h1
      have hne : a % b ≠ 0 := λ z => hd (Int.dvd_of_emod_eq_zero z)
      have k1 : a.fmod b ≤ 0 := by omega
      refine ⟨by omega,?_⟩
      exact Int.mul_nonneg_of_nonpos_of_nonpos (by omega) k1
  · have h1 := Int.fmod_nonneg_of_pos a h
    have h2 := Int.fmod_lt_of_pos a h
    exact ⟨by omega,Int.mul_nonneg (by omega) h1⟩
theorem fdiv_nonneg' {a b : Int} (hb : b≠0) (h : 0≤a * b)  : 0≤a.fdiv b := by
  obtain ⟨h1,h2⟩ := fmod_facts (a := a) hb
  refine Int.not_lt.mp λ z => ?_
  generalize a.fdiv b = t at *
  -- t ≤ -1: a - t b has the sign of b and is at least b in size
  rcases Int.lt_or_gt_of_ne hb with hn | hp
  · have ha : a ≤ 0 := by
      refine Int.not_lt.mp λ w => ?_
      have := Int.mul_neg_of_pos_of_neg w hn
      omega
    have : b * (t + 1) ≥ 0 := Int.mul_nonneg_of_nonpos_of_nonpos (by omega) (by omega)
    grind
  · have ha : 0 ≤ a := by
      refine Int.not_lt.mp λ w => ?_
      have := Int.mul_neg_of_neg_of_pos w hp
      omega
    have : b * (-(t + 1)) ≥ 0 := Int.mul_nonneg (by omega) (by omega)
    grind
structure EG (one other dv sh rs rsh : Int) : Prop where
  lin : ∃ V W : Int,dv = sh * one + V * other ∧ rs = rsh * one + W * other
  gcd : Int.gcd dv rs = Int.gcd one other
  ph : (dv = one ∧ sh = 1 ∧ rs = other ∧ rsh = 0) ∨ (0 ≤ dv * rs ∧ sh * rsh ≤ 0 ∧ dv ≠ 0 ∧ (dv * rsh - rs * sh).natAbs = other.natAbs ∧ dv.natAbs ≤ other.natAbs ∧ rs.natAbs ≤ other.natAbs)
  b1 : sh.natAbs ≤ other.natAbs + 1
  b2 : rsh.natAbs ≤ other.natAbs + 1
theorem EG.start (one other : Int) : EG one other one 1 other 0 := ⟨⟨0,1,by omega,by omega⟩,rfl,.inl ⟨rfl,rfl,rfl,rfl⟩,by omega,by omega⟩
theorem EG.step {one other dv sh rs rsh : Int} (h : EG one other dv sh rs rsh) (hr : rs≠0) : EG one other rs rsh (dv - dv.fdiv rs * rs) (sh - dv.fdiv rs * rsh)∧(dv - dv.fdiv rs * rs).natAbs < rs.natAbs := by
  obtain ⟨lt,sg⟩ := fmod_facts (a := dv) hr
  refine ⟨?_,lt⟩
  obtain ⟨⟨V,W,e1,e2⟩,g,ph,b1,b2⟩ := h
  have lin : ∃ V' W' : Int,rs = rsh * one + V' * other ∧ dv - dv.fdiv rs * rs = (sh - dv.fdiv rs * rsh) * one + W' * other := by
    generalize dv.fdiv rs = t at *
    exact ⟨W,V - t * W,e2,by rw [e1,e2]; grind⟩
  have gg := (gcd_step dv rs (dv.fdiv rs)).trans g
  rcases ph with ⟨rfl,rfl,rfl,rfl⟩ | ⟨p1,p2,p3,p4,p5,p6⟩
  · refine ⟨lin,gg,.inr ⟨sg,by omega,hr,?_,by omega,by omega⟩,by omega,by omega⟩
    generalize dv.fdiv rs = t at *
    have : rs * (1 - t * 0) - (dv - t * rs) * 0 = rs := by grind
    rw [this]
  · have t0 := fdiv_nonneg' hr p1
    generalize dv.fdiv rs = t at *
    have q2 : rsh * (sh - t * rsh) ≤ 0 := by
      have k : 0 ≤ t * (rsh * rsh) := Int.mul_nonneg t0 (by
        rcases Int.le_total 0 rsh with z | z
        · exact Int.mul_nonneg z z
        · exact Int.mul_nonneg_of_nonpos_of_nonpos z z)
      grind
    have q4 : (rs * (sh - t * rsh) - (dv - t * rs) * rsh).natAbs = other.natAbs := by
      have : rs * (sh - t * rsh) - (dv - t * rs) * rsh = -(dv * rsh - rs * sh) := by grind
      rw [this,Int.natAbs_neg,p4]
    refine ⟨lin,gg,.inr ⟨sg,q2,hr,q4,p6,by omega⟩,b2,?_⟩
    have k1 : (rs * (sh - t * rsh)) * ((dv - t * rs) * rsh) ≤ 0 := by
      have e : (rs * (sh - t * rsh)) * ((dv - t * rs) * rsh) = (rs * (dv - t * rs)) * (rsh * (sh - t * rsh)) := by grind
      rw [e]
      have := Int.mul_nonneg sg (show 0 ≤ -(rsh * (sh - t * rsh)) by omega)
      grind
    have k2 := abs_part k1
    rw [q4,Int.natAbs_mul] at k2
    have k3 : (sh - t * rsh).natAbs ≤ rs.natAbs * (sh - t * rsh).natAbs := Nat.le_mul_of_pos_left _ (by omega)
    omega
theorem EG.fin {one other dv sh : Int} {rsh : Int} (h : EG one other dv sh 0 rsh) : ∃ V : Int,dv = sh * one + V * other∧dv.natAbs = Int.gcd one other := by
  obtain ⟨V,W,e1,_⟩ := h.lin
  refine ⟨V,e1,?_⟩
  rw [← h.gcd]
  simp
end ME
namespace MJ
abbrev W (a b c x y : Int) : Int := a * x * x + b * x * y + c * y * y
abbrev S (R0 R1 R2 R3 x y u v : Int) : Int := R0 * x * u + R1 * x * v + R2 * y * u + R3 * y * v
structure Comp (a b c d e f A B C X0 X1 X2 X3 Y0 Y1 Y2 Y3 : Int) : Prop where
  prod : ∀ x y u v : Int,W a b c x y * W d e f u v = W A B C (S X0 X1 X2 X3 x y u v) (S Y0 Y1 Y2 Y3 x y u v)
  m01 : X0 * Y1 - X1 * Y0 = a
  m02 : X0 * Y2 - X2 * Y0 = d
structure Pre (a b c d e f g a' d' h' m C s t z : Int) : Prop where
  ea : a = g * a'
  ed : d = g * d'
  eb : b = m - 2 * a' * s
  ee : e = m - 2 * d' * t
  eh : m - a' * s - d' * t = g * h'
  ec : g * c = a' * s * s - s * m + d' * C
  ef : g * f = d' * t * t - t * m + a' * C
  ez : s * t - C = g * z
theorem mul_cancel {g x y : Int} (hg : g≠0) (h : g * x = g * y) : x = y := Int.eq_of_mul_eq_mul_left hg h
theorem comp_of {a b c d e f g a' d' h' m C s t z : Int} (hg : g≠0) (p : Pre a b c d e f g a' d' h' m C s t z) :
    Comp a b c d e f (a' * d') m C g (-t) (-s) z 0 a' d' h' := by
  obtain ⟨rfl,rfl,rfl,rfl,eh,ec,ef,ez⟩ := p
  have k1 : g * a' * f = a' * (d' * t * t - t * m + a' * C) := by rw [← ef]; grind
  have k2 : g * d' * c = d' * (a' * s * s - s * m + d' * C) := by rw [← ec]; grind
  have k3 : (m - 2 * a' * s) * f = -2 * a' * d' * t * z + m * (-t * h' + z * a') + 2 * C * a' * h' := by
    refine mul_cancel hg ?_
    have e1 : g * ((m - 2 * a' * s) * f) = (m - 2 * a' * s) * (g * f) := by grind
    have e2 : g * (-2 * a' * d' * t * z + m * (-t * h' + z * a') + 2 * C * a' * h') = -2 * a' * d' * t * (g * z) + m * (-t * (g * h') + (g * z) * a') + 2 * C * a' * (g * h') := by grind
    rw [e1,e2,ef,← ez,← eh]
    grind
  have k4 : c * (m - 2 * d' * t) = -2 * a' * d' * s * z + m * (-s * h' + z * d') + 2 * C * d' * h' := by
    refine mul_cancel hg ?_
    have e1 : g * (c * (m - 2 * d' * t)) = (m - 2 * d' * t) * (g * c) := by grind
    have e2 : g * (-2 * a' * d' * s * z + m * (-s * h' + z * d') + 2 * C * d' * h') = -2 * a' * d' * s * (g * z) + m * (-s * (g * h') + (g * z) * d') + 2 * C * d' * (g * h') := by grind
    rw [e1,e2,ec,← ez,← eh]
    grind
  have k5 : c * f = a' * d' * z * z + m * z * h' + C * h' * h' := by
    refine mul_cancel hg (mul_cancel hg ?_)
    have e1 : g * (g * (c * f)) = (g * c) * (g * f) := by grind
    have e2 : g * (g * (a' * d' * z * z + m * z * h' + C * h' * h')) = a' * d' * (g * z) * (g * z) + m * (g * z) * (g * h') + C * (g * h') * (g * h') := by grind
    rw [e1,e2,ec,ef,← ez,← eh]
    grind
  have k6 : (m - 2 * a' * s) * (m - 2 * d' * t) = 2 * a' * d' * (g * z + s * t) + m * (g * h' - t * d' - s * a') + 2 * C * a' * d' := by
    rw [← ez,← eh]
    grind
  refine ⟨λ x y u v => ?_,by grind,by grind⟩
  unfold W S
  have l : (g * a' * x * x + (m - 2 * a' * s) * x * y + c * y * y) * (g * d' * u * u + (m - 2 * d' * t) * u * v + f * v * v)
      = (g * a') * (g * d') * (x * x * u * u) + (g * a') * (m - 2 * d' * t) * (x * x * u * v) + (g * a' * f) * (x * x * v * v) + (m - 2 * a' * s) * (g * d') * (x * y * u * u) + ((m - 2 * a' * s) * (m - 2 * d' * t)) * (x * y * u * v) + ((m - 2 * a' * s) * f) * (x * y * v * v)
        + (g * d' * c) * (y * y * u * u) + (c * (m - 2 * d' * t)) * (y * y * u * v) + (c * f) * (y * y * v * v) := by grind
  rw [l,k1,k2,k3,k4,k5,k6]
  grind
theorem pre_of {a b c d e f g a' d' h' u v w k : Int} (hg : g≠0) (ea : a = g * a') (ed : d = g * d') (eh : b + e = 2 * (g * h')) (hD : b * b - 4 * a * c = e * e - 4 * d * f) (hs : u * a' + v * d' + w * h' = 1) :
    Pre a b c d e f g a' d' h' (b + 2 * a' * (u * (g * h' - b) - c * w) - 2 * a' * d' * k) ((u * (g * h' - b) - c * w - d' * k) * (v * (g * h' - e) - f * w - a' * k) - g * (k * h' - (u * f + v * c)))
      (u * (g * h' - b) - c * w - d' * k) (v * (g * h' - e) - f * w - a' * k) (k * h' - (u * f + v * c)) ∧
    u * a * e + v * d * b + w * (b * (g * h') - 2 * a * c) = g * (b + 2 * a' * (u * (g * h' - b) - c * w)) := by
  subst ea ed
  have ee : e = 2 * (g * h') - b := by omega
  subst ee
  -- h (h - b) = d f - a c,in parts
  have q : g * h' * (g * h' - b) = g * d' * f - g * a' * c := by grind
  have q' : h' * (g * h' - b) = d' * f - a' * c := by
    refine mul_cancel hg ?_
    grind
  have B : b + 2 * a' * (u * (g * h' - b) - c * w) = 2 * (g * h') - b + 2 * d' * (v * (g * h' - (2 * (g * h') - b)) - f * w) := by
    have z : (g * h' - b) * (u * a' + v * d' + w * h') = g * h' - b := by rw [hs]; grind
    have z2 : w * (h' * (g * h' - b)) = w * (d' * f - a' * c) := by rw [q']
    grind
  have hc : c = -((u * (g * h' - b) - c * w) * h') + d' * (u * f + v * c) := by
    have z : c * (u * a' + v * d' + w * h') = c := by rw [hs]; grind
    have z2 : u * (h' * (g * h' - b)) = u * (d' * f - a' * c) := by rw [q']
    grind
  have hf : f = -((v * (g * h' - (2 * (g * h') - b)) - f * w) * h') + a' * (u * f + v * c) := by
    have z : f * (u * a' + v * d' + w * h') = f := by rw [hs]; grind
    have z2 : v * (h' * (g * h' - b)) = v * (d' * f - a' * c) := by rw [q']
    grind
  generalize hS : u * (g * h' - b) - c * w = s0 at *
  generalize hT : v * (g * h' - (2 * (g * h') - b)) - f * w = t0 at *
  generalize hZ : u * f + v * c = z0 at *
  refine ⟨⟨rfl,rfl,by grind,by grind,by grind,?_,?_,by grind⟩,?_⟩
  · -- g c
    have e1 : (b + 2 * a' * s0 - 2 * a' * d' * k) - a' * (s0 - d' * k) - d' * (t0 - a' * k) = g * h' := by grind
    grind
  · have e1 : (b + 2 * a' * s0 - 2 * a' * d' * k) - a' * (s0 - d' * k) - d' * (t0 - a' * k) = g * h' := by grind
    grind
  · subst hS
    have z : (u * a' + v * d' + w * h') * b = b := by rw [hs]; grind
    grind
theorem pre_bar {a b c d e f g a' d' h' m C s t z : Int} (p : Pre a b c d e f g a' d' h' m C s t z) : m * m - (b * b - 4 * a * c) = 4 * (a' * d') * C := by
  obtain ⟨rfl,rfl,rfl,rfl,eh,ec,ef,ez⟩ := p
  grind
theorem pre_last {a b c d e f g a' d' h' m C s t z : Int} (p : Pre a b c d e f g a' d' h' m C s t z) : g * (b * e + (b * b - 4 * a * c) - m * (b + e)) = 4 * a * d * z := by
  have h := pre_bar p
  obtain ⟨rfl,rfl,rfl,rfl,eh,ec,ef,ez⟩ := p
  grind
structure Minors (a b c d e f X0 X1 X2 X3 Y0 Y1 Y2 Y3 : Int) : Prop where
  m01 : X0 * Y1 - X1 * Y0 = a
  m02 : X0 * Y2 - X2 * Y0 = d
  m03 : (X0 * Y3 - X3 * Y0) + (X1 * Y2 - X2 * Y1) = e
  m12 : (X0 * Y3 - X3 * Y0) - (X1 * Y2 - X2 * Y1) = b
  m13 : X1 * Y3 - X3 * Y1 = f
  m23 : X2 * Y3 - X3 * Y2 = c
theorem quart {d e f E F : Int} (hd : d≠0) (h : ∀ u v : Int,W d E F u v * W d E F u v = W d e f u v * W d e f u v) : E = e∧F = f := by
  have h1 := h 1 1
  have h2 := h 1 (-1)
  have h3 := h 0 1
  have h4 := h 2 1
  unfold W at h1 h2 h3 h4
  have k1 : d * (E - e) = 0 := by grind
  have e1 : E = e := by
    rcases Int.mul_eq_zero.mp k1 with z | z
    · exact absurd z hd
    · omega
  subst e1
  have k2 : d * (F - f) = 0 := by grind
  rcases Int.mul_eq_zero.mp k2 with z | z
  · exact absurd z hd
  · exact ⟨rfl,by omega⟩
theorem Comp.swap {a b c d e f A B C X0 X1 X2 X3 Y0 Y1 Y2 Y3 : Int} (h : Comp a b c d e f A B C X0 X1 X2 X3 Y0 Y1 Y2 Y3) : Comp d e f a b c A B C X0 X2 X1 X3 Y0 Y2 Y1 Y3 := by
  refine ⟨λ x y u v => ?_,h.m02,h.m01⟩
  have e1 : S X0 X2 X1 X3 x y u v = S X0 X1 X2 X3 u v x y := by unfold S; grind
  have e2 : S Y0 Y2 Y1 Y3 x y u v = S Y0 Y1 Y2 Y3 u v x y := by unfold S; grind
  rw [e1,e2,← h.prod,Int.mul_comm]
theorem Comp.half {a b c d e f A B C X0 X1 X2 X3 Y0 Y1 Y2 Y3 : Int} (h : Comp a b c d e f A B C X0 X1 X2 X3 Y0 Y1 Y2 Y3) (hd : d≠0) (hD : b * b - 4 * a * c≠0) (e1 : B * B - 4 * A * C = b * b - 4 * a * c) :
    (X0 * Y3 - X3 * Y0) + (X1 * Y2 - X2 * Y1) = e ∧ X1 * Y3 - X3 * Y1 = f := by
  refine quart (d := d) hd λ u v => ?_
  have p1 := h.prod 1 0 u v
  have p2 := h.prod 0 1 u v
  have p3 := h.prod 1 1 u v
  generalize hg : W d e f u v = g at *
  have hm : W d (X0 * Y3 - X3 * Y0 + (X1 * Y2 - X2 * Y1)) (X1 * Y3 - X3 * Y1) u v = (X0 * u + X1 * v) * (Y2 * u + Y3 * v) - (X2 * u + X3 * v) * (Y0 * u + Y1 * v) := by
    unfold W
    rw [← h.m02]
    grind
  rw [hm]
  have a1 : S X0 X1 X2 X3 1 0 u v = X0 * u + X1 * v := by unfold S; grind
  have a2 : S Y0 Y1 Y2 Y3 1 0 u v = Y0 * u + Y1 * v := by unfold S; grind
  have a3 : S X0 X1 X2 X3 0 1 u v = X2 * u + X3 * v := by unfold S; grind
  have a4 : S Y0 Y1 Y2 Y3 0 1 u v = Y2 * u + Y3 * v := by unfold S; grind
  have a5 : S X0 X1 X2 X3 1 1 u v = (X0 * u + X1 * v) + (X2 * u + X3 * v) := by unfold S; grind
  have a6 : S Y0 Y1 Y2 Y3 1 1 u v = (Y0 * u + Y1 * v) + (Y2 * u + Y3 * v) := by unfold S; grind
  rw [a1,a2] at p1
  rw [a3,a4] at p2
  rw [a5,a6] at p3
  generalize X0 * u + X1 * v = P at *
  generalize X2 * u + X3 * v = Q at *
  generalize Y0 * u + Y1 * v = R at *
  generalize Y2 * u + Y3 * v = T at *
  refine mul_cancel hD ?_
  have f1 : a * g = W A B C P R := by rw [← p1]; unfold W; grind
  have f2 : c * g = W A B C Q T := by rw [← p2]; unfold W; grind
  have f3 : b * g = 2 * A * P * Q + B * (P * T + Q * R) + 2 * C * R * T := by
    have : (a + b + c) * g = W A B C (P + Q) (R + T) := by rw [← p3]; unfold W; grind
    unfold W at *
    grind
  have f4 : (b * b - 4 * a * c) * (g * g) = (b * g) * (b * g) - 4 * (a * g) * (c * g) := by grind
  rw [f4,f1,f2,f3,← e1]
  unfold W
  grind
theorem Comp.minors {a b c d e f A B C X0 X1 X2 X3 Y0 Y1 Y2 Y3 : Int} (h : Comp a b c d e f A B C X0 X1 X2 X3 Y0 Y1 Y2 Y3) (ha : a≠0) (hd : d≠0) (hD : b * b - 4 * a * c≠0) (hE : e * e - 4 * d * f = b * b - 4 * a * c) (e1 : B * B - 4 * A * C = b * b - 4 * a * c) :
    Minors a b c d e f X0 X1 X2 X3 Y0 Y1 Y2 Y3 := by
  obtain ⟨h1,h2⟩ := h.half hd hD e1
  obtain ⟨h3,h4⟩ := h.swap.half ha (by rw [hE]; exact hD) (by rw [hE]; exact e1)
  exact ⟨h.m01,h.m02,h1,by rw [← h3]; grind,h2,h4⟩
structure Led (a b c p q r s a' b' c' : Int) : Prop where
  det : p * s - q * r = 1
  e1 : a' = W a b c p r
  e2 : b' = 2 * a * p * q + b * (p * s + q * r) + 2 * c * r * s
  e3 : c' = W a b c q s
theorem Led.at {a b c p q r s a' b' c' : Int} (h : Led a b c p q r s a' b' c') (x y : Int) : W a' b' c' x y = W a b c (p * x + q * y) (r * x + s * y) := by
  rw [h.e1,h.e2,h.e3]
  unfold W
  grind
theorem Comp.pull {a b c d e f A B C X0 X1 X2 X3 Y0 Y1 Y2 Y3 p q r s a' b' c' : Int} (h : Comp a b c d e f A B C X0 X1 X2 X3 Y0 Y1 Y2 Y3) (m : Minors a b c d e f X0 X1 X2 X3 Y0 Y1 Y2 Y3) (l : Led a b c p q r s a' b' c') :
    Comp a' b' c' d e f A B C (X0 * p + X2 * r) (X1 * p + X3 * r) (X0 * q + X2 * s) (X1 * q + X3 * s) (Y0 * p + Y2 * r) (Y1 * p + Y3 * r) (Y0 * q + Y2 * s) (Y1 * q + Y3 * s) := by
  refine ⟨λ x y u v => ?_,?_,?_⟩
  · rw [l.at,h.prod]
    have e1 : S X0 X1 X2 X3 (p * x + q * y) (r * x + s * y) u v = S (X0 * p + X2 * r) (X1 * p + X3 * r) (X0 * q + X2 * s) (X1 * q + X3 * s) x y u v := by unfold S; grind
    have e2 : S Y0 Y1 Y2 Y3 (p * x + q * y) (r * x + s * y) u v = S (Y0 * p + Y2 * r) (Y1 * p + Y3 * r) (Y0 * q + Y2 * s) (Y1 * q + Y3 * s) x y u v := by unfold S; grind
    rw [e1,e2]
  · rw [l.e1,← m.m01,← m.m12,← m.m23]
    unfold W
    grind
  · have d := l.det
    rw [← m.m02]
    grind
theorem Comp.target {a b c d e f A B C X0 X1 X2 X3 Y0 Y1 Y2 Y3 p q r s A' B' C' : Int} (h : Comp a b c d e f A B C X0 X1 X2 X3 Y0 Y1 Y2 Y3) (l : Led A B C p q r s A' B' C') :
    Comp a b c d e f A' B' C' (s * X0 + -q * Y0) (s * X1 + -q * Y1) (s * X2 + -q * Y2) (s * X3 + -q * Y3) (-r * X0 + p * Y0) (-r * X1 + p * Y1) (-r * X2 + p * Y2) (-r * X3 + p * Y3) := by
  have d := l.det
  refine ⟨λ x y u v => ?_,?_,?_⟩
  · rw [l.at,h.prod]
    have e1 : p * S (s * X0 + -q * Y0) (s * X1 + -q * Y1) (s * X2 + -q * Y2) (s * X3 + -q * Y3) x y u v + q * S (-r * X0 + p * Y0) (-r * X1 + p * Y1) (-r * X2 + p * Y2) (-r * X3 + p * Y3) x y u v = (p * s - q * r) * S X0 X1 X2 X3 x y u v := by unfold S; grind
    have e2 : r * S (s * X0 + -q * Y0) (s * X1 + -q * Y1) (s * X2 + -q * Y2) (s * X3 + -q * Y3) x y u v + s * S (-r * X0 + p * Y0) (-r * X1 + p * Y1) (-r * X2 + p * Y2) (-r * X3 + p * Y3) x y u v = (p * s - q * r) * S Y0 Y1 Y2 Y3 x y u v := by unfold S; grind
    rw [e1,e2,d,Int.one_mul,Int.one_mul]
  · rw [← h.m01]
    have : (s * X0 + -q * Y0) * (-r * X1 + p * Y1) - (s * X1 + -q * Y1) * (-r * X0 + p * Y0) = (p * s - q * r) * (X0 * Y1 - X1 * Y0) := by grind
    rw [this,d,Int.one_mul]
  · rw [← h.m02]
    have : (s * X0 + -q * Y0) * (-r * X2 + p * Y2) - (s * X2 + -q * Y2) * (-r * X0 + p * Y0) = (p * s - q * r) * (X0 * Y2 - X2 * Y0) := by grind
    rw [this,d,Int.one_mul]
theorem cramer {Xi Xj Xk Yi Yj Yk Xi' Xj' Xk' Yi' Yj' Yk' : Int} (h1 : Xi * Yj - Xj * Yi = Xi' * Yj' - Xj' * Yi') (h2 : Xi * Yk - Xk * Yi = Xi' * Yk' - Xk' * Yi') (h3 : Xj * Yk - Xk * Yj = Xj' * Yk' - Xk' * Yj') :
    (Xi * Yj - Xj * Yi) * Xk' = (Xi' * Yj - Xj' * Yi) * Xk + (Xi * Xj' - Xj * Xi') * Yk := by
  have e : (Xi * Yj - Xj * Yi) * Xk' - ((Xi' * Yj - Xj' * Yi) * Xk + (Xi * Xj' - Xj * Xi') * Yk) = Xk' * (Xi * Yj - Xj * Yi) - Xj' * (Xi * Yk - Xk * Yi) + Xi' * (Xj * Yk - Xk * Yj) := by grind
  rw [h1,h2,h3] at e
  grind
theorem form_zero {α β γ X0 Y0 X1 Y1 a : Int} (ha : a≠0) (hm : X0 * Y1 - X1 * Y0 = a) (h0 : W α β γ X0 Y0 = 0) (h1 : W α β γ X1 Y1 = 0) (h2 : W α β γ (X0 + X1) (Y0 + Y1) = 0) : α = 0∧β = 0∧γ = 0 := by
  have hB : 2 * α * X0 * X1 + β * (X0 * Y1 + X1 * Y0) + 2 * γ * Y0 * Y1 = 0 := by
    unfold W at *
    grind
  have key : ∀ x y : Int,a * a * W α β γ x y = 0 := λ x y => by
    have : a * a * W α β γ x y = (x * Y1 - y * X1) * (x * Y1 - y * X1) * W α β γ X0 Y0 + (x * Y1 - y * X1) * (y * X0 - x * Y0) * (2 * α * X0 * X1 + β * (X0 * Y1 + X1 * Y0) + 2 * γ * Y0 * Y1) + (y * X0 - x * Y0) * (y * X0 - x * Y0) * W α β γ X1 Y1 := by
      rw [← hm]
      unfold W
      grind
    rw [this,h0,h1,hB]
    grind
  have z : ∀ x y : Int,W α β γ x y = 0 := λ x y => by
    rcases Int.mul_eq_zero.mp (key x y) with q | q
    · rcases Int.mul_eq_zero.mp q with q | q <;> exact absurd q ha
    · exact q
  have z1 := z 1 0
  have z2 := z 0 1
  have z3 := z 1 1
  unfold W at z1 z2 z3
  omega
theorem told {X0 X1 X2 X3 Y0 Y1 Y2 Y3 X0' X1' X2' X3' Y0' Y1' Y2' Y3' Xk Yk Xk' Yk' l1 l2 l3 : Int}
    (k01 : X0 * Y1 - X1 * Y0 = X0' * Y1' - X1' * Y0') (k03 : X0 * Y3 - X3 * Y0 = X0' * Y3' - X3' * Y0') (k12 : X1 * Y2 - X2 * Y1 = X1' * Y2' - X2' * Y1') (k23 : X2 * Y3 - X3 * Y2 = X2' * Y3' - X3' * Y2')
    (g0 : X0 * Yk - Xk * Y0 = X0' * Yk' - Xk' * Y0') (g1 : X1 * Yk - Xk * Y1 = X1' * Yk' - Xk' * Y1') (g2 : X2 * Yk - Xk * Y2 = X2' * Yk' - Xk' * Y2') (g3 : X3 * Yk - Xk * Y3 = X3' * Yk' - Xk' * Y3')
    (one : l1 * (X0 * Y1 - X1 * Y0) + l2 * (X0 * Y3 - X3 * Y0) - l2 * (X1 * Y2 - X2 * Y1) + l3 * (X2 * Y3 - X3 * Y2) = 1) :
    Xk' = (l1 * (X0' * Y1 - X1' * Y0) + l2 * (X0' * Y3 - X3' * Y0) - l2 * (X1' * Y2 - X2' * Y1) + l3 * (X2' * Y3 - X3' * Y2)) * Xk + (l1 * (X0 * X1' - X1 * X0') + l2 * (X0 * X3' - X3 * X0') - l2 * (X1 * X2' - X2 * X1') + l3 * (X2 * X3' - X3 * X2')) * Yk := by
  have c1 := cramer k01 g0 g1
  have c2 := cramer k03 g0 g3
  have c3 := cramer k12 g1 g2
  have c4 := cramer k23 g2 g3
  have e : Xk' = (l1 * (X0 * Y1 - X1 * Y0) + l2 * (X0 * Y3 - X3 * Y0) - l2 * (X1 * Y2 - X2 * Y1) + l3 * (X2 * Y3 - X3 * Y2)) * Xk' := by rw [one,Int.one_mul]
  have e2 : (l1 * (X0 * Y1 - X1 * Y0) + l2 * (X0 * Y3 - X3 * Y0) - l2 * (X1 * Y2 - X2 * Y1) + l3 * (X2 * Y3 - X3 * Y2)) * Xk' = l1 * ((X0 * Y1 - X1 * Y0) * Xk') + l2 * ((X0 * Y3 - X3 * Y0) * Xk') - l2 * ((X1 * Y2 - X2 * Y1) * Xk') + l3 * ((X2 * Y3 - X3 * Y2) * Xk') := by grind
  rw [e2,c1,c2,c3,c4] at e
  rw [e]
  grind
theorem comp_one {a b c d e f A B C X0 X1 X2 X3 Y0 Y1 Y2 Y3 A' B' C' X0' X1' X2' X3' Y0' Y1' Y2' Y3' l1 l2 l3 : Int}
    (h : Comp a b c d e f A B C X0 X1 X2 X3 Y0 Y1 Y2 Y3) (h' : Comp a b c d e f A' B' C' X0' X1' X2' X3' Y0' Y1' Y2' Y3') (m : Minors a b c d e f X0 X1 X2 X3 Y0 Y1 Y2 Y3) (m' : Minors a b c d e f X0' X1' X2' X3' Y0' Y1' Y2' Y3')
    (ha : a ≠ 0) (hl : l1 * a + l2 * b + l3 * c = 1) : ∃ p q r s : Int,Led A' B' C' p q r s A B C := by
  obtain ⟨m01,m02,m03,m12,m13,m23⟩ := m
  obtain ⟨n01,n02,n03,n12,n13,n23⟩ := m'
  have k03 : X0 * Y3 - X3 * Y0 = X0' * Y3' - X3' * Y0' := by omega
  have k12 : X1 * Y2 - X2 * Y1 = X1' * Y2' - X2' * Y1' := by omega
  have k01 := m01.trans n01.symm
  have k02 := m02.trans n02.symm
  have k13 := m13.trans n13.symm
  have k23 := m23.trans n23.symm
  have one : l1 * (X0 * Y1 - X1 * Y0) + l2 * (X0 * Y3 - X3 * Y0) - l2 * (X1 * Y2 - X2 * Y1) + l3 * (X2 * Y3 - X3 * Y2) = 1 := by rw [m01,m23,← hl,← m12]; grind
  have x0 := told (Xk := X0) (Yk := Y0) (Xk' := X0') (Yk' := Y0') k01 k03 k12 k23 (by omega) (by omega) (by omega) (by omega) one
  have x1 := told (Xk := X1) (Yk := Y1) (Xk' := X1') (Yk' := Y1') k01 k03 k12 k23 (by omega) (by omega) (by omega) (by omega) one
  -- the other row: by Y' and -X'
  have j01 : X0 * Y1 - X1 * Y0 = Y0' * -X1' - Y1' * -X0' := by rw [k01]; grind
  have j03 : X0 * Y3 - X3 * Y0 = Y0' * -X3' - Y3' * -X0' := by rw [k03]; grind
  have j12 : X1 * Y2 - X2 * Y1 = Y1' * -X2' - Y2' * -X1' := by rw [k12]; grind
  have j23 : X2 * Y3 - X3 * Y2 = Y2' * -X3' - Y3' * -X2' := by rw [k23]; grind
  have j02 : X0 * Y2 - X2 * Y0 = Y0' * -X2' - Y2' * -X0' := by rw [k02]; grind
  have j13 : X1 * Y3 - X3 * Y1 = Y1' * -X3' - Y3' * -X1' := by rw [k13]; grind
  have y0 := told (Xk := X0) (Yk := Y0) (Xk' := Y0') (Yk' := -X0') j01 j03 j12 j23 (by omega) (by omega) (by omega) (by omega) one
  have y1 := told (Xk := X1) (Yk := Y1) (Xk' := Y1') (Yk' := -X1') j01 j03 j12 j23 (by omega) (by omega) (by omega) (by omega) one
  generalize l1 * (X0' * Y1 - X1' * Y0) + l2 * (X0' * Y3 - X3' * Y0) - l2 * (X1' * Y2 - X2' * Y1) + l3 * (X2' * Y3 - X3' * Y2) = p at *
  generalize l1 * (X0 * X1' - X1 * X0') + l2 * (X0 * X3' - X3 * X0') - l2 * (X1 * X2' - X2 * X1') + l3 * (X2 * X3' - X3 * X2') = q at *
  generalize l1 * (Y0' * Y1 - Y1' * Y0) + l2 * (Y0' * Y3 - Y3' * Y0) - l2 * (Y1' * Y2 - Y2' * Y1) + l3 * (Y2' * Y3 - Y3' * Y2) = r at *
  generalize l1 * (X0 * Y1' - X1 * Y0') + l2 * (X0 * Y3' - X3 * Y0') - l2 * (X1 * Y2' - X2 * Y1') + l3 * (X2 * Y3' - X3 * Y2') = s at *
  have det : p * s - q * r = 1 := by
    refine mul_cancel ha ?_
    have e1 : X0' * Y1' - X1' * Y0' = (p * s - q * r) * (X0 * Y1 - X1 * Y0) := by rw [x0,x1,y0,y1]; grind
    rw [n01,m01] at e1
    grind
  -- the two forms at the rows' places
  have at_ : ∀ u v : Int,W A B C (X0 * u + X1 * v) (Y0 * u + Y1 * v) = W A' B' C' (p * (X0 * u + X1 * v) + q * (Y0 * u + Y1 * v)) (r * (X0 * u + X1 * v) + s * (Y0 * u + Y1 * v)) := λ u v => by
    have p1 := (h.prod 1 0 u v).symm.trans (h'.prod 1 0 u v)
    have a1 : S X0 X1 X2 X3 1 0 u v = X0 * u + X1 * v := by unfold S; grind
    have a2 : S Y0 Y1 Y2 Y3 1 0 u v = Y0 * u + Y1 * v := by unfold S; grind
    have a3 : S X0' X1' X2' X3' 1 0 u v = p * (X0 * u + X1 * v) + q * (Y0 * u + Y1 * v) := by unfold S; rw [x0,x1]; grind
    have a4 : S Y0' Y1' Y2' Y3' 1 0 u v = r * (X0 * u + X1 * v) + s * (Y0 * u + Y1 * v) := by unfold S; rw [y0,y1]; grind
    rw [a1,a2,a3,a4] at p1
    exact p1
  have z : ∀ x y : Int,W (A - W A' B' C' p r) (B - (2 * A' * p * q + B' * (p * s + q * r) + 2 * C' * r * s)) (C - W A' B' C' q s) x y = W A B C x y - W A' B' C' (p * x + q * y) (r * x + s * y) := λ x y => by unfold W; grind
  have z0 := at_ 1 0
  have z1 := at_ 0 1
  have z2 := at_ 1 1
  simp only [Int.mul_one,Int.mul_zero,Int.add_zero,Int.zero_add] at z0 z1 z2
  obtain ⟨e1,e2,e3⟩ := form_zero (α := A - W A' B' C' p r) (β := B - (2 * A' * p * q + B' * (p * s + q * r) + 2 * C' * r * s)) (γ := C - W A' B' C' q s) ha m01 (by rw [z]; omega) (by rw [z]; omega) (by rw [z]; omega)
  exact ⟨p,q,r,s,det,by omega,by omega,by omega⟩
theorem even_sum {b e a c d f : Int} (hD : b * b - 4 * a * c = e * e - 4 * d * f) : ∃ h,b + e = 2 * h := by
  rcases Int.emod_two_eq b with h1 | h1 <;> rcases Int.emod_two_eq e with h2 | h2
  · exact ⟨(b + e) / 2,by omega⟩
  · exfalso
    have e1 : b = 2 * (b / 2) := by omega
    have e2 : e = 2 * (e / 2) + 1 := by omega
    generalize b / 2 = x at *
    generalize e / 2 = y at *
    subst e1 e2
    have : 4 * (x * x - a * c - y * y - y + d * f) = 1 := by grind
    omega
  · exfalso
    have e1 : b = 2 * (b / 2) + 1 := by omega
    have e2 : e = 2 * (e / 2) := by omega
    generalize b / 2 = x at *
    generalize e / 2 = y at *
    subst e1 e2
    have : 4 * (y * y - d * f - x * x - x + a * c) = 1 := by grind
    omega
  · exact ⟨(b + e) / 2,by omega⟩
theorem div_of {x y z : Int} (hy : y≠0) (h : x = y * z) : x / y = z := by rw [h]; exact Int.mul_ediv_cancel_left z hy
theorem j1 {g u v w a' d' h' : Int} (hs : g = u * (g * a') + v * (g * d') + w * (g * h')) : g * (u * a' + v * d' + w * h') = g * 1 := by grind
theorem j2 {b e g h' : Int} (eh : b + e = 2 * (g * h')) : b + e = 2 * g * h' := by grind
theorem j3 {b e g h' X : Int} (eh : b + e = 2 * (g * h')) : b * e + (b * b - 4 * X) = 2 * (b * (g * h') - 2 * X) := by
  have : e = 2 * (g * h') - b := by omega
  rw [this]
  grind
theorem j4 {g e m d' t : Int} (h : e = m - 2 * d' * t) : g * (e - m) = 2 * (g * d') * -t := by subst h; grind
theorem j5 (B a' d' k : Int) : B - 2 * (a' * d') * k = B - 2 * a' * d' * k := by grind
theorem joint {a b c d e f g u v w : Int} (ha : 0 < a) (hd : 0 < d) (hD : b * b - 4 * a * c = e * e - 4 * d * f) (hg : 0 < g) (ga : g ∣ a) (gd : g ∣ d) (gh : g ∣ (b + e) / 2) (hs : g = u * a + v * d + w * ((b + e) / 2)) (m first C : Int) (e1 : first = a / g * (d / g))
    (e2 : m = (u * a * e + v * d * b + w * ((b * e + (b * b - 4 * a * c)) / 2)) / g % (2 * first)) (e3 : C = (m * m - (b * b - 4 * a * c)) / (4 * first)) :
    0 < first ∧ 0 ≤ m ∧ m < 2 * first ∧ m * m - 4 * first * C = b * b - 4 * a * c ∧
    Comp a b c d e f first m C g (g * (e - m) / (2 * d)) (g * (b - m) / (2 * a)) (g * (b * e + (b * b - 4 * a * c) - m * (b + e)) / (4 * a * d)) 0 (a / g) (d / g) ((b + e) / (2 * g)) := by
  obtain ⟨h,eh⟩ := even_sum hD
  have eh2 : (b + e) / 2 = h := by omega
  rw [eh2] at gh hs
  obtain ⟨a',ea⟩ := ga
  obtain ⟨d',ed⟩ := gd
  obtain ⟨h',ehh⟩ := gh
  have g0 : g ≠ 0 := by omega
  have a1 : a / g = a' := div_of g0 ea
  have d1 : d / g = d' := div_of g0 ed
  have h1 : (b + e) / (2 * g) = h' := div_of (by omega) (j2 (by rw [eh,ehh]))
  have apos : 0 < a' := by
    refine Int.not_le.mp λ z => ?_
    have := Int.mul_nonpos_of_nonneg_of_nonpos (show 0 ≤ g by omega) z
    omega
  have dpos : 0 < d' := by
    refine Int.not_le.mp λ z => ?_
    have := Int.mul_nonpos_of_nonneg_of_nonpos (show 0 ≤ g by omega) z
    omega
  have shares : u * a' + v * d' + w * h' = 1 := by
    refine mul_cancel g0 (j1 ?_)
    rw [← ea,← ed,← ehh]
    exact hs
  rw [a1,d1] at e1
  have fpos : 0 < first := by rw [e1]; exact Int.mul_pos apos dpos
  have hX : (b * e + (b * b - 4 * a * c)) / 2 = b * (g * h') - 2 * a * c := by
    refine div_of (by decide) ?_
    have := j3 (X := a * c) (show b + e = 2 * (g * h') by rw [eh,ehh])
    have r1 : 4 * a * c = 4 * (a * c) := Int.mul_assoc 4 a c
    have r2 : 2 * a * c = 2 * (a * c) := Int.mul_assoc 2 a c
    rw [r1,r2]
    exact this
  obtain ⟨P,tot⟩ := pre_of (a := a) (b := b) (c := c) (d := d) (e := e) (f := f) (k := (b + 2 * a' * (u * (g * h' - b) - c * w)) / (2 * first)) g0 ea ed (by rw [eh,ehh]) hD shares
  rw [hX,div_of g0 tot] at e2
  have em : m = b + 2 * a' * (u * (g * h' - b) - c * w) - 2 * a' * d' * ((b + 2 * a' * (u * (g * h' - b) - c * w)) / (2 * first)) := by
    rw [e2,Int.emod_def]
    conv => lhs; arg 2; arg 1; rw [e1]
    exact j5 _ _ _ _
  rw [← em] at P
  generalize (u * (g * h' - b) - c * w - d' * ((b + 2 * a' * (u * (g * h' - b) - c * w)) / (2 * first))) = s at P
  generalize (v * (g * h' - e) - f * w - a' * ((b + 2 * a' * (u * (g * h' - b) - c * w)) / (2 * first))) = t at P
  generalize ((b + 2 * a' * (u * (g * h' - b) - c * w)) / (2 * first)) * h' - (u * f + v * c) = z at P
  have hbar := pre_bar P
  have eC : C = s * t - g * z := by
    rw [e3]
    refine div_of (by omega) ?_
    rw [e1,hbar]
  have hlast := pre_last P
  have x1 : g * (e - m) / (2 * d) = -t := div_of (by omega) (by rw [ed]; exact j4 P.ee)
  have x2 : g * (b - m) / (2 * a) = -s := div_of (by omega) (by rw [ea]; exact j4 P.eb)
  have x3 : g * (b * e + (b * b - 4 * a * c) - m * (b + e)) / (4 * a * d) = z := div_of (by
    have := Int.mul_pos (show 0 < 4 * a by omega) hd
    omega) hlast
  rw [x1,x2,x3,a1,d1,h1]
  have cm := comp_of g0 P
  rw [← eC,← e1] at cm
  have m0 : 0 ≤ m := by rw [e2]; exact Int.emod_nonneg _ (by omega)
  have m1 : m < 2 * first := by rw [e2]; exact Int.emod_lt_of_pos _ (by omega)
  refine ⟨fpos,m0,m1,?_,cm⟩
  rw [← eC,← e1] at hbar
  omega
theorem comp_agree (a b d k : Int) : Comp a b (d * k) d b (a * k) (a * d) b k 1 0 0 (-k) 0 a d b := by
  refine ⟨λ x y u v => ?_,by grind,by grind⟩
  unfold W S
  grind
end MJ
namespace MJ
structure Fm (D a b c : Int) : Prop where
  pos : 0 < a
  bar : b * b - 4 * a * c = D
def CompE (a b c d e f A B C : Int) : Prop := ∃ X0 X1 X2 X3 Y0 Y1 Y2 Y3 : Int,Comp a b c d e f A B C X0 X1 X2 X3 Y0 Y1 Y2 Y3
theorem CompE.swap {a b c d e f A B C : Int} (h : CompE a b c d e f A B C) : CompE d e f a b c A B C := by
  obtain ⟨X0,X1,X2,X3,Y0,Y1,Y2,Y3,h⟩ := h
  exact ⟨_,_,_,_,_,_,_,_,h.swap⟩
theorem CompE.pull {D a b c d e f A B C p q r s a' b' c' : Int} (hD : D < 0) (h : CompE a b c d e f A B C) (f1 : Fm D a b c) (f2 : Fm D d e f) (f3 : Fm D A B C) (l : Led a b c p q r s a' b' c') : CompE a' b' c' d e f A B C := by
  obtain ⟨X0,X1,X2,X3,Y0,Y1,Y2,Y3,h⟩ := h
  have p1 := f1.pos
  have p2 := f2.pos
  have m := h.minors (by omega) (by omega) (by rw [f1.bar]; omega) (by rw [f1.bar,f2.bar]) (by rw [f1.bar,f3.bar])
  exact ⟨_,_,_,_,_,_,_,_,h.pull m l⟩
theorem CompE.one {D a b c d e f A B C A' B' C' l1 l2 l3 : Int} (hD : D < 0) (h : CompE a b c d e f A B C) (h' : CompE a b c d e f A' B' C') (f1 : Fm D a b c) (f2 : Fm D d e f) (f3 : Fm D A B C) (f4 : Fm D A' B' C') (hl : l1 * a + l2 * b + l3 * c = 1) :
    ∃ p q r s : Int,Led A' B' C' p q r s A B C := by
  obtain ⟨X0,X1,X2,X3,Y0,Y1,Y2,Y3,h⟩ := h
  obtain ⟨X0',X1',X2',X3',Y0',Y1',Y2',Y3',h'⟩ := h'
  have p1 := f1.pos
  have p2 := f2.pos
  have m := h.minors (by omega) (by omega) (by rw [f1.bar]; omega) (by rw [f1.bar,f2.bar]) (by rw [f1.bar,f3.bar])
  have m' := h'.minors (by omega) (by omega) (by rw [f1.bar]; omega) (by rw [f1.bar,f2.bar]) (by rw [f1.bar,f4.bar])
  exact comp_one h h' m m' (by omega) hl
theorem Led.bar {a b c p q r s a' b' c' : Int} (h : Led a b c p q r s a' b' c') : b' * b' - 4 * a' * c' = b * b - 4 * a * c := by
  obtain ⟨d,rfl,rfl,rfl⟩ := h
  unfold W
  have : (2 * a * p * q + b * (p * s + q * r) + 2 * c * r * s) * (2 * a * p * q + b * (p * s + q * r) + 2 * c * r * s) - 4 * (a * p * p + b * p * r + c * r * r) * (a * q * q + b * q * s + c * s * s) = (b * b - 4 * a * c) * ((p * s - q * r) * (p * s - q * r)) := by grind
  rw [this,d]
  omega
theorem comp_bare {a b c d e f A B C n : Int} (h : CompE a b c d e f A B C) {l1 l2 l3 m1 m2 m3 : Int} (hl : l1 * a + l2 * b + l3 * c = 1) (hm : m1 * d + m2 * e + m3 * f = 1) (hA : n ∣ A) (hB : n ∣ B) (hC : n ∣ C) : n ∣ 1 := by
  obtain ⟨X0,X1,X2,X3,Y0,Y1,Y2,Y3,h⟩ := h
  have all : ∀ x y u v : Int,n ∣ W a b c x y * W d e f u v := λ x y u v => by
    rw [h.prod]
    generalize S X0 X1 X2 X3 x y u v = X
    generalize S Y0 Y1 Y2 Y3 x y u v = Y
    unfold W
    exact Int.dvd_add (Int.dvd_add (Int.dvd_mul_of_dvd_left (Int.dvd_mul_of_dvd_left hA)) (Int.dvd_mul_of_dvd_left (Int.dvd_mul_of_dvd_left hB))) (Int.dvd_mul_of_dvd_left (Int.dvd_mul_of_dvd_left hC))
  have one : (1 : Int) = (l1 * a + l2 * b + l3 * c) * (m1 * d + m2 * e + m3 * f) := by rw [hl,hm]; rfl
  have ea : ∀ g : Int,n ∣ W a b c 1 0 * g → n ∣ W a b c 0 1 * g → n ∣ W a b c 1 1 * g → n ∣ (l1 * a + l2 * b + l3 * c) * g := λ g h1 h2 h3 => by
    have e1 : (l1 * a + l2 * b + l3 * c) * g = (l1 - l2) * (W a b c 1 0 * g) + l2 * (W a b c 1 1 * g) + (l3 - l2) * (W a b c 0 1 * g) := by unfold W; grind
    rw [e1]
    exact Int.dvd_add (Int.dvd_add (Int.dvd_mul_of_dvd_right h1) (Int.dvd_mul_of_dvd_right h3)) (Int.dvd_mul_of_dvd_right h2)
  have eb : ∀ g : Int,n ∣ g * W d e f 1 0 → n ∣ g * W d e f 0 1 → n ∣ g * W d e f 1 1 → n ∣ g * (m1 * d + m2 * e + m3 * f) := λ g h1 h2 h3 => by
    have e1 : g * (m1 * d + m2 * e + m3 * f) = (m1 - m2) * (g * W d e f 1 0) + m2 * (g * W d e f 1 1) + (m3 - m2) * (g * W d e f 0 1) := by unfold W; grind
    rw [e1]
    exact Int.dvd_add (Int.dvd_add (Int.dvd_mul_of_dvd_right h1) (Int.dvd_mul_of_dvd_right h3)) (Int.dvd_mul_of_dvd_right h2)
  rw [one]
  refine ea _ ?_ ?_ ?_
  · exact eb _ (all 1 0 1 0) (all 1 0 0 1) (all 1 0 1 1)
  · exact eb _ (all 0 1 1 0) (all 0 1 0 1) (all 0 1 1 1)
  · exact eb _ (all 1 1 1 0) (all 1 1 0 1) (all 1 1 1 1)
end MJ
namespace CM
open PySem PySem.Spec L2 FL FT
structure FormJ (a b c : Int) : Prop where
  pos : 0 < a
  bar : b * b - 4 * a * c < 0
  sa : Bd a 1450
  sb : Bd b 1450
  sc : Bd c 1450
  sd : Bd (b * b - 4 * a * c) 1200
  bare : Int.gcd (Int.gcd a b) c = 1
theorem FormJ.s {a b c : Int} (h : FormJ a b c) : FormS a b c := ⟨h.pos,h.bar,h.sa.up _ (by decide),h.sb.up _ (by decide),h.sc.up _ (by decide),h.sd⟩
theorem FormJ.n {a b c : Int} (h : FormJ a b c) : FormN a b c := h.s.n
theorem FormJ.bez {a b c : Int} (h : FormJ a b c) : ∃ l1 l2 l3 : Int,l1 * a + l2 * b + l3 * c = 1 := by
  obtain ⟨x,y,e1⟩ := ME.bez a b
  obtain ⟨z,w,e2⟩ := ME.bez (Int.gcd a b) c
  refine ⟨z * x,z * y,w,?_⟩
  rw [h.bare,← e1] at e2
  have : (1 : Int) = z * (x * a + y * b) + w * c := e2.symm
  rw [this]
  grind
def pre_dws (ds : List D) : Prop := ∃ one other : Int,ds = [.int one,.int other]∧Bd one 1460∧Bd other 1460
def post_dws (ds : List D) (d : D) : Prop := ∀ one other : Int,ds = [.int one,.int other]→∃ g u v : Int,d = .tup [.int g,.int u,.int v]∧g = (Int.gcd one other : Nat)∧g = u * one + v * other∧Bd u 1461∧Bd v 2925
theorem fz_dws {ds : List D} {d : D} {one other : Int} (hd : ds = [.int one,.int other]) (h : post_dws ds d) : Fz d := by
  obtain ⟨g,u,v,rfl,_⟩ := h one other hd
  exact fz_ints [g,u,v]
theorem bd_succ {x y : Int} {m : Nat} (hy : Bd y m) (h : x.natAbs≤y.natAbs + 1) : Bd x (m + 1) := by
  refine .of_lt ?_
  have h1 := intBits_le_iff.mp hy.lt
  rw [Nat.pow_succ]
  have : 1 ≤ 2 ^ m := Nat.one_le_two_pow
  omega
theorem eg_bd {one other dv sh rs rsh : Int} (h : ME.EG one other dv sh rs rsh) (h1 : Bd one 1460) (h2 : Bd other 1460) : Bd dv 1460∧Bd rs 1460∧Bd sh 1461∧Bd rsh 1461 := by
  refine ⟨?_,?_,bd_succ h2 h.b1,bd_succ h2 h.b2⟩
  · rcases h.ph with ⟨e,_⟩ | ⟨_,_,_,_,e,_⟩
    · rw [e]; exact h1
    · exact h2.le e
  · rcases h.ph with ⟨_,_,e,_⟩ | ⟨_,_,_,_,_,e⟩
    · rw [e]; exact h2
    · exact h2.le e
theorem times_bd {dv rs : Int} {m : Nat} (hr : rs≠0) (h : Bd dv m) : Bd (dv.fdiv rs) (m + 1) := by
  refine bd_succ h ?_
  obtain ⟨h1,_⟩ := ME.fmod_facts (a := dv) hr
  generalize dv.fdiv rs = t at *
  refine Nat.not_lt.mp λ z => ?_
  have k1 : (dv.natAbs + 2) * rs.natAbs ≤ t.natAbs * rs.natAbs := Nat.mul_le_mul_right _ z
  rw [← Int.natAbs_mul] at k1
  have k2 : dv.natAbs ≤ dv.natAbs * rs.natAbs := Nat.le_mul_of_pos_right _ (by omega)
  rw [Nat.add_mul] at k1
  omega
def pre_joined (ds : List D) : Prop := ∃ a b c d e f : Int,ds = [formD a b c,formD d e f]∧FormJ a b c∧FormJ d e f∧b * b - 4 * a * c = e * e - 4 * d * f
def post_joint_divisor (ds : List D) (r : D) : Prop := ∀ a b c d e f : Int,ds = [formD a b c,formD d e f]→∃ g u v w : Int,r = .tup [.int g,.int u,.int v,.int w]∧0 < g∧g ∣ a∧g ∣ d∧g ∣ (b + e) / 2∧g = u * a + v * d + w * ((b + e) / 2)∧Bd g 1450∧Bd u 2922∧Bd v 4386∧Bd w 2925
def p_joint_middle (ds : List D) (r : D) : Prop := ∃ a b c d e f g u v w : Int,ds = [formD a b c,formD d e f,.tup [.int g,.int u,.int v,.int w]]∧FormJ a b c∧FormJ d e f∧0 < g∧Bd g 1450∧Bd u 2922∧Bd v 4386∧Bd w 2925 ∧
  r = .int ((u * a * e + v * d * b + w * ((b * e + (b * b - 4 * a * c)) / 2)) / g)
def p_joint_rows (ds es : List D) : Prop := ∃ a b c d e f g m : Int,ds = [formD a b c,formD d e f,.int g,.int m]∧FormJ a b c∧FormJ d e f∧0 < g∧Bd g 1450∧Bd m 2901 ∧
  es = [plD g 0,plD (g * (e - m) / (2 * d)) (a / g),plD (g * (b - m) / (2 * a)) (d / g),plD (g * (b * e + (b * b - 4 * a * c) - m * (b + e)) / (4 * a * d)) ((b + e) / (2 * g))]
structure Joint (a b c d e f A B C X0 X1 X2 X3 Y0 Y1 Y2 Y3 : Int) : Prop where
  least : MT.Least A B C
  s : FormS A B C
  bar : B * B - 4 * A * C = b * b - 4 * a * c
  comp : MJ.Comp a b c d e f A B C X0 X1 X2 X3 Y0 Y1 Y2 Y3
  x0 : Bd X0 13000
  x1 : Bd X1 13000
  x2 : Bd X2 13000
  x3 : Bd X3 13000
  y0 : Bd Y0 13000
  y1 : Bd Y1 13000
  y2 : Bd Y2 13000
  y3 : Bd Y3 13000
def post_joined (ds : List D) (r : D) : Prop := ∀ a b c d e f : Int,ds = [formD a b c,formD d e f]→∃ A B C X0 X1 X2 X3 Y0 Y1 Y2 Y3 : Int,r = .tup [formD A B C,turD X0 X1 X2 X3,turD Y0 Y1 Y2 Y3]∧Joint a b c d e f A B C X0 X1 X2 X3 Y0 Y1 Y2 Y3
theorem fz_joined {ds : List D} {r : D} {a b c d e f : Int} (hd : ds = [formD a b c,formD d e f]) (h : post_joined ds r) : Fz r := by
  obtain ⟨A,B,C,X0,X1,X2,X3,Y0,Y1,Y2,Y3,rfl,_⟩ := h a b c d e f hd
  exact fz_three (fz3 _ _ _) (fz_ints [_,_,_,_]) (fz_ints [_,_,_,_])
theorem fz_jd {ds : List D} {r : D} {a b c d e f : Int} (hd : ds = [formD a b c,formD d e f]) (h : post_joint_divisor ds r) : Fz r := by
  obtain ⟨g,u,v,w,rfl,_⟩ := h a b c d e f hd
  exact fz_ints [_,_,_,_]
theorem Leads.led {a b c p q r s a' b' c' : Int} (h : Leads a b c p q r s a' b' c') : MJ.Led a b c p q r s a' b' c' := ⟨h.det,h.e1,h.e2,h.e3⟩
theorem Leads.of {a b c p q r s a' b' c' : Int} (h : MJ.Led a b c p q r s a' b' c') : Leads a b c p q r s a' b' c' := ⟨h.det,h.e1,h.e2,h.e3⟩
theorem joint_S {first m C Dd : Int} (f0 : 0 < first) (m0 : 0≤m) (m1 : m < 2 * first) (hb : m * m - 4 * first * C = Dd) (hD : Dd < 0) (sf : Bd first 2900) (sD : Bd Dd 1200) : FormS first m C := by
  have c0 : 0 < C := by
    refine Int.not_le.mp λ z => ?_
    have h1 := Int.mul_nonpos_of_nonneg_of_nonpos (show 0 ≤ 4 * first by omega) z
    have h2 := MT.sq_nonneg m
    omega
  have c1 : C < first - Dd := by
    refine Int.not_le.mp λ z => ?_
    have h1 := Int.mul_le_mul_of_nonneg_left z (show 0 ≤ 4 * first by omega)
    have h2 : m * m < 2 * first * (2 * first) := by
      have k1 := Int.mul_le_mul_of_nonneg_left (Int.le_of_lt m1) m0
      have k2 := Int.mul_lt_mul_of_pos_right m1 (show 0 < 2 * first by omega)
      omega
    have h3 : -Dd ≤ 4 * first * -Dd := by
      have := Int.mul_le_mul_of_nonneg_right (show (1 : Int) ≤ 4 * first by omega) (show 0 ≤ -Dd by omega)
      omega
    grind
  have sm : Bd m 2901 := by
    have : Bd (2 * first) 2902 := Bd.mul bd_2 sf _ (by decide)
    refine .of_lt ?_
    have h1 := intBits_le_iff.mp sf.lt
    have e : 2 ^ 2901 = 2 ^ 2900 * 2 := Nat.pow_succ _ _
    rw [e]
    generalize 2 ^ 2900 = N at *
    omega
  have sC : Bd C 2901 := (Bd.sub sf (sD.up 2900 (by decide)) 2901 (by decide)).le (by omega)
  exact ⟨f0,by rw [hb]; exact hD,sf.up _ (by decide),sm.up _ (by decide),sC.up _ (by decide),by rw [hb]; exact sD⟩
end CM
namespace CM
open PySem PySem.Spec L2 FL FT
def p_require_same_bar (ds : List D) (d : D) : Prop := ∃ a b c x y z : Int,ds = [formD a b c,formD x y z]∧FormN a b c∧FormN x y z∧b * b - 4 * a * c = y * y - 4 * x * z∧d = .non
def p_require_bare (ds : List D) (d : D) : Prop := ∃ a b c : Int,ds = [formD a b c]∧FormN a b c∧Int.gcd (Int.gcd a b) c = 1∧d = .non
def plOf : D→Int × Int
  | .tup [.int x,.int y] => (x,y)
  | _ => (0,0)
end CM
namespace CM
open PySem PySem.Spec L2 FL FT
end CM
namespace CM
open PySem PySem.Spec L2 FL FT
end CM
namespace CM
open PySem PySem.Spec L2 FL FT
theorem EvR.ev {X : Cx} {e : Expr} {ρ : Ro} {d : D} (h : EvR X e ρ (λ x => x = d)) : Ev X e ρ d := PE.imp h λ _ _ _ ⟨r,q⟩ => ⟨r,λ d' v H' z s i => by subst z; exact q v H' s i⟩
theorem least_1200 {a b c : Int} (ha : 0 < a) (L : MT.Least a b c) (sd : Bd (b * b - 4 * a * c) 1200) : Bd a 1200∧Bd b 1200∧Bd c 1200 := by
  obtain ⟨h1,h2,h3⟩ := MT.least_small ha L
  have ac := L.ac
  exact ⟨sd.le (by omega),sd.le (by omega),sd.le (by omega)⟩
theorem least_J {a b c : Int} (f : FormS a b c) (L : MT.Least a b c) (bare : Int.gcd (Int.gcd a b) c = 1) : FormJ a b c := by
  obtain ⟨h1,h2,h3⟩ := least_1200 f.pos L f.sd
  exact ⟨f.pos,f.bar,h1.up _ (by decide),h2.up _ (by decide),h3.up _ (by decide),f.sd,bare⟩
def p_is_bar (ds : List D) (d : D) : Prop := ∃ i : Int,ds = [.int i]∧i < 0∧(i % 4 = 0∨i % 4 = 1)∧d = .bl true
def p_require_bar (ds : List D) (d : D) : Prop := ∃ i : Int,ds = [.int i]∧i < 0∧(i % 4 = 0∨i % 4 = 1)∧d = .non
def p_neutral (ds : List D) (d : D) : Prop := ∃ i : Int,ds = [.int i]∧i < 0∧(i % 4 = 0∨i % 4 = 1)∧d = formD 1 (i % 2) ((i % 2 - i) / 4)
theorem bar_mod (a b c : Int) : (b * b - 4 * a * c) % 4 = 0∨(b * b - 4 * a * c) % 4 = 1 := by
  rcases Int.emod_two_eq b with h | h
  · have e : b = 2 * (b / 2) := by omega
    generalize b / 2 = x at *
    subst e
    have : 2 * x * (2 * x) - 4 * a * c = 4 * (x * x - a * c) := by grind
    omega
  · have e : b = 2 * (b / 2) + 1 := by omega
    generalize b / 2 = x at *
    subst e
    have : (2 * x + 1) * (2 * x + 1) - 4 * a * c = 4 * (x * x + x - a * c) + 1 := by grind
    omega
theorem neutral_least {i : Int} (hi : i < 0) (h4 : i % 4 = 0∨i % 4 = 1) : MT.Least 1 (i % 2) ((i % 2 - i) / 4)∧(i % 2) * (i % 2) - 4 * 1 * ((i % 2 - i) / 4) = i := by
  rcases Int.emod_two_eq i with h | h
  · rw [h]
    exact ⟨⟨by omega,by omega,by omega,λ _ => by omega⟩,by omega⟩
  · rw [h]
    exact ⟨⟨by omega,by omega,by omega,λ _ => by omega⟩,by omega⟩
theorem Leads.refl (a b c : Int) : Leads a b c 1 0 0 1 a b c := by
  refine ⟨by omega,?_,?_,?_⟩ <;> (try unfold MT.Wo) <;> grind
theorem bez_of {a b c : Int} (h : Int.gcd (Int.gcd a b) c = 1) : ∃ l1 l2 l3 : Int,l1 * a + l2 * b + l3 * c = 1 := by
  obtain ⟨x,y,e1⟩ := ME.bez a b
  obtain ⟨z,w,e2⟩ := ME.bez (Int.gcd a b) c
  refine ⟨z * x,z * y,w,?_⟩
  rw [h,← e1] at e2
  have : (1 : Int) = z * (x * a + y * b) + w * c := e2.symm
  rw [this]
  grind
theorem Joint.bare {a b c d e f A B C X0 X1 X2 X3 Y0 Y1 Y2 Y3 : Int} (J : Joint a b c d e f A B C X0 X1 X2 X3 Y0 Y1 Y2 Y3) (h1 : FormJ a b c) (h2 : FormJ d e f) : Int.gcd (Int.gcd A B) C = 1 := by
  obtain ⟨l1,l2,l3,hl⟩ := h1.bez
  obtain ⟨m1,m2,m3,hm⟩ := h2.bez
  have d1 : ((Int.gcd (Int.gcd A B) C : Nat) : Int) ∣ ((Int.gcd A B : Nat) : Int) := Int.gcd_dvd_left _ _
  have := MJ.comp_bare ⟨_,_,_,_,_,_,_,_,J.comp⟩ hl hm (Int.dvd_trans d1 (Int.gcd_dvd_left A B)) (Int.dvd_trans d1 (Int.gcd_dvd_right A B)) (Int.gcd_dvd_right _ _)
  have := Int.natCast_dvd_natCast.mp (show ((Int.gcd (Int.gcd A B) C : Nat) : Int) ∣ ((1 : Nat) : Int) from this)
  exact Nat.dvd_one.mp this
theorem Joint.J {a b c d e f A B C X0 X1 X2 X3 Y0 Y1 Y2 Y3 : Int} (J : Joint a b c d e f A B C X0 X1 X2 X3 Y0 Y1 Y2 Y3) (h1 : FormJ a b c) (h2 : FormJ d e f) : FormJ A B C := least_J J.s J.least (J.bare h1 h2)
theorem least_one {a b c p q r s x y z p' q' r' s' u v w : Int} (h1 : Leads a b c p q r s x y z) (h2 : Leads a b c p' q' r' s' u v w) (L1 : MT.Least x y z) (L2 : MT.Least u v w) (hx : 0 < x) (hu : 0 < u) : u = x∧v = y∧w = z := by
  have g := h1.back.trans h2
  exact MT.least_unique hx hu L1 L2 g.det g.e1 g.e2 g.e3
end CM
namespace CM
open PySem PySem.Spec L2 FL FT
section
variable {X : Cx} {e1 e2 : Expr} {ρ : Ro} {p0 p1 p2 p3 : Pos} {m : Nat}
theorem ev_least0 {a b c p q r s x y z : Int} (Gl : FnR X.prog X.w X.K X.mg X.base 5 "least_of" pre_form post_least_of) (hr : Room 5 X.A) (h1 : Ev X e1 ρ (formD a b c)) (S : FormS a b c) (l : Leads a b c p q r s x y z) (L : MT.Least x y z) (hx : 0 < x)
    (hg : L2.Gl X "least_of" := by rfl) (he : starEach [e1] X.env = (false,eval e1 X.env) :: starEach [] X.env := by rfl) (hpl : (backTo p1 (starEach [] X.env)).any (·.1) = false := by rfl) :
    Ev X (.Subscript (.Call (.Name "least_of" p0) [e1] [] p1) (.Constant (.int 0) m p2) p3) ρ (formD x y z) := by
  refine EvR.ev (evr_ix (evr_call Gl hr (ea_cons h1 ea_nil he) ⟨a,b,c,rfl,S⟩ hg (by decide) he hpl) ev_int (λ d hd => ?_))
  obtain ⟨a',b',c',p',q',r',s',rfl,L',g,_,ld⟩ := hd _ _ _ rfl
  obtain ⟨f1,f2,f3⟩ := least_one l ld L L' hx g.pos
  exact ⟨_,_,rfl,rfl,by rw [f1,f2,f3]⟩
end
end CM
namespace MP
theorem icd {p : Nat} {z : Int} : (p : Int) ∣ z↔p ∣ z.natAbs := by
  rw [← Int.natCast_dvd_natCast,Int.dvd_natAbs]
def Pr (p : Nat) : Prop := 2≤p∧∀ d,d ∣ p→d = 1∨d = p
theorem pr_ex : ∀ n : Nat,2≤n→∃ p,Pr p∧p ∣ n := by
  intro n
  induction n using Nat.strongRecOn with
  | ind n ih =>
    intro hn
    by_cases h : Pr n
    · exact ⟨n,h,Nat.dvd_refl n⟩
    · have : ∃ d,d ∣ n ∧ d ≠ 1 ∧ d ≠ n := by
        refine Classical.byContradiction λ hc => h ⟨hn,λ d hd => ?_⟩
        refine Classical.byContradiction λ hd' => hc ⟨d,hd,λ e => hd' (.inl e),λ e => hd' (.inr e)⟩
      obtain ⟨d,hd,h1,h2⟩ := this
      have hle := Nat.le_of_dvd (by omega) hd
      have h0 : d ≠ 0 := λ z => by
        subst z
        have := Nat.eq_zero_of_zero_dvd hd
        omega
      obtain ⟨p,hp,hpd⟩ := ih d (by omega) (by omega)
      exact ⟨p,hp,Nat.dvd_trans hpd hd⟩
theorem Pr.cop {p a : Nat} (hp : Pr p) (h : ¬ p ∣ a) : Nat.gcd p a = 1 := by
  rcases hp.2 _ (Nat.gcd_dvd_left p a) with e | e
  · exact e
  · exact absurd (e ▸ Nat.gcd_dvd_right p a) h
theorem Pr.mul {p a b : Nat} (hp : Pr p) (h : p ∣ a * b) : p ∣ a∨p ∣ b := by
  by_cases ha : p ∣ a
  · exact .inl ha
  · exact .inr (Nat.Coprime.dvd_of_dvd_mul_left (hp.cop ha) h)
theorem Pr.imul {p : Nat} {a b : Int} (hp : Pr p) (h : (p : Int) ∣ a * b) : (p : Int) ∣ a∨(p : Int) ∣ b := by
  rw [icd,Int.natAbs_mul] at h
  rw [icd,icd]
  exact hp.mul h
theorem Pr.one {p : Nat} (hp : Pr p) (h : (p : Int) ∣ 1) : False := by
  have := icd.mp h
  have := Nat.le_of_dvd (by decide) this
  have := hp.1
  simp at *
  omega
def prodN : List Nat→Nat
  | [] => 1
  | x :: xs => x * prodN xs
theorem mem_prod {p : Nat} : ∀ {l : List Nat},p∈l→p ∣ prodN l
  | x :: xs,h => by
    rcases List.mem_cons.mp h with rfl | h
    · exact Nat.dvd_mul_right _ _
    · exact Nat.dvd_trans (mem_prod h) (Nat.dvd_mul_left _ _)
theorem Pr.mem {p : Nat} (hp : Pr p) : ∀ {l : List Nat},(∀ q∈l,Pr q)→p ∣ prodN l→p∈l
  | [],_,h => by
    have := Nat.le_of_dvd (by decide) h
    have := hp.1
    simp [prodN] at *
    omega
  | x :: xs,hl,h => by
    rcases hp.mul h with h | h
    · rcases (hl x List.mem_cons_self).2 _ h with e | e
      · have := hp.1
        omega
      · exact e ▸ List.mem_cons_self
    · exact List.mem_cons_of_mem _ (hp.mem (λ q hq => hl q (List.mem_cons_of_mem _ hq)) h)
theorem prod_pos : ∀ {l : List Nat},(∀ q∈l,Pr q)→0 < prodN l
  | [],_ => by decide
  | x :: xs,hl => Nat.mul_pos (by have := (hl x List.mem_cons_self).1; omega) (prod_pos λ q hq => hl q (List.mem_cons_of_mem _ hq))
theorem gcd_one_of {m N : Int} (hN : N≠0) (h : ∀ p : Nat,Pr p→(p : Int) ∣ N→¬ (p : Int) ∣ m) : Int.gcd m N = 1 := by
  refine Classical.byContradiction λ hg => ?_
  have h0 : Int.gcd m N ≠ 0 := λ z => hN (Int.gcd_eq_zero_iff.mp z).2
  obtain ⟨p,hp,hd⟩ := pr_ex (Int.gcd m N) (by omega)
  have hd' : (p : Int) ∣ ((Int.gcd m N : Nat) : Int) := Int.natCast_dvd_natCast.mpr hd
  exact h p hp (Int.dvd_trans hd' (Int.gcd_dvd_right m N)) (Int.dvd_trans hd' (Int.gcd_dvd_left m N))
theorem telling {a b c N x y l1 l2 l3 : Int} (hN : N≠0) (hl : l1 * a + l2 * b + l3 * c = 1)
    (h1 : ∀ p : Nat,Pr p → (p : Int) ∣ N → ((p : Int) ∣ y ↔ ¬ (p : Int) ∣ a)) (h2 : ∀ p : Nat,Pr p → (p : Int) ∣ N → ((p : Int) ∣ x ↔ (p : Int) ∣ a ∧ ¬ (p : Int) ∣ c)) : Int.gcd (a * x * x + b * x * y + c * y * y) N = 1 := by
  refine gcd_one_of hN λ p hp hpN hm => ?_
  have e1 := h1 p hp hpN
  have e2 := h2 p hp hpN
  by_cases pa : (p : Int) ∣ a
  · have ny : ¬ (p : Int) ∣ y := λ z => (e1.mp z) pa
    by_cases pc : (p : Int) ∣ c
    · have nx : ¬ (p : Int) ∣ x := λ z => (e2.mp z).2 pc
      have hb : (p : Int) ∣ b * x * y := by
        have t1 : (p : Int) ∣ a * x * x := Int.dvd_mul_of_dvd_left (Int.dvd_mul_of_dvd_left pa)
        have t2 : (p : Int) ∣ c * y * y := Int.dvd_mul_of_dvd_left (Int.dvd_mul_of_dvd_left pc)
        have := Int.dvd_sub (Int.dvd_sub hm t1) t2
        have e : a * x * x + b * x * y + c * y * y - a * x * x - c * y * y = b * x * y := by omega
        rwa [e] at this
      rcases hp.imul hb with h | h
      · rcases hp.imul h with h | h
        · refine hp.one ?_
          rw [← hl]
          exact Int.dvd_add (Int.dvd_add (Int.dvd_mul_of_dvd_right pa) (Int.dvd_mul_of_dvd_right h)) (Int.dvd_mul_of_dvd_right pc)
        · exact nx h
      · exact ny h
    · have px := e2.mpr ⟨pa,pc⟩
      have hc : (p : Int) ∣ c * y * y := by
        have t1 : (p : Int) ∣ a * x * x := Int.dvd_mul_of_dvd_right px
        have t2 : (p : Int) ∣ b * x * y := Int.dvd_mul_of_dvd_left (Int.dvd_mul_of_dvd_right px)
        have := Int.dvd_sub (Int.dvd_sub hm t1) t2
        have e : a * x * x + b * x * y + c * y * y - a * x * x - b * x * y = c * y * y := by omega
        rwa [e] at this
      rcases hp.imul hc with h | h
      · rcases hp.imul h with h | h
        · exact pc h
        · exact ny h
      · exact ny h
  · have py := e1.mpr pa
    have nx : ¬ (p : Int) ∣ x := λ z => pa (e2.mp z).1
    have ha : (p : Int) ∣ a * x * x := by
      have t1 : (p : Int) ∣ c * y * y := Int.dvd_mul_of_dvd_right py
      have t2 : (p : Int) ∣ b * x * y := Int.dvd_mul_of_dvd_right py
      have := Int.dvd_sub (Int.dvd_sub hm t1) t2
      have e : a * x * x + b * x * y + c * y * y - c * y * y - b * x * y = a * x * x := by omega
      rwa [e] at this
    rcases hp.imul ha with h | h
    · rcases hp.imul h with h | h
      · exact pa h
      · exact nx h
    · exact nx h
open Classical in
theorem worth_cop {a b c N l1 l2 l3 : Int} (hN : N≠0) (hl : l1 * a + l2 * b + l3 * c = 1) : ∃ x y : Int,Int.gcd x y = 1∧Int.gcd (a * x * x + b * x * y + c * y * y) N = 1 := by
  let ps : List Nat := (List.range (N.natAbs + 1)).filter λ p => decide (Pr p ∧ (p : Int) ∣ N)
  have hps : ∀ p : Nat,p ∈ ps ↔ Pr p ∧ (p : Int) ∣ N := λ p => by
    simp only [ps,List.mem_filter,List.mem_range,decide_eq_true_eq]
    refine ⟨λ h => h.2,λ h => ⟨?_,h⟩⟩
    have := Nat.le_of_dvd (by omega) (icd.mp h.2)
    omega
  let ys : List Nat := ps.filter λ (p : Nat) => decide (¬ (p : Int) ∣ a)
  let xs : List Nat := ps.filter λ (p : Nat) => decide ((p : Int) ∣ a ∧ ¬ (p : Int) ∣ c)
  have pry : ∀ q ∈ ys,Pr q := λ q hq => ((hps q).mp (List.mem_filter.mp hq).1).1
  have prx : ∀ q ∈ xs,Pr q := λ q hq => ((hps q).mp (List.mem_filter.mp hq).1).1
  have hy : ∀ p : Nat,Pr p → (p : Int) ∣ N → ((p : Int) ∣ ((prodN ys : Nat) : Int) ↔ ¬ (p : Int) ∣ a) := λ p hp hpN => by
    rw [Int.natCast_dvd_natCast]
    constructor
    · intro h
      have := (List.mem_filter.mp (hp.mem pry h)).2
      simpa using this
    · intro h
      exact mem_prod (List.mem_filter.mpr ⟨(hps p).mpr ⟨hp,hpN⟩,by simpa using h⟩)
  have hx : ∀ p : Nat,Pr p → (p : Int) ∣ N → ((p : Int) ∣ ((prodN xs : Nat) : Int) ↔ (p : Int) ∣ a ∧ ¬ (p : Int) ∣ c) := λ p hp hpN => by
    rw [Int.natCast_dvd_natCast]
    constructor
    · intro h
      have := (List.mem_filter.mp (hp.mem prx h)).2
      simpa using this
    · intro h
      exact mem_prod (List.mem_filter.mpr ⟨(hps p).mpr ⟨hp,hpN⟩,by simpa using h⟩)
  refine ⟨(prodN xs : Nat),(prodN ys : Nat),?_,telling hN hl hy hx⟩
  have py := prod_pos pry
  refine gcd_one_of (by omega) λ p hp h1 h2 => ?_
  have m1 := hp.mem pry (Int.natCast_dvd_natCast.mp h1)
  have m2 := hp.mem prx (Int.natCast_dvd_natCast.mp h2)
  have t1 := (List.mem_filter.mp m1).2
  have t2 := (List.mem_filter.mp m2).2
  simp only [decide_eq_true_eq] at t1 t2
  exact t1 t2.1
end MP
namespace MG
open MJ
structure Q where
  a : Int
  b : Int
  c : Int
deriving DecidableEq
structure Ok (D : Int) (f : Q) : Prop where
  pos : 0 < f.a
  bar : f.b * f.b - 4 * f.a * f.c = D
theorem Ok.fm {D : Int} {f : Q} (h : Ok D f) : Fm D f.a f.b f.c := ⟨h.pos,h.bar⟩
def Bare (f : Q) : Prop := ∃ l1 l2 l3 : Int,l1 * f.a + l2 * f.b + l3 * f.c = 1
def Eqv (f g : Q) : Prop := ∃ p q r s : Int,Led f.a f.b f.c p q r s g.a g.b g.c
def Cp (f g h : Q) : Prop := CompE f.a f.b f.c g.a g.b g.c h.a h.b h.c
theorem Eqv.refl (f : Q) : Eqv f f := ⟨1,0,0,1,by omega,by unfold W; grind,by grind,by unfold W; grind⟩
theorem Eqv.symm {f g : Q} (h : Eqv f g) : Eqv g f := by
  obtain ⟨p,q,r,s,d,e1,e2,e3⟩ := h
  refine ⟨s,-q,-r,p,by grind,?_,?_,?_⟩
  · rw [e1,e2,e3]; unfold W; grind
  · rw [e1,e2,e3]; unfold W; grind
  · rw [e1,e2,e3]; unfold W; grind
theorem Eqv.trans {f g h : Q} (h1 : Eqv f g) (h2 : Eqv g h) : Eqv f h := by
  obtain ⟨p,q,r,s,d,e1,e2,e3⟩ := h1
  obtain ⟨x,y,z,v,d',f1,f2,f3⟩ := h2
  refine ⟨p * x + q * z,p * y + q * v,r * x + s * z,r * y + s * v,by grind,?_,?_,?_⟩
  · rw [f1,e1,e2,e3]; unfold W; grind
  · rw [f2,e1,e2,e3]; unfold W; grind
  · rw [f3,e1,e2,e3]; unfold W; grind
theorem Eqv.bar {f g : Q} (h : Eqv f g) : g.b * g.b - 4 * g.a * g.c = f.b * f.b - 4 * f.a * f.c := by
  obtain ⟨p,q,r,s,l⟩ := h
  exact l.bar
theorem w_pos {a b c x y : Int} (ha : 0 < a) (hd : b * b - 4 * a * c < 0) (h : x≠0∨y≠0) : 0 < W a b c x y := by
  have sq : ∀ z : Int,0 ≤ z * z := λ z => by
    rcases Int.le_total 0 z with h | h
    · exact Int.mul_nonneg h h
    · exact Int.mul_nonneg_of_nonpos_of_nonpos h h
  have e : 4 * a * W a b c x y = (2 * a * x + b * y) * (2 * a * x + b * y) + (-(b * b - 4 * a * c)) * (y * y) := by unfold W; grind
  have h1 := sq (2 * a * x + b * y)
  have h2 := Int.mul_nonneg (show 0 ≤ -(b * b - 4 * a * c) by omega) (sq y)
  have key : 0 < 4 * a * W a b c x y := by
    by_cases hy : y = 0
    · subst hy
      have hx : x ≠ 0 := by omega
      have : 0 < (2 * a * x + b * 0) * (2 * a * x + b * 0) := by
        have e2 : (2 * a * x + b * 0) * (2 * a * x + b * 0) = 4 * a * a * (x * x) := by grind
        rw [e2]
        refine Int.mul_pos (Int.mul_pos (by omega) ha) ?_
        rcases Int.lt_or_gt_of_ne hx with h | h
        · exact Int.mul_pos_of_neg_of_neg h h
        · exact Int.mul_pos h h
      omega
    · have : 0 < y * y := by
        rcases Int.lt_or_gt_of_ne hy with h | h
        · exact Int.mul_pos_of_neg_of_neg h h
        · exact Int.mul_pos h h
      have := Int.mul_pos (show 0 < -(b * b - 4 * a * c) by omega) this
      omega
  refine Int.not_le.mp λ z => ?_
  have := Int.mul_nonpos_of_nonneg_of_nonpos (show 0 ≤ 4 * a by omega) z
  omega
theorem Ok.eqv {D : Int} {f g : Q} (hD : D < 0) (h : Ok D f) (e : Eqv f g) : Ok D g := by
  refine ⟨?_,by rw [e.bar]; exact h.bar⟩
  obtain ⟨p,q,r,s,l⟩ := e
  rw [l.e1]
  refine w_pos h.pos (by rw [h.bar]; exact hD) ?_
  by_cases z : p = 0
  · refine .inr λ w => ?_
    have := l.det
    rw [z,w] at this
    simp at this
  · exact .inl z
theorem Bare.eqv {f g : Q} (h : Bare f) (e : Eqv f g) : Bare g := by
  obtain ⟨l1,l2,l3,hl⟩ := h
  obtain ⟨p,q,r,s,d,e1,e2,e3⟩ := e.symm
  refine ⟨l1 * (p * p) + l2 * (2 * p * q) + l3 * (q * q),l1 * (p * r) + l2 * (p * s + q * r) + l3 * (q * s),l1 * (r * r) + l2 * (2 * r * s) + l3 * (s * s),?_⟩
  rw [← hl,e1,e2,e3]
  unfold W
  grind
theorem Cp.swap {f g h : Q} (c : Cp f g h) : Cp g f h := CompE.swap c
theorem Cp.pull {D : Int} {f f' g h : Q} (hD : D < 0) (c : Cp f g h) (o1 : Ok D f) (o2 : Ok D g) (o3 : Ok D h) (e : Eqv f f') : Cp f' g h := by
  obtain ⟨p,q,r,s,l⟩ := e
  exact CompE.pull hD c o1.fm o2.fm o3.fm l
theorem Cp.pull2 {D : Int} {f g g' h : Q} (hD : D < 0) (c : Cp f g h) (o1 : Ok D f) (o2 : Ok D g) (o3 : Ok D h) (e : Eqv g g') : Cp f g' h := (c.swap.pull hD o2 o1 o3 e).swap
theorem Cp.one {D : Int} {f g h h' : Q} (hD : D < 0) (c : Cp f g h) (c' : Cp f g h') (o1 : Ok D f) (o2 : Ok D g) (o3 : Ok D h) (o4 : Ok D h') (b : Bare f) : Eqv h h' := by
  obtain ⟨l1,l2,l3,hl⟩ := b
  obtain ⟨p,q,r,s,l⟩ := CompE.one hD c' c o1.fm o2.fm o4.fm o3.fm hl
  exact ⟨p,q,r,s,l⟩
theorem Cp.target {f g h h' : Q} (c : Cp f g h) (e : Eqv h h') : Cp f g h' := by
  obtain ⟨X0,X1,X2,X3,Y0,Y1,Y2,Y3,c⟩ := c
  obtain ⟨p,q,r,s,l⟩ := e
  exact ⟨_,_,_,_,_,_,_,_,c.target l⟩
theorem cp_agree (a b d k : Int) : Cp ⟨a,b,d * k⟩ ⟨d,b,a * k⟩ ⟨a * d,b,k⟩ := ⟨_,_,_,_,_,_,_,_,comp_agree a b d k⟩
theorem cop_rep {N : Int} {f : Q} (hN : N≠0) (hb : Bare f) : ∃ g : Q,Eqv f g∧Int.gcd g.a N = 1 := by
  obtain ⟨l1,l2,l3,hl⟩ := hb
  obtain ⟨x,y,hxy,hw⟩ := MP.worth_cop hN hl
  obtain ⟨u,v,e⟩ := ME.bez x y
  rw [hxy] at e
  refine ⟨⟨W f.a f.b f.c x y,2 * f.a * x * -v + f.b * (x * u + -v * y) + 2 * f.c * y * u,W f.a f.b f.c (-v) u⟩,⟨x,-v,y,u,?_,rfl,rfl,rfl⟩,hw⟩
  have : u * x + v * y = 1 := e
  grind
theorem shift_eqv (f : Q) (t : Int) : Eqv f ⟨f.a,f.b + 2 * f.a * t,f.c + t * (f.b + f.a * t)⟩ := by
  refine ⟨1,t,0,1,by omega,?_,?_,?_⟩ <;> (try unfold W) <;> (dsimp only) <;> grind
theorem crt {a d x y : Int} (h : Int.gcd a d = 1) : ∃ t u : Int,x + a * t = y + d * u := by
  obtain ⟨p,q,e⟩ := ME.bez a d
  rw [h] at e
  have e' : p * a + q * d = 1 := e
  refine ⟨p * (y - x),q * (x - y),?_⟩
  have : (p * a + q * d) * (y - x) = y - x := by rw [e']; omega
  grind
theorem bar_parity {D : Int} {f : Q} (h : Ok D f) : ∃ t : Int,f.b = D % 2 + 2 * t := by
  have := h.bar
  refine ⟨f.b / 2,?_⟩
  have e : D % 2 = f.b % 2 := by
    rcases Int.emod_two_eq f.b with hb | hb
    · have e : f.b = 2 * (f.b / 2) := by omega
      generalize f.b / 2 = x at e
      have : D = 2 * (2 * x * x - 2 * f.a * f.c) := by rw [← h.bar,e]; grind
      omega
    · have e : f.b = 2 * (f.b / 2) + 1 := by omega
      generalize f.b / 2 = x at e
      have : D = 2 * (2 * x * x + 2 * x - 2 * f.a * f.c) + 1 := by rw [← h.bar,e]; grind
      omega
  omega
theorem cop_dvd {a d m : Int} (h : Int.gcd a d = 1) (ha : a ∣ m) (hd : d ∣ m) : a * d ∣ m := by
  obtain ⟨p,q,e⟩ := ME.bez a d
  rw [h] at e
  have e' : p * a + q * d = 1 := e
  obtain ⟨x,hx⟩ := ha
  obtain ⟨y,hy⟩ := hd
  refine ⟨p * y + q * x,?_⟩
  have : m = (p * a + q * d) * m := by rw [e']; omega
  rw [this]
  have k1 : p * a * m = a * d * (p * y) := by rw [hy]; grind
  have k2 : q * d * m = a * d * (q * x) := by rw [hx]; grind
  grind
theorem agree2 {D : Int} {f g : Q} (o1 : Ok D f) (o2 : Ok D g) (h : Int.gcd f.a g.a = 1) : ∃ b k t : Int,b = f.b + 2 * f.a * t∧Eqv f ⟨f.a,b,g.a * k⟩∧Eqv g ⟨g.a,b,f.a * k⟩ := by
  obtain ⟨x,ex⟩ := bar_parity o1
  obtain ⟨y,ey⟩ := bar_parity o2
  obtain ⟨t,u,e⟩ := crt (x := x) (y := y) h
  have s1 := shift_eqv f t
  have s2 := shift_eqv g u
  have eb : f.b + 2 * f.a * t = g.b + 2 * g.a * u := by rw [ex,ey]; grind
  have b1 := s1.bar
  have b2 := s2.bar
  rw [o1.bar] at b1
  rw [o2.bar] at b2
  dsimp only at b1 b2
  rw [← eb] at b2 s2
  generalize hb : f.b + 2 * f.a * t = b at *
  generalize f.c + t * (f.b + f.a * t) = c1 at *
  generalize g.c + u * (g.b + g.a * u) = c2 at *
  -- a c1 = d c2
  have q : f.a * c1 = g.a * c2 := by grind
  have hd : f.a * g.a ∣ f.a * c1 := cop_dvd h ⟨c1,rfl⟩ ⟨c2,q⟩
  obtain ⟨k,hk⟩ := hd
  have p1 := o1.pos
  have p2 := o2.pos
  have k1 : c1 = g.a * k := mul_cancel (show f.a ≠ 0 by omega) (by rw [hk]; grind)
  have k2 : c2 = f.a * k := mul_cancel (show g.a ≠ 0 by omega) (by rw [← q,hk]; grind)
  rw [k1] at s1
  rw [k2] at s2
  exact ⟨b,k,t,hb.symm,s1,s2⟩
theorem cp_ex {D : Int} {f g : Q} (hD : D < 0) (o1 : Ok D f) (o2 : Ok D g) (b1 : Bare f) (b2 : Bare g) : ∃ h : Q,Ok D h∧Bare h∧Cp f g h := by
  have p1 := o1.pos
  obtain ⟨g',e,hg⟩ := cop_rep (N := f.a) (by omega) b2
  have o2' := o2.eqv hD e
  obtain ⟨b,k,_,_,s1,s2⟩ := agree2 o1 o2' (by rw [Int.gcd_comm]; exact hg)
  have a1 := o1.eqv hD s1
  have a2 := o2'.eqv hD s2
  have c := cp_agree f.a b g'.a k
  have oh : Ok D ⟨f.a * g'.a,b,k⟩ := ⟨Int.mul_pos o1.pos o2'.pos,by have := a1.bar; dsimp only at *; rw [← this]; grind⟩
  have c1 := c.pull hD a1 a2 oh s1.symm
  have c2 := c1.pull2 hD o1 a2 oh (e.trans s2).symm
  refine ⟨_,oh,?_,c2⟩
  -- bare
  have bf := b1.eqv s1
  have bg := (b2.eqv e).eqv s2
  obtain ⟨l1,l2,l3,hl⟩ := bf
  obtain ⟨m1,m2,m3,hm⟩ := bg
  obtain ⟨x,y,e1⟩ := ME.bez (f.a * g'.a) b
  obtain ⟨z,w,e2⟩ := ME.bez (Int.gcd (f.a * g'.a) b) k
  have hn : Int.gcd (Int.gcd (f.a * g'.a) b) k = 1 := by
    have d1 : ((Int.gcd (Int.gcd (f.a * g'.a) b) k : Nat) : Int) ∣ ((Int.gcd (f.a * g'.a) b : Nat) : Int) := Int.gcd_dvd_left _ _
    have := comp_bare c hl hm (Int.dvd_trans d1 (Int.gcd_dvd_left _ _)) (Int.dvd_trans d1 (Int.gcd_dvd_right _ _)) (Int.gcd_dvd_right _ _)
    exact Nat.dvd_one.mp (Int.natCast_dvd_natCast.mp (show ((Int.gcd (Int.gcd (f.a * g'.a) b) k : Nat) : Int) ∣ ((1 : Nat) : Int) from this))
  refine ⟨z * x,z * y,w,?_⟩
  rw [hn] at e2
  show z * x * (f.a * g'.a) + z * y * b + w * k = 1
  have e2' : z * ((Int.gcd (f.a * g'.a) b : Nat) : Int) + w * k = 1 := e2
  rw [← e1] at e2'
  grind
theorem shift_to {D a b c b' c' t : Int} (ha : 0 < a) (h1 : b * b - 4 * a * c = D) (e : b' = b + 2 * a * t) (h2 : b' * b' - 4 * a * c' = D) : Eqv ⟨a,b,c⟩ ⟨a,b',c'⟩ := by
  have s := shift_eqv ⟨a,b,c⟩ t
  dsimp only at s
  have k : c' = c + t * (b + a * t) := by
    refine mul_cancel (show 4 * a ≠ 0 by omega) ?_
    subst e
    grind
  rw [← e,← k] at s
  exact s
theorem agree3 {D : Int} {f g h : Q} (hD : D < 0) (o1 : Ok D f) (o2 : Ok D g) (o3 : Ok D h) (b2 : Bare g) (b3 : Bare h) : ∃ a b d e k : Int,0 < a∧0 < d∧0 < e∧b * b - 4 * (a * d * e) * k = D∧Eqv f ⟨a,b,d * e * k⟩∧Eqv g ⟨d,b,a * e * k⟩∧Eqv h ⟨e,b,a * d * k⟩ := by
  have p1 := o1.pos
  obtain ⟨g',e1,hg⟩ := cop_rep (N := f.a) (by omega) b2
  have o2' := o2.eqv hD e1
  have p2 := o2'.pos
  have pp := Int.mul_pos p1 p2
  obtain ⟨h',e2,hh⟩ := cop_rep (N := f.a * g'.a) (by omega) b3
  have o3' := o3.eqv hD e2
  obtain ⟨b1,k1,_,_,s1,s2⟩ := agree2 o1 o2' (by rw [Int.gcd_comm]; exact hg)
  have a1 := o1.eqv hD s1
  have a2 := o2'.eqv hD s2
  have oF : Ok D ⟨f.a * g'.a,b1,k1⟩ := ⟨pp,by have := a1.bar; dsimp only at *; rw [← this]; grind⟩
  obtain ⟨b,k,t,eb,s3,s4⟩ := agree2 oF o3' (by rw [Int.gcd_comm]; exact hh)
  have a3 := oF.eqv hD s3
  dsimp only at eb a3 s3 s4
  have hb : b * b - 4 * (f.a * g'.a * h'.a) * k = D := by have := a3.bar; dsimp only at this; rw [← this]; grind
  refine ⟨f.a,b,g'.a,h'.a,k,p1,p2,o3'.pos,hb,s1.trans ?_,(e1.trans s2).trans ?_,e2.trans ?_⟩
  · have := a1.bar
    dsimp only at this
    exact shift_to (t := g'.a * t) p1 this (by rw [eb]; grind) (by rw [← hb]; grind)
  · have := a2.bar
    dsimp only at this
    exact shift_to (t := f.a * t) p2 this (by rw [eb]; grind) (by rw [← hb]; grind)
  · exact s4
theorem cp_assoc {D : Int} {f g h x y z w : Q} (hD : D < 0) (o1 : Ok D f) (o2 : Ok D g) (o3 : Ok D h) (b1 : Bare f) (b2 : Bare g) (b3 : Bare h) (ox : Ok D x) (oy : Ok D y) (oz : Ok D z) (ow : Ok D w) (bx : Bare x)
    (c1 : Cp f g x) (c2 : Cp x h y) (c3 : Cp g h z) (c4 : Cp f z w) : Eqv y w := by
  obtain ⟨a,b,d,e,k,pa,pd,pe,hb,ef,eg,eh⟩ := agree3 hD o1 o2 o3 b2 b3
  have of := o1.eqv hD ef
  have og := o2.eqv hD eg
  have oh := o3.eqv hD eh
  have pad := Int.mul_pos pa pd
  have pde := Int.mul_pos pd pe
  have ox' : Ok D ⟨a * d,b,e * k⟩ := ⟨pad,by dsimp only; rw [← hb]; grind⟩
  have oz' : Ok D ⟨d * e,b,a * k⟩ := ⟨pde,by dsimp only; rw [← hb]; grind⟩
  have oy' : Ok D ⟨a * d * e,b,k⟩ := ⟨Int.mul_pos pad pe,hb⟩
  have k1 : Cp ⟨a,b,d * e * k⟩ ⟨d,b,a * e * k⟩ ⟨a * d,b,e * k⟩ := by
    have := cp_agree a b d (e * k)
    rwa [← Int.mul_assoc,← Int.mul_assoc] at this
  have k2 : Cp ⟨a * d,b,e * k⟩ ⟨e,b,a * d * k⟩ ⟨a * d * e,b,k⟩ := cp_agree (a * d) b e k
  have k3 : Cp ⟨d,b,a * e * k⟩ ⟨e,b,a * d * k⟩ ⟨d * e,b,a * k⟩ := by
    have := cp_agree d b e (a * k)
    have q1 : e * (a * k) = a * e * k := by grind
    have q2 : d * (a * k) = a * d * k := by grind
    rwa [q1,q2] at this
  have k4 : Cp ⟨a,b,d * e * k⟩ ⟨d * e,b,a * k⟩ ⟨a * d * e,b,k⟩ := by
    have := cp_agree a b (d * e) k
    rwa [← Int.mul_assoc] at this
  -- x is alike (ad,b,ek)
  have hx : Eqv x ⟨a * d,b,e * k⟩ := (((c1.pull hD o1 o2 ox ef).pull2 hD of o2 ox eg).one hD k1 of og ox ox' (b1.eqv ef))
  have hz : Eqv z ⟨d * e,b,a * k⟩ := (((c3.pull hD o2 o3 oz eg).pull2 hD og o3 oz eh).one hD k3 og oh oz oz' (b2.eqv eg))
  have hy : Eqv y ⟨a * d * e,b,k⟩ := (((c2.pull hD ox o3 oy hx).pull2 hD ox' o3 oy eh).one hD k2 ox' oh oy oy' (bx.eqv hx))
  have hw : Eqv w ⟨a * d * e,b,k⟩ := (((c4.pull hD o1 oz ow ef).pull2 hD of oz ow hz).one hD k4 of oz' ow oy' (b1.eqv ef))
  exact hy.trans hw.symm
end MG
namespace MG
open MJ
class AbG (G : Type) where
  mul : G → G → G
  one : G
  inv : G → G
  comm : ∀ x y,mul x y = mul y x
  assoc : ∀ x y z,mul (mul x y) z = mul x (mul y z)
  mul_one : ∀ x,mul x one = x
  mul_inv : ∀ x,mul x (inv x) = one
section
variable {G : Type} [AbG G]
open AbG
theorem one_mul (x : G) : mul one x = x := by rw [comm]; exact mul_one x
theorem mul_cancelR {x y z : G} (h : mul x z = mul y z) : x = y := by
  have : mul (mul x z) (inv z) = mul (mul y z) (inv z) := by rw [h]
  rwa [assoc,assoc,mul_inv,mul_one,mul_one] at this
def pw (x : G) : Nat→G
  | 0 => one
  | n + 1 => mul (pw x n) x
theorem pw_add (x : G) (m n : Nat) : pw x (m + n) = mul (pw x m) (pw x n) := by
  induction n with
  | zero => exact (mul_one _).symm
  | succ n ih => show mul (pw x (m + n)) x = mul (pw x m) (mul (pw x n) x); rw [ih,assoc]
theorem pw_one (x : G) : pw x 1 = x := one_mul x
end
structure Cls (D : Int) (f : Q) : Prop where
  ok : Ok D f
  bare : Bare f
  least : MT.Least f.a f.b f.c
theorem Cls.one {D : Int} {f g : Q} (h1 : Cls D f) (h2 : Cls D g) (e : Eqv f g) : f = g := by
  obtain ⟨p,q,r,s,l⟩ := e
  obtain ⟨e1,e2,e3⟩ := MT.least_unique h1.ok.pos h2.ok.pos h1.least h2.least l.det l.e1 l.e2 l.e3
  cases f; cases g
  simp_all
theorem zpos_of {x y z : Int} (hx : 0 < x) (hd : y * y - 4 * x * z < 0) : 0 < z := by
  refine Int.not_le.mp λ h => ?_
  have h1 := Int.mul_nonpos_of_nonneg_of_nonpos (show 0 ≤ 4 * x by omega) h
  have h2 := MT.sq_nonneg y
  omega
theorem least_ex' {D : Int} (hD : D < 0) : ∀ (n : Nat) (f : Q),f.a.toNat≤n→Ok D f→∃ g : Q,Eqv f g∧MT.Least g.a g.b g.c := by
  intro n
  induction n with
  | zero => intro f h o; have := o.pos; omega
  | succ n ih =>
    intro f hn o
    have L1 := shift_eqv f ((f.a - f.b) / (2 * f.a))
    have ha := o.pos
    have h1 : (f.a - f.b) = 2 * f.a * ((f.a - f.b) / (2 * f.a)) + (f.a - f.b) % (2 * f.a) := (Int.mul_ediv_add_emod (f.a - f.b) (2 * f.a)).symm
    have h2 := Int.emod_nonneg (f.a - f.b) (show 2 * f.a ≠ 0 by omega)
    have h3 := Int.emod_lt_of_pos (f.a - f.b) (show 0 < 2 * f.a by omega)
    generalize (f.a - f.b) / (2 * f.a) = k at *
    have lo : -f.a < f.b + 2 * f.a * k := by omega
    have hi : f.b + 2 * f.a * k ≤ f.a := by omega
    have o1 := o.eqv hD L1
    generalize f.b + 2 * f.a * k = y at *
    generalize f.c + k * (f.b + f.a * k) = z at *
    have z0 := zpos_of (x := f.a) (y := y) (z := z) ha (by have := o1.bar; dsimp only at this; omega)
    by_cases h : f.a < z ∨ (f.a = z ∧ 0 ≤ y)
    · exact ⟨⟨f.a,y,z⟩,L1,⟨lo,hi,by dsimp only; omega,λ e => by dsimp only at *; omega⟩⟩
    · have sw : Eqv ⟨f.a,y,z⟩ ⟨z,-y,f.a⟩ := by
        refine ⟨0,-1,1,0,by omega,?_,?_,?_⟩ <;> (try unfold W) <;> dsimp only <;> grind
      have L2 := L1.trans sw
      by_cases e : f.a = z
      · exact ⟨⟨z,-y,f.a⟩,L2,⟨by dsimp only; omega,by dsimp only; omega,by dsimp only; omega,λ _ => by dsimp only; omega⟩⟩
      · obtain ⟨g,l,L⟩ := ih ⟨z,-y,f.a⟩ (by dsimp only; omega) (o.eqv hD L2)
        exact ⟨g,L2.trans l,L⟩
theorem least_exQ {D : Int} (hD : D < 0) {f : Q} (o : Ok D f) : ∃ g : Q,Eqv f g∧MT.Least g.a g.b g.c := least_ex' hD f.a.toNat f (Nat.le_refl _) o
theorem cls_ex {D : Int} (hD : D < 0) {f : Q} (o : Ok D f) (b : Bare f) : ∃ g : Q,Eqv f g∧Cls D g := by
  obtain ⟨g,e,L⟩ := least_exQ hD o
  exact ⟨g,e,o.eqv hD e,b.eqv e,L⟩
def C (D : Int) : Type := { f : Q // Cls D f }
theorem mul_ex {D : Int} (hD : D < 0) (x y : C D) : ∃ z : C D,Cp x.1 y.1 z.1 := by
  obtain ⟨h,o,b,c⟩ := cp_ex hD x.2.ok y.2.ok x.2.bare y.2.bare
  obtain ⟨g,e,k⟩ := cls_ex hD o b
  exact ⟨⟨g,k⟩,c.target e⟩
theorem mul_one' {D : Int} (hD : D < 0) {x y z w : C D} (h1 : Cp x.1 y.1 z.1) (h2 : Cp x.1 y.1 w.1) : z = w := Subtype.ext (z.2.one w.2 (h1.one hD h2 x.2.ok y.2.ok z.2.ok w.2.ok x.2.bare))
def nt (D : Int) : Q := ⟨1,D % 2,(D % 2 - D) / 4⟩
theorem nt_cls {D : Int} (hD : D < 0) (h4 : D % 4 = 0∨D % 4 = 1) : Cls D (nt D) := by
  have e : (D % 2) * (D % 2) - 4 * 1 * ((D % 2 - D) / 4) = D := by rcases Int.emod_two_eq D with h | h <;> rw [h] <;> omega
  refine ⟨⟨by unfold nt; dsimp only; omega,by unfold nt; exact e⟩,⟨1,0,0,by unfold nt; dsimp only; omega⟩,?_⟩
  unfold nt
  rcases Int.emod_two_eq D with h | h
  · rw [h]; exact ⟨by dsimp only; omega,by dsimp only; omega,by dsimp only; omega,λ _ => by dsimp only; omega⟩
  · rw [h]; exact ⟨by dsimp only; omega,by dsimp only; omega,by dsimp only; omega,λ _ => by dsimp only; omega⟩
theorem nt_eqv {D : Int} {f : Q} (hD : D < 0) (h4 : D % 4 = 0∨D % 4 = 1) (o : Ok D f) : Eqv (nt D) ⟨1,f.b,f.a * f.c⟩ := by
  obtain ⟨t,e⟩ := bar_parity o
  have k := (nt_cls hD h4).ok.bar
  unfold nt at *
  dsimp only at k ⊢
  exact shift_to (t := t) (by decide) k (by rw [e]; omega) (by have := o.bar; rw [← this]; grind)
theorem cp_nt {D : Int} {f : Q} (hD : D < 0) (h4 : D % 4 = 0∨D % 4 = 1) (o : Ok D f) : Cp f (nt D) f := by
  have c := cp_agree f.a f.b 1 f.c
  rw [Int.one_mul,Int.mul_one] at c
  have e := nt_eqv hD h4 o
  exact c.pull2 hD o ((nt_cls hD h4).ok.eqv hD e) o e.symm
def op (f : Q) : Q := ⟨f.a,-f.b,f.c⟩
theorem op_ok {D : Int} {f : Q} (o : Ok D f) : Ok D (op f) := ⟨o.pos,by have := o.bar; unfold op; dsimp only; rw [← this]; grind⟩
theorem op_bare {f : Q} (b : Bare f) : Bare (op f) := by
  obtain ⟨l1,l2,l3,h⟩ := b
  exact ⟨l1,-l2,l3,by unfold op; dsimp only; rw [← h]; grind⟩
theorem cp_op {D : Int} {f : Q} (hD : D < 0) (h4 : D % 4 = 0∨D % 4 = 1) (o : Ok D f) : Cp f (op f) (nt D) := by
  have c0 : 0 < f.c := zpos_of o.pos (by rw [o.bar]; exact hD)
  have c := cp_agree f.a f.b f.c 1
  rw [Int.mul_one,Int.mul_one] at c
  have sw : ∀ x y z : Int,Eqv ⟨x,y,z⟩ ⟨z,-y,x⟩ := λ x y z => by
    refine ⟨0,-1,1,0,by omega,?_,?_,?_⟩ <;> (try unfold W) <;> dsimp only <;> grind
  have o2 : Ok D ⟨f.c,f.b,f.a⟩ := ⟨c0,by have := o.bar; dsimp only; rw [← this]; grind⟩
  have o3 : Ok D ⟨f.a * f.c,f.b,1⟩ := ⟨Int.mul_pos o.pos c0,by have := o.bar; dsimp only; rw [← this]; grind⟩
  have c1 : Cp f (op f) ⟨f.a * f.c,f.b,1⟩ := c.pull2 hD o o2 o3 (sw f.c f.b f.a)
  refine c1.target ((sw _ _ _).trans ?_)
  have := nt_eqv hD h4 (op_ok o)
  exact this.symm
structure BarD (D : Int) : Prop where
  neg : D < 0
  four : D % 4 = 0 ∨ D % 4 = 1
noncomputable def grp {D : Int} (h : BarD D) : AbG (C D) where
  mul x y := Classical.choose (mul_ex h.neg x y)
  one := ⟨nt D,nt_cls h.neg h.four⟩
  inv x := ⟨Classical.choose (cls_ex h.neg (op_ok x.2.ok) (op_bare x.2.bare)),(Classical.choose_spec (cls_ex h.neg (op_ok x.2.ok) (op_bare x.2.bare))).2⟩
  comm x y := mul_one' h.neg (Classical.choose_spec (mul_ex h.neg x y)) (Classical.choose_spec (mul_ex h.neg y x)).swap
  assoc x y z := by
    have c1 := Classical.choose_spec (mul_ex h.neg x y)
    generalize Classical.choose (mul_ex h.neg x y) = xy at *
    have c2 := Classical.choose_spec (mul_ex h.neg xy z)
    generalize Classical.choose (mul_ex h.neg xy z) = xyz at *
    have c3 := Classical.choose_spec (mul_ex h.neg y z)
    generalize Classical.choose (mul_ex h.neg y z) = yz at *
    have c4 := Classical.choose_spec (mul_ex h.neg x yz)
    generalize Classical.choose (mul_ex h.neg x yz) = w at *
    exact Subtype.ext (xyz.2.one w.2 (cp_assoc h.neg x.2.ok y.2.ok z.2.ok x.2.bare y.2.bare z.2.bare xy.2.ok xyz.2.ok yz.2.ok w.2.ok xy.2.bare c1 c2 c3 c4))
  mul_one x := by
    have c1 := Classical.choose_spec (mul_ex h.neg x ⟨nt D,nt_cls h.neg h.four⟩)
    exact mul_one' h.neg c1 (cp_nt h.neg h.four x.2.ok)
  mul_inv x := by
    have c1 := Classical.choose_spec (mul_ex h.neg x ⟨Classical.choose (cls_ex h.neg (op_ok x.2.ok) (op_bare x.2.bare)),(Classical.choose_spec (cls_ex h.neg (op_ok x.2.ok) (op_bare x.2.bare))).2⟩)
    have e := (Classical.choose_spec (cls_ex h.neg (op_ok x.2.ok) (op_bare x.2.bare))).1
    refine mul_one' h.neg c1 ?_
    exact (cp_op h.neg h.four x.2.ok).pull2 h.neg x.2.ok (op_ok x.2.ok) (nt_cls h.neg h.four).ok e
theorem grp_mul {D : Int} (h : BarD D) (x y : C D) : Cp x.1 y.1 ((grp h).mul x y).1 := Classical.choose_spec (mul_ex h.neg x y)
theorem grp_of {D : Int} (h : BarD D) {x y z : C D} (c : Cp x.1 y.1 z.1) : (grp h).mul x y = z := mul_one' h.neg (grp_mul h x y) c
end MG
namespace CM
open PySem PySem.Spec L2 FL FT MG
abbrev qD (q : Q) : D := formD q.a q.b q.c
abbrev QJ (q : Q) : Prop := FormJ q.a q.b q.c
theorem fzQ (q : Q) : Fz (qD q) := fz3 _ _ _
theorem bare_gcd {q : Q} (h : Bare q) : Int.gcd (Int.gcd q.a q.b) q.c = 1 := by
  obtain ⟨l1,l2,l3,hl⟩ := h
  have d1 : ((Int.gcd (Int.gcd q.a q.b) q.c : Nat) : Int) ∣ ((Int.gcd q.a q.b : Nat) : Int) := Int.gcd_dvd_left _ _
  have da := Int.dvd_trans d1 (Int.gcd_dvd_left q.a q.b)
  have db := Int.dvd_trans d1 (Int.gcd_dvd_right q.a q.b)
  have dc : ((Int.gcd (Int.gcd q.a q.b) q.c : Nat) : Int) ∣ q.c := Int.gcd_dvd_right _ _
  have : ((Int.gcd (Int.gcd q.a q.b) q.c : Nat) : Int) ∣ ((1 : Nat) : Int) := by
    show _ ∣ (1 : Int)
    rw [← hl]
    exact Int.dvd_add (Int.dvd_add (Int.dvd_mul_of_dvd_right da) (Int.dvd_mul_of_dvd_right db)) (Int.dvd_mul_of_dvd_right dc)
  exact Nat.dvd_one.mp (Int.natCast_dvd_natCast.mp this)
theorem gcd_bare {q : Q} (h : Int.gcd (Int.gcd q.a q.b) q.c = 1) : Bare q := bez_of h
structure BarS (i : Int) : Prop where
  d : BarD i
  s : Bd i 1200
theorem cls_J {i : Int} (h : BarS i) (x : C i) : QJ x.1 := by
  have e := x.2.ok.bar
  refine least_J (least_bd x.2.ok.pos x.2.least ?_ ?_) x.2.least (bare_gcd x.2.bare)
  · rw [e]; exact h.d.neg
  · rw [e]; exact h.s
theorem eqv_leads {f g : Q} (h : Eqv f g) : ∃ p q r s : Int,Leads f.a f.b f.c p q r s g.a g.b g.c := by
  obtain ⟨p,q,r,s,l⟩ := h
  exact ⟨p,q,r,s,.of l⟩
section
variable {X : Cx} {e1 e2 : Expr} {ρ : Ro} {p0 p1 p2 p3 : Pos} {m : Nat} {i : Int}
theorem ev_joinedC {f g : Q} {x y : C i} (hi : BarS i) (Gj : FnR X.prog X.w X.K X.mg X.base 8 "joined" pre_joined post_joined) (hr : Room 8 X.A) (h1 : Ev X e1 ρ (qD f)) (h2 : Ev X e2 ρ (qD g)) (J1 : QJ f) (J2 : QJ g) (c1 : Eqv f x.1) (c2 : Eqv g y.1)
    (hg : Gl X "joined" := by rfl) (he : starEach [e1,e2] X.env = (false,eval e1 X.env) :: starEach [e2] X.env := by rfl) (he2 : starEach [e2] X.env = (false,eval e2 X.env) :: starEach [] X.env := by rfl) (hpl : (backTo p1 (starEach [e2] X.env)).any (·.1) = false := by rfl) :
    Ev X (.Subscript (.Call (.Name "joined" p0) [e1,e2] [] p1) (.Constant (.int 0) m p2) p3) ρ (qD ((grp hi.d).mul x y).1) := by
  have b1 : f.b * f.b - 4 * f.a * f.c = i := by have := c1.symm.bar; rw [this]; exact x.2.ok.bar
  have b2 : g.b * g.b - 4 * g.a * g.c = i := by have := c2.symm.bar; rw [this]; exact y.2.ok.bar
  refine EvR.ev (evr_ix (evr_call Gj hr (ea_cons h1 (ea_cons h2 ea_nil he2) he) ⟨f.a,f.b,f.c,g.a,g.b,g.c,rfl,J1,J2,by rw [b1,b2]⟩ hg (by decide) he hpl) ev_int (λ c hc => ?_))
  obtain ⟨A2,B2,C2,Z0,Z1,Z2,Z3,W0,W1,W2,W3,rfl,K2⟩ := hc _ _ _ _ _ _ rfl
  have kJ := K2.J J1 J2
  have okF : Cls i ⟨A2,B2,C2⟩ := ⟨⟨K2.s.pos,by rw [← b1]; exact K2.bar⟩,bez_of (K2.bare J1 J2),K2.least⟩
  have cp : Cp f g ⟨A2,B2,C2⟩ := ⟨_,_,_,_,_,_,_,_,K2.comp⟩
  have cp2 := (cp.pull hi.d.neg ⟨J1.pos,b1⟩ ⟨J2.pos,b2⟩ okF.ok c1).pull2 hi.d.neg x.2.ok ⟨J2.pos,b2⟩ okF.ok c2
  have e := grp_of hi.d (x := x) (y := y) (z := ⟨_,okF⟩) cp2
  exact ⟨_,_,rfl,rfl,by rw [e]⟩
theorem ev_leastC {f : Q} {x : C i} (Gl : FnR X.prog X.w X.K X.mg X.base 5 "least_of" pre_form post_least_of) (hr : Room 5 X.A) (h1 : Ev X e1 ρ (qD f)) (S : FormS f.a f.b f.c) (c1 : Eqv f x.1)
    (hg : L2.Gl X "least_of" := by rfl) (he : starEach [e1] X.env = (false,eval e1 X.env) :: starEach [] X.env := by rfl) (hpl : (backTo p1 (starEach [] X.env)).any (·.1) = false := by rfl) :
    Ev X (.Subscript (.Call (.Name "least_of" p0) [e1] [] p1) (.Constant (.int 0) m p2) p3) ρ (qD x.1) := by
  obtain ⟨p,q,r,s,l⟩ := eqv_leads c1
  exact ev_least0 Gl hr h1 S l x.2.least x.2.ok.pos hg he hpl
end
def p_require_whole (ds : List D) (d : D) : Prop := ∃ n : Int,ds = [.int n]∧d = .non
end CM
namespace CM
open PySem PySem.Spec L2 FL FT MG
end CM
namespace FL
open PySem PySem.Spec PyProof.Rows L2
section
variable {X : Cx} {e a b c tg : Expr} {es : List Expr} {ρ : Ro} {d : D} {ds : List D} {pos : Pos} {i j k : Int} {rest A B : List Stmt} {P : Po}
theorem do_aug (n : Nat) {x : Str} {pos' : Pos} (hρ : ρ[n]? = some (some (.int i))) (he : Ev X e ρ (.int j)) (h : Do X rest (ρ.set n (some (.int (i + j)))) P) (hN : X.N.Nodup) (hi : X.N[n]? = some x := by rfl) (hx : Loc X.env.scope x := by first | exact Or.inl rfl | exact Or.inr rfl)
    (hf : X.fn x = true ∨ X.env.scope.names.lookup x = some .local := by first | exact .inl rfl | exact .inr rfl) : Do X (.AugAssign (.Name x pos') .Add e pos :: rest) ρ P := by
  refine do_seq (M := λ ρ' => ρ' = ρ.set n (some (.int (i + j)))) (PS.imp (ps_aug hN hi hx he ip_add hf) ?_) (λ _ z => z ▸ h)
  rintro D σ H ⟨r,q1,q2,q3,q4⟩
  obtain ⟨v,e1,h1,_⟩ := r.val n _ hρ
  cases h1.int_inv
  refine ⟨.int i,e1,r.e,λ v H' s h' => ?_⟩
  cases h'.int_inv
  exact ⟨i,j,rfl,rfl,q1 _ H' _ (Go.set s λ a z => by cases z) ((r.mono s).set (.int _) n (.inl (.int _)) λ a z => by cases z) rfl⟩
end
section
variable {X : Cx} {e a b c tg : Expr} {es : List Expr} {ρ : Ro} {d : D} {ds : List D} {pos : Pos} {i j k : Int} {rest A B : List Stmt} {P : Po}
end
end FL
namespace MP
def Sm (p a b : Int) : Prop := p ∣ a - b
theorem Sm.refl (p a : Int) : Sm p a a := by unfold Sm; rw [Int.sub_self]; exact Int.dvd_zero _
theorem Sm.symm {p a b : Int} (h : Sm p a b) : Sm p b a := by
  unfold Sm at *
  have := Int.dvd_neg.mpr h
  rwa [Int.neg_sub] at this
theorem Sm.trans {p a b c : Int} (h : Sm p a b) (g : Sm p b c) : Sm p a c := by
  unfold Sm at *
  have := Int.dvd_add h g
  have e : a - b + (b - c) = a - c := by omega
  rwa [e] at this
theorem Sm.mul {p a b c d : Int} (h : Sm p a b) (g : Sm p c d) : Sm p (a * c) (b * d) := by
  unfold Sm at *
  have := Int.dvd_add (Int.dvd_mul_of_dvd_left (c := c) h) (Int.dvd_mul_of_dvd_right (b := b) g)
  have e : (a - b) * c + b * (c - d) = a * c - b * d := by grind
  rwa [e] at this
theorem Sm.pow {p a b : Int} (h : Sm p a b) (n : Nat) : Sm p (a ^ n) (b ^ n) := by
  induction n with
  | zero => rw [Int.pow_zero,Int.pow_zero]; exact .refl _ _
  | succ n ih => rw [Int.pow_succ,Int.pow_succ]; exact ih.mul h
theorem Sm.mod (p a : Int) : Sm p (a % p) a := by
  refine Sm.symm ⟨a / p,?_⟩
  have := Int.mul_ediv_add_emod a p
  omega
theorem Sm.emod {p a b : Int} (h : Sm p a b) : a % p = b % p := Int.emod_eq_emod_iff_emod_sub_eq_zero.mpr (Int.emod_eq_zero_of_dvd h)
end MP
namespace CM
open PySem PySem.Spec L2 FL FT MP
def p_require_bar_from (ds : List D) (d : D) : Prop := ∃ i l : Int,ds = [.int i,.int l]∧i < 0∧(i % 4 = 0∨i % 4 = 1)∧l≤i∧d = .non
theorem pow_half (p f s : Int) (n : Nat) : Sm p (f * s ^ n) ((if n % 2 = 1 then f * s % p else f) * (s * s % p) ^ (n / 2)) := by
  have e : s ^ n = (if n % 2 = 1 then s else 1) * (s * s) ^ (n / 2) := by
    have e2 : (s * s) ^ (n / 2) = s ^ (2 * (n / 2)) := by
      rw [Int.pow_mul]
      congr 1
      rw [Int.pow_succ,Int.pow_succ,Int.pow_zero,Int.one_mul]
    rw [e2]
    rcases Nat.mod_two_eq_zero_or_one n with h | h
    · rw [if_neg (by omega),Int.one_mul]
      congr 1
      omega
    · rw [if_pos h]
      have : n = 2 * (n / 2) + 1 := by omega
      generalize n / 2 = k at *
      rw [this,Int.pow_succ,Int.mul_comm]
  rw [e]
  have k1 : Sm p ((s * s) ^ (n / 2)) ((s * s % p) ^ (n / 2)) := (Sm.mod p (s * s)).symm.pow _
  rcases Nat.mod_two_eq_zero_or_one n with h | h
  · rw [if_neg (by omega),if_neg (by omega),Int.one_mul]
    exact (Sm.refl p f).mul k1
  · rw [if_pos h,if_pos h,← Int.mul_assoc]
    exact (Sm.mod p (f * s)).symm.mul k1
end CM
namespace CM
open PySem PySem.Spec L2 FL FT MP
end CM
namespace CM
open PySem PySem.Spec L2 FL FT MG
def lfC (i a b : Int) : Bool := decide ((b * b - i) % (4 * a) = 0) && MT.leastB a b ((b * b - i) / (4 * a))
def lfQ (i a b : Int) : Q := ⟨a,b,(b * b - i) / (4 * a)⟩
def lfN (i a : Int) (n : Nat) : List Q := (((List.range n).map λ (t : Nat) => -a + (t : Int)).filter (lfC i a)).map (lfQ i a)
def lfA (i a : Int) : List Q := lfN i a (2 * a + 1).toNat
def lfs (i : Int) (n : Nat) : List Q := (List.range n).flatMap λ (t : Nat) => lfA i ((t : Int) + 1)
def LF (i : Int) : List Q := lfs i 40
theorem lfN_succ (i a : Int) (n : Nat) : lfN i a (n + 1) = lfN i a n ++ (if lfC i a (-a + (n : Int)) = true then [lfQ i a (-a + (n : Int))] else []) := by
  unfold lfN
  rw [List.range_succ,List.map_append,List.filter_append,List.map_append]
  congr 1
  rw [List.map_cons,List.map_nil]
  by_cases h : lfC i a (-a + (n : Int)) = true
  · rw [List.filter_cons_of_pos h,if_pos h]; rfl
  · rw [List.filter_cons_of_neg h,if_neg h]; rfl
theorem lfs_succ (i : Int) (n : Nat) : lfs i (n + 1) = lfs i n ++ lfA i ((n : Int) + 1) := by
  unfold lfs
  rw [List.range_succ,List.flatMap_append]
  simp
theorem least_three {a b c : Int} (ha : 0 < a) (L : MT.Least a b c) : 3 * (a * a)≤4 * a * c - b * b := by
  have h1 := MT.mul_nn (show 0 ≤ a - b by have := L.hi; omega) (show 0 ≤ a + b by have := L.lo; omega)
  have h2 := MT.mul_nn (Int.le_of_lt ha) (show 0 ≤ c - a by have := L.ac; omega)
  grind
theorem mem_lfN {i a : Int} {n : Nat} {q : Q} (ha : 0 < a) (hn : n≤(2 * a + 1).toNat) : q∈lfN i a n↔q.a = a∧q.b < -a + (n : Int)∧q.b * q.b - 4 * q.a * q.c = i∧MT.Least q.a q.b q.c := by
  unfold lfN
  constructor
  · intro h
    obtain ⟨b,hb,rfl⟩ := List.mem_map.mp h
    obtain ⟨hb,hc⟩ := List.mem_filter.mp hb
    obtain ⟨t,ht,rfl⟩ := List.mem_map.mp hb
    have ht' := List.mem_range.mp ht
    unfold lfC at hc
    simp only [Bool.and_eq_true,decide_eq_true_eq] at hc
    refine ⟨rfl,by show -a + (t : Int) < _; omega,?_,MT.leastB_iff.mp hc.2⟩
    have := Int.mul_ediv_cancel' (Int.dvd_of_emod_eq_zero hc.1)
    unfold lfQ
    dsimp only
    omega
  · rintro ⟨rfl,h2,h3,L⟩
    obtain ⟨a,b,c⟩ := q
    dsimp only at *
    have lo := L.lo
    have e : 4 * a * c = b * b - i := by omega
    have ec : (b * b - i) / (4 * a) = c := MJ.div_of (by omega) e.symm
    refine List.mem_map.mpr ⟨b,List.mem_filter.mpr ⟨List.mem_map.mpr ⟨(b + a).toNat,List.mem_range.mpr (by omega),by omega⟩,?_⟩,by unfold lfQ; rw [ec]⟩
    unfold lfC
    rw [ec]
    simp only [Bool.and_eq_true,decide_eq_true_eq]
    exact ⟨by rw [← e]; exact Int.mul_emod_right _ _,MT.leastB_iff.mpr L⟩
theorem mem_lfA {i a : Int} {q : Q} (ha : 0 < a) : q∈lfA i a↔q.a = a∧q.b * q.b - 4 * q.a * q.c = i∧MT.Least q.a q.b q.c := by
  unfold lfA
  rw [mem_lfN ha (Nat.le_refl _)]
  constructor
  · rintro ⟨h1,_,h3,h4⟩
    exact ⟨h1,h3,h4⟩
  · rintro ⟨h1,h3,h4⟩
    have := h4.hi
    exact ⟨h1,by omega,h3,h4⟩
theorem lfA_nil {i a : Int} (ha : 0 < a) (h : -i < 3 * (a * a)) : lfA i a = [] := by
  refine List.eq_nil_iff_forall_not_mem.mpr λ q hq => ?_
  obtain ⟨e1,e2,L⟩ := (mem_lfA ha).mp hq
  have := least_three (by rw [e1]; exact ha) L
  rw [e1] at this e2
  omega
theorem sq_mono {a b : Int} (ha : 0≤a) (h : a≤b) : a * a≤b * b := Int.mul_le_mul h h ha (by omega)
theorem lfs_end {i : Int} {n : Nat} (hn : n≤40) (h : -i < 3 * (((n : Int) + 1) * ((n : Int) + 1))) : lfs i n = LF i := by
  have key : ∀ k,n + k ≤ 40 → lfs i (n + k) = lfs i n := λ k => by
    induction k with
    | zero => intro _; rfl
    | succ k ih =>
      intro hk
      rw [← Nat.add_assoc,lfs_succ,ih (by omega),lfA_nil (by omega),List.append_nil]
      have := sq_mono (a := (n : Int) + 1) (b := (((n + k : Nat) : Int)) + 1) (by omega) (by omega)
      omega
  have := key (40 - n) (by omega)
  rw [show n + (40 - n) = 40 by omega] at this
  exact this.symm
theorem mem_LF {i : Int} {q : Q} (hi : -4000≤i) : q∈LF i↔Ok i q∧MT.Least q.a q.b q.c := by
  unfold LF lfs
  constructor
  · intro h
    obtain ⟨t,_,h⟩ := List.mem_flatMap.mp h
    obtain ⟨e1,e2,L⟩ := (mem_lfA (by omega)).mp h
    exact ⟨⟨by rw [e1]; omega,e2⟩,L⟩
  · rintro ⟨o,L⟩
    have h3 := least_three o.pos L
    have hb := o.bar
    have ha := o.pos
    have : q.a ≤ 40 := by
      refine Int.not_lt.mp λ z => ?_
      have := sq_mono (a := 41) (b := q.a) (by decide) (by omega)
      omega
    exact List.mem_flatMap.mpr ⟨(q.a - 1).toNat,List.mem_range.mpr (by omega),(mem_lfA (by omega)).mpr ⟨by omega,o.bar,L⟩⟩
structure BarL (i : Int) : Prop where
  d : BarD i
  low : -4000 ≤ i
theorem BarL.s {i : Int} (h : BarL i) : BarS i := by
  refine ⟨h.d,.of_lt ?_⟩
  have h1 := h.low
  have h2 := h.d.neg
  have h3 : (4001 : Nat) < 2 ^ 1200 := by decide +kernel
  generalize (2 : Nat) ^ 1200 = N at *
  omega
theorem lf_len {i a : Int} (n : Nat) : (lfN i a n).length≤n := by
  unfold lfN
  rw [List.length_map]
  refine Nat.le_trans (List.length_filter_le _ _) ?_
  simp
theorem lfs_len {i : Int} : ∀ n : Nat,n≤40→(lfs i n).length≤100 * n
  | 0,_ => by simp [lfs]
  | n + 1,h => by
    rw [lfs_succ,List.length_append]
    have := lfs_len (i := i) n (by omega)
    have h2 : (lfA i ((n : Int) + 1)).length ≤ (2 * ((n : Int) + 1) + 1).toNat := lf_len _
    omega
def p_lff (ds es : List D) : Prop := ∃ i a : Int,ds = [.int i,.int a]∧BarL i∧0 < a∧a≤40∧es = (lfA i a).map qD
def p_least_forms (ds es : List D) : Prop := ∃ i : Int,ds = [.int i]∧BarL i∧es = (LF i).map qD
def bareB (q : Q) : Bool := decide (((Int.gcd (Int.gcd q.a q.b) q.c : Nat) : Int) = 1)
def clsL (i : Int) : List Q := (LF i).filter bareB
def p_classes (ds es : List D) : Prop := ∃ i : Int,ds = [.int i]∧BarL i∧es = (clsL i).map qD
theorem fzQs (l : List Q) : ∀ d∈l.map qD,Fz d := λ d hd => by
  obtain ⟨q,_,rfl⟩ := List.mem_map.mp hd
  exact fzQ q
theorem lf_small {i : Int} (h : BarL i) {q : Q} (hq : q∈LF i) : FormS q.a q.b q.c := by
  obtain ⟨o,L⟩ := (mem_LF h.low).mp hq
  refine least_bd o.pos L (by rw [o.bar]; exact h.d.neg) (by rw [o.bar]; exact h.s.s)
def qOf : D→Q
  | .tup [.int a,.int b,.int c] => ⟨a,b,c⟩
  | _ => ⟨0,0,0⟩
theorem bare_iff {q : Q} : Bare q↔((Int.gcd (Int.gcd q.a q.b) q.c : Nat) : Int) = 1 := by
  constructor
  · intro h
    rw [bare_gcd h]
    rfl
  · intro h
    exact gcd_bare (by omega)
theorem bareB_iff {q : Q} : bareB q = true↔Bare q := by
  unfold bareB
  rw [decide_eq_true_eq]
  exact bare_iff.symm
theorem mem_cls {i : Int} (h : BarL i) {q : Q} : q∈clsL i↔Cls i q := by
  unfold clsL
  rw [List.mem_filter,mem_LF h.low,bareB_iff]
  constructor
  · rintro ⟨⟨o,L⟩,b⟩
    exact ⟨o,b,L⟩
  · intro c
    exact ⟨⟨c.ok,c.least⟩,c.bare⟩
end CM
namespace FQ
open PySem PyProof.Rows
section
variable {M : Model} {A : Around} {E : Value→Shared→Prop} {s : Shared} {κ : SortKind} {kf : Keyed→Int} {S : Keyed→Prop}
end
end FQ
namespace FQ
open PySem PyProof.Rows
section
variable {kf : Keyed→Int} {T O X X1 X2 Y Y1 Y2 : List Keyed}
end
end FQ
namespace FQ
open PySem PyProof.Rows
section
variable {M : Model} {A : Around} {E : Value→Shared→Prop} {s : Shared} {κ : SortKind} {kf : Keyed→Int} {S : Keyed→Prop}
end
end FQ
namespace FQ
open PySem PyProof.Rows
section
variable {kf : Keyed→Int} {T O X Y : List Keyed}
end
section
variable {M : Model} {A : Around} {E : Value→Shared→Prop} {s : Shared} {κ : SortKind} {kf : Keyed→Int} {S : Keyed→Prop}
end
end FQ
namespace FQ
open PySem PyProof.Rows
section
variable {kf : Keyed→Int}
end
end FQ
namespace FQ
open PySem PyProof.Rows
section
variable {M : Model} {A : Around} {E : Value→Shared→Prop} {s : Shared} {κ : SortKind} {kf : Keyed→Int} {S : Keyed→Prop}
end
end FQ
namespace FQ
open PySem PyProof.Rows
section
variable {kf : Keyed→Int} {arr : Array Keyed}
end
section
variable {prog : Program} {w : World} {A : Around} {E : Value→Shared→Prop} {s : Shared} {κ : SortKind} {kf : Keyed→Int} {S : Keyed→Prop}
end
end FQ
namespace FQ
open PySem PyProof.Rows
section
variable {prog : Program} {w : World} {A : Around} {E : Value→Shared→Prop} {s : Shared} {κ : SortKind} {kf : Keyed→Int} {S : Keyed→Prop}
end
section
variable {kf : Keyed→Int}
end
section
variable {prog : Program} {w : World} {A : Around} {E : Value→Shared→Prop} {s : Shared} {κ : SortKind} {kf : Keyed→Int} {S : Keyed→Prop}
end
end FQ
namespace FQ
open PySem PyProof.Rows
section
variable {prog : Program} {w : World} {A : Around} {E : Value→Shared→Prop} {s : Shared} {κ : SortKind} {kf : Keyed→Int} {S : Keyed→Prop}
end
end FQ
namespace FT
open PySem PySem.W PySem.Calls PyProof.Rows
section
variable {prog : Program} {w : World} {A : Around} {E : Value→Shared→Prop} {s : Shared} {vs : List Value} {r : Nat→Int} {κ : SortKind} {n : Nat}
end
end FT
namespace FT
open PySem PySem.W PySem.Spec PySem.Calls PyProof.Rows L2 FL
section
variable {X : Cx} {pins : List (Addr × Obj)} {σ : L2.St} {H : Hp} {s : Shared}
variable {e : Expr} {ρ : Ro} {d : D} {pos p : Pos} {ts : List (List Int)} {k : Nat}
end
end FT
namespace MS
end MS
namespace FL
open PySem PySem.Spec PyProof.Rows L2
section
variable {X : Cx} {e a b c : Expr} {ρ : Ro} {ds : List D} {pos : Pos} {l : Addr}
end
end FL
namespace CM
open PySem PySem.Spec L2 FL FT
end CM
namespace CM
open PySem PySem.Spec L2 FL FT
end CM
namespace CM
open PySem PySem.Spec L2 FL FT
end CM
namespace CM
open PySem PySem.Spec L2 FL FT
end CM
namespace FT
open PySem PySem.W PySem.Spec PySem.Calls PyProof.Rows L2 FL
end FT
namespace CM
open PySem PySem.Spec L2 FL FT MG
def lfLt (q r : Q) : Prop := q.a < r.a∨(q.a = r.a∧q.b < r.b)
theorem lfN_sorted (i a : Int) (n : Nat) : (lfN i a n).Pairwise lfLt := by
  unfold lfN
  rw [List.pairwise_map]
  refine List.Pairwise.filter _ ?_
  rw [List.pairwise_map]
  exact List.pairwise_lt_range.imp λ {x y} h => .inr ⟨rfl,by show -a + (x : Int) < -a + (y : Int); omega⟩
theorem LF_sorted (i : Int) : (LF i).Pairwise lfLt := by
  unfold LF lfs
  rw [List.pairwise_flatMap]
  refine ⟨λ t _ => lfN_sorted _ _ _,List.pairwise_lt_range.imp λ {x y} h q hq r hr => .inl ?_⟩
  have h1 := ((mem_lfA (by omega)).mp hq).1
  have h2 := ((mem_lfA (by omega)).mp hr).1
  omega
end CM
namespace MD
open MG MJ MP
end MD
namespace MD
open MG MJ MP
end MD
namespace MD
open MG MJ MP CM
theorem cls_nodup (i : Int) : (clsL i).Nodup := by
  unfold clsL
  refine List.Pairwise.filter _ ((LF_sorted i).imp λ {x y} h e => ?_)
  subst e
  rcases h with h | ⟨_,h⟩ <;> omega
end MD
namespace MD
open MG MJ MP CM
def mf (n : Nat) : Nat := ((List.range (n + 1)).find? λ d => decide (2≤d) && decide (d ∣ n)).getD n
theorem mf_spec {n : Nat} (h : 2≤n) : 2≤mf n∧mf n ∣ n∧∀ d,2≤d→d ∣ n→mf n≤d := by
  unfold mf
  cases e : (List.range (n + 1)).find? λ d => decide (2 ≤ d) && decide (d ∣ n) with
  | none =>
    have := List.find?_eq_none.mp e n (List.mem_range.mpr (by omega))
    simp [h] at this
  | some m =>
    obtain ⟨h1,as,bs,h2,h3⟩ := List.find?_eq_some_iff_append.mp e
    simp only [Bool.and_eq_true,decide_eq_true_eq] at h1
    refine ⟨h1.1,h1.2,λ d d2 dn => Nat.not_lt.mp λ z => ?_⟩
    rw [Option.getD_some] at z
    have dl : d ≤ n := Nat.le_of_dvd (by omega) dn
    have md : d ∈ as := by
      have hm : d ∈ List.range (n + 1) := List.mem_range.mpr (by omega)
      have hs : (List.range (n + 1)).Pairwise (· < ·) := List.pairwise_lt_range
      rw [h2] at hm hs
      rcases List.mem_append.mp hm with q | q
      · exact q
      · have := List.pairwise_append.mp hs
        rcases List.mem_cons.mp q with q | q
        · omega
        · have := (List.pairwise_cons.mp this.2.1).1 d q
          omega
    have := h3 d md
    simp [d2,dn] at this
theorem mf_eq {n p : Nat} (h2 : 2≤p) (hp : p ∣ n) (hn : 0 < n) (h : ∀ d,2≤d→d ∣ n→p≤d) : mf n = p := by
  have n2 : 2 ≤ n := Nat.le_trans h2 (Nat.le_of_dvd hn hp)
  obtain ⟨a,b,c⟩ := mf_spec n2
  exact Nat.le_antisymm (c p h2 hp) (h _ a b)
theorem mf_pr {n : Nat} (h : 2≤n) : Pr (mf n) := by
  obtain ⟨a,b,c⟩ := mf_spec h
  refine ⟨a,λ d hd => ?_⟩
  by_cases z : d = 1
  · exact .inl z
  · right
    have d0 : 0 < d := Nat.pos_of_dvd_of_pos hd (by omega)
    exact Nat.le_antisymm (Nat.le_of_dvd (by omega) hd) (c d (by omega) (Nat.dvd_trans hd b))
theorem mf_lt {n : Nat} (h : ¬ n < 2) : n / mf n < n := Nat.div_lt_self (by omega) (mf_spec (by omega)).1
def PF (n : Nat) : List Nat := if h : n < 2 then [] else mf n :: PF (n / mf n)
termination_by n
decreasing_by exact mf_lt h
theorem PF_small {n : Nat} (h : n < 2) : PF n = [] := by
  rw [PF,dif_pos h]
theorem PF_cons {p m : Nat} (h2 : 2≤p) (hm : 0 < m) (h : ∀ d,2≤d→d ∣ p * m→p≤d) : PF (p * m) = p :: PF m := by
  have pm : 2 ≤ p * m := Nat.le_trans h2 (Nat.le_mul_of_pos_right p hm)
  have e := mf_eq h2 (Nat.dvd_mul_right p m) (by omega) h
  rw [PF,dif_neg (by omega),e,Nat.mul_div_cancel_left m (by omega)]
def sm (N : Nat) (g : Nat→Int) : Int := match N with
  | 0 => 0
  | N + 1 => sm N g + g (N + 1)
end MD
namespace FL
open PySem PySem.Spec PyProof.Rows L2
theorem intsAre_of : ∀ {ns : List Int} {us : List Value},Vals (ns.map V.int) us→IntsAre us ns
  | [],_,.nil => .nil
  | n :: _,_,.cons r t => by
    obtain ⟨k,rfl⟩ := r
    exact .cons n k (intsAre_of t)
section
variable {X : Cx} {e a b c : Expr} {es : List Expr} {ρ : Ro} {d x f : D} {ds gs : List D} {pos : Pos} {i j : Int} {k k' : Bool}
end
end FL
namespace CM
open PySem PySem.Spec L2 FL FT FU MG MD MP
abbrev nD (p : Nat) : D := .int (p : Int)
def p_pf (ds es : List D) : Prop := ∃ n : Nat,ds = [nD n]∧0 < n∧n≤4000000∧es = (PF n).map nD
theorem pow_small {k n : Nat} (h : 2 ^ k≤n) (hn : n≤4000000) : k < 22 := Nat.not_le.mp λ z => by
  have := Nat.pow_le_pow_right (show 0 < 2 by decide) z
  omega
theorem PF_last {k r : Nat} (hr : 1 < r) (h : ∀ d,2≤d→d ∣ r→k≤d) (hk : r < k * k) : PF r = [r] := by
  have e : PF (r * 1) = r :: PF 1 := PF_cons (by omega) Nat.one_pos λ d h2 hd => by
    rw [Nat.mul_one] at hd
    obtain ⟨e,he⟩ := hd
    have e0 : 0 < e := Nat.pos_of_ne_zero λ z => by rw [z,Nat.mul_zero] at he; omega
    have : ¬ 2 ≤ e := λ z => by
      have h1 := h d h2 ⟨e,he⟩
      have h3 := h e z ⟨d,by rw [he,Nat.mul_comm]⟩
      have := Nat.mul_le_mul h1 h3
      omega
    have e1 : e = 1 := by omega
    rw [e1,Nat.mul_one] at he
    omega
  rw [Nat.mul_one,PF_small (show 1 < 2 by decide)] at e
  exact e
theorem PF_pr {n : Nat} : ∀ p∈PF n,Pr p∧p ∣ n := by
  induction n using Nat.strongRecOn with
  | _ n ih =>
    intro p hp
    by_cases h : n < 2
    · rw [PF_small h] at hp; cases hp
    · have e : PF n = mf n :: PF (n / mf n) := by rw [PF]; exact dif_neg h
      rw [e] at hp
      have s := mf_spec (show 2 ≤ n by omega)
      rcases List.mem_cons.mp hp with rfl | hp
      · exact ⟨mf_pr (by omega),s.2.1⟩
      · obtain ⟨h1,h2⟩ := ih _ (mf_lt h) p hp
        exact ⟨h1,Nat.dvd_trans h2 (Nat.div_dvd_of_dvd s.2.1)⟩
theorem pr_odd {p : Nat} (h : Pr p) (h2 : p≠2) : p % 2 = 1 := by
  rcases Nat.mod_two_eq_zero_or_one p with z | z
  · rcases h.2 2 (Nat.dvd_of_mod_eq_zero z) with q | q
    · cases q
    · omega
  · exact z
theorem pr_ge3 {p : Nat} (h : Pr p) (h2 : p≠2) : 3≤p := by have := h.1; omega
def p_power (ds : List D) (d : D) : Prop := ∃ (b p : Int) (e : Nat),ds = [.int b,.int (e : Int),.int p]∧2≤p∧p≤4000000∧0≤b∧b < p∧d = .int (b ^ e % p)
def p_leaves (ds : List D) (d : D) : Prop := ∃ (i : Int) (p : Nat),ds = [.int i,nD p]∧3≤p∧p % 2 = 1∧p≤4000000∧d = .bl (decide (i ^ (p / 2) % (p : Int) = 1))
theorem sm_le {g : Nat→Int} (h : ∀ k,-1≤g k∧g k≤1) : ∀ n : Nat,-(n : Int)≤sm n g∧sm n g≤(n : Int)
  | 0 => ⟨by show -(0 : Int) ≤ 0; decide,by show (0 : Int) ≤ 0; decide⟩
  | n + 1 => by
    have h1 := sm_le h n
    have h2 := h (n + 1)
    show -((n + 1 : Nat) : Int) ≤ sm n g + g (n + 1) ∧ sm n g + g (n + 1) ≤ ((n + 1 : Nat) : Int)
    omega
theorem lfs_len2 {i : Int} : ∀ n : Nat,(lfs i n).length≤n * n + 2 * n
  | 0 => by simp [lfs]
  | n + 1 => by
    have h1 := lfs_len2 (i := i) n
    have h2 : (lfA i ((n : Int) + 1)).length ≤ (2 * ((n : Int) + 1) + 1).toNat := lf_len _
    have e : (n + 1) * (n + 1) = n * n + 2 * n + 1 := by grind
    rw [lfs_succ,List.length_append]
    omega
theorem cls_len2 {i : Int} (h : BarL i) : (clsL i).length≤1368 := by
  have h1 := lfs_len2 (i := i) 36
  have h2 := h.low
  have e : lfs i 36 = LF i := lfs_end (by decide) (by omega)
  rw [e] at h1
  exact Nat.le_trans (List.length_filter_le _ _) h1
end CM
namespace L2
open PySem PySem.Spec PyProof.Rows
section
variable {κ : Type} [DecidableEq κ]
def valV (kvs : List (κ × V)) (k : κ) : Option V := (kvs.find? λ kv => decide (kv.1 = k)).map (·.2)
def putK (kvs : List (κ × V)) (k : κ) (v : V) : List (κ × V) :=
  if (kvs.any λ kv => decide (kv.1 = k)) = true then kvs.map (λ kv => if kv.1 = k then (kv.1,v) else kv) else kvs ++ [(k,v)]
theorem valV_pos {p : κ × V} {r : List (κ × V)} {k : κ} (e : p.1 = k) : valV (p :: r) k = some p.2 := by simp [valV,List.find?_cons,e]
theorem valV_neg {p : κ × V} {r : List (κ × V)} {k : κ} (e : ¬ p.1 = k) : valV (p :: r) k = valV r k := by simp [valV,List.find?_cons,e]
theorem valV_any (k : κ) : ∀ kvs : List (κ × V),(kvs.any λ kv => decide (kv.1 = k)) = (valV kvs k).isSome
  | [] => rfl
  | p :: r => by
    rw [List.any_cons]
    by_cases e : p.1 = k
    · simp only [valV_pos e,decide_eq_true e,Bool.true_or,Option.isSome_some]
    · rw [valV_neg e,decide_eq_false e,Bool.false_or]; exact valV_any k r
theorem length_putK (kvs : List (κ × V)) (k : κ) (v : V) : (putK kvs k v).length≤kvs.length + 1 := by
  unfold putK
  split
  · rw [List.length_map]; omega
  · rw [List.length_append,List.length_cons,List.length_nil]; omega
theorem RelO.isSome_eq {o : Option V} {u : Option Value} (r : RelO o u) : o.isSome = u.isSome := by
  cases o with
  | none => cases u with
    | none => rfl
    | some _ => exact (show False from r).elim
  | some _ => cases u with
    | none => exact (show False from r).elim
    | some _ => rfl
theorem KV.val {kvs : List (κ × V)} {vs : List (κ × Value)} (r : KV kvs vs) (k : κ) : RelO (valV kvs k) (valueAt vs k) := by
  unfold KV at r
  induction r with
  | nil => exact True.intro
  | @cons p q ps qs h t ih =>
    obtain ⟨h1,h2⟩ := h
    by_cases e : p.1 = k
    · have e' : q.1 = k := h1.symm.trans e
      have b : valueAt (q :: qs) k = some q.2 := by simp [valueAt,List.find?_cons,e']
      rw [valV_pos e,b]; exact h2
    · have e' : ¬ q.1 = k := λ z => e (h1.trans z)
      have b : valueAt (q :: qs) k = valueAt qs k := by simp [valueAt,List.find?_cons,e']
      rw [valV_neg e,b]; exact ih
theorem KV.any {kvs : List (κ × V)} {vs : List (κ × Value)} (r : KV kvs vs) (k : κ) : (kvs.any λ kv => decide (kv.1 = k)) = vs.any λ kv => decide (kv.1 = k) := by
  unfold KV at r
  induction r with
  | nil => rfl
  | cons h t ih => rw [List.any_cons,List.any_cons,ih,h.1]
theorem KV.repl {kvs : List (κ × V)} {vs : List (κ × Value)} (r : KV kvs vs) (k : κ) {y : V} {u : Value} (ry : RelV y u) :
    KV (kvs.map λ kv => if kv.1 = k then (kv.1,y) else kv) (vs.map λ kv => if kv.1 = k then (kv.1,u) else kv) := by
  unfold KV at r ⊢
  induction r with
  | nil => exact .nil
  | @cons p q ps qs h t ih =>
    rw [List.map_cons,List.map_cons]
    refine .cons ?_ ih
    obtain ⟨h1,h2⟩ := h
    by_cases e : p.1 = k
    · rw [if_pos e,if_pos (h1.symm.trans e)]; exact ⟨h1,ry⟩
    · rw [if_neg e,if_neg (λ z => e (h1.trans z))]; exact ⟨h1,h2⟩
theorem KV.put {kvs : List (κ × V)} {vs : List (κ × Value)} (r : KV kvs vs) (k : κ) {y : V} {u : Value} (ry : RelV y u) : KV (putK kvs k y) (stored vs k u) := by
  unfold putK stored
  rw [r.any k]
  by_cases e : (vs.any λ kv => decide (kv.1 = k)) = true
  · rw [if_pos e,if_pos e]; exact r.repl k ry
  · rw [if_neg e,if_neg e]; exact Paired.snoc r ⟨rfl,ry⟩
theorem KV.length {kvs : List (κ × V)} {vs : List (κ × Value)} (r : KV kvs vs) : kvs.length = vs.length := Paired.length r
end
theorem kV_is {P : Program} {w : World} {k : Key} {u : Value} (r : RelV (kV k) u) : (mixKind P w).is k u = true := by
  cases k with
  | inl i => obtain ⟨t,e⟩ := (show ∃ t,u = Value.int i t from r); subst e; exact mixKind_int P w i t
  | inr x => obtain ⟨t,e⟩ := (show ∃ t,u = Value.str x t from r); subst e; exact mixKind_str P w x t
theorem items_are {P : Program} {w : World} : ∀ {ks : List Key} {us : List Value},Vals (ks.map kV) us→ItemsAre (mixKind P w) ks us
  | [],_,r => by rw [List.map_nil] at r; cases r; exact .nil
  | k :: ks,_,r => by
    rw [List.map_cons] at r
    cases r with
    | cons h t => exact .cons (kV_is h) (items_are t)
abbrev KT (H : Hp) : List (List Key × V) → List (List Key × Addr × Value) → Prop := Paired λ p q => p.1 = q.1 ∧ H q.2.1 = some (.tup (p.1.map kV)) ∧ RelV p.2 q.2.2
theorem KT.val {H : Hp} {kvs : List (List Key × V)} {xs : List (List Key × Addr × Value)} (r : KT H kvs xs) (k : List Key) : RelO (valV kvs k) ((atKey xs k).map (·.2)) := by
  induction r with
  | nil => exact True.intro
  | @cons p q ps qs h t ih =>
    obtain ⟨h1,_,h2⟩ := h
    by_cases e : p.1 = k
    · have e' : q.1 = k := h1.symm.trans e
      have b : atKey (q :: qs) k = some q.2 := by simp [atKey,List.find?_cons,e']
      rw [valV_pos e,b]; exact h2
    · have e' : ¬ q.1 = k := λ z => e (h1.trans z)
      have b : atKey (q :: qs) k = atKey qs k := by simp [atKey,List.find?_cons,e']
      rw [valV_neg e,b]; exact ih
theorem KT.repl {H : Hp} {kvs : List (List Key × V)} {xs : List (List Key × Addr × Value)} (r : KT H kvs xs) (k : List Key) {y : V} {u : Value} (ry : RelV y u) :
    KT H (kvs.map λ kv => if kv.1 = k then (kv.1,y) else kv) (xs.map (putAt k u)) := by
  induction r with
  | nil => exact .nil
  | @cons p q ps qs h t ih =>
    rw [List.map_cons,List.map_cons]
    refine .cons ?_ ih
    obtain ⟨h1,h2,h3⟩ := h
    unfold putAt
    by_cases e : p.1 = k
    · rw [if_pos e,if_pos (h1.symm.trans e)]; exact ⟨h1,h2,ry⟩
    · rw [if_neg e,if_neg (λ z => e (h1.trans z))]; exact ⟨h1,h2,h3⟩
theorem KT.put {H : Hp} {kvs : List (List Key × V)} {xs : List (List Key × Addr × Value)} (r : KT H kvs xs) (k : List Key) {b : Addr} {y : V} {u : Value} (hb : H b = some (.tup (k.map kV))) (ry : RelV y u) :
    KT H (putK kvs k y) (storedH xs k b u) := by
  have e : (kvs.any λ kv => decide (kv.1 = k)) = (atKey xs k).isSome := by
    rw [valV_any,(r.val k).isSome_eq,Option.isSome_map]
  unfold putK storedH
  rw [e]
  by_cases q : (atKey xs k).isSome = true
  · rw [if_pos q,if_pos q]; exact r.repl k ry
  · rw [if_neg q,if_neg q]; exact Paired.snoc r ⟨rfl,hb,ry⟩
theorem KT.keeps {H H' : Hp} {kvs : List (List Key × V)} {xs : List (List Key × Addr × Value)} (r : KT H kvs xs) (ht : ∀ b ys,H b = some (.tup ys)→H' b = some (.tup ys)) : KT H' kvs xs :=
  Paired.mapP r λ _ _ z => ⟨z.1,ht _ _ z.2.1,z.2.2⟩
section
variable {P : Program} {w : World} {H : Hp} {h : Heap} {a : Addr}
theorem rd_of {u : HO} (ok : HOk P w H h) (e : Rd H a u) : ObjOk P w H h a u := e.ok ok
theorem dk_rd {kvs : List (Key × V)} (ok : HOk P w H h) (e : Rd H a (.dK kvs)) : kvs.length≤sizeLine∧(a == sysModules) = false∧∃ vs,KV kvs vs∧h.DictOf (mixKind P w) a vs :=
  show ObjOk P w H h a (.dK kvs) from rd_of ok e
theorem dk_of {kvs : List (Key × V)} (ok : HOk P w H h) (e : H a = some (.dK kvs)) : kvs.length≤sizeLine∧(a == sysModules) = false∧∃ vs,KV kvs vs∧h.DictOf (mixKind P w) a vs := dk_rd ok (.inl e)
theorem key_of {ks : List Key} (ok : HOk P w H h) (e : H a = some (.tup (ks.map kV))) : (tupleKind (mixKind P w)).is h ks a := by
  obtain ⟨_,its,r,o,h1,h2,n,h3⟩ := (show ObjOk P w H h a (.tup (ks.map kV)) from ok a _ e)
  exact ⟨o,its.toArray,n,h1,h2,h3,by simpa using items_are r⟩
theorem dt_rd {kvs : List (List Key × V)} (ok : HOk P w H h) (e : Rd H a (.dT kvs)) : kvs.length≤sizeLine∧(a == sysModules) = false ∧
    ∃ xs,KT H kvs xs ∧ h.DictOfH (tupleKind (mixKind P w)) a xs := by
  obtain ⟨z,y,xs,r,o,es,ep,h1,h2,h3,h4,h5⟩ := (show ObjOk P w H h a (.dT kvs) from rd_of ok e)
  refine ⟨z,y,xs,r,o,es,ep,h1,h2,h3,h4,λ x hx => ?_,h5⟩
  have all : ∀ {l : List (List Key × V)} {m : List (List Key × Addr × Value)},KT H l m → ∀ x ∈ m,(tupleKind (mixKind P w)).is h x.1 x.2.1 := by
    intro l m q
    induction q with
    | nil => intro x hx; exact nomatch hx
    | @cons p q ps qs hq t ih =>
      intro x hx
      rcases List.mem_cons.mp hx with e | hx
      · subst e
        exact key_of ok (by rw [← hq.1]; exact hq.2.1)
      · exact ih x hx
  exact all r x hx
theorem dt_of {kvs : List (List Key × V)} (ok : HOk P w H h) (e : H a = some (.dT kvs)) : kvs.length≤sizeLine∧(a == sysModules) = false ∧
    ∃ xs,KT H kvs xs ∧ h.DictOfH (tupleKind (mixKind P w)) a xs := dt_rd ok (.inl e)
end
def DGet (H : Hp) (a : Addr) (y : V) (r : Option V) : Prop :=
  (∃ kvs k,Rd H a (.dK kvs) ∧ y = kV k ∧ r = valV kvs k) ∨ ∃ kvs k b,Rd H a (.dT kvs) ∧ y = .ref b ∧ H b = some (.tup (k.map kV)) ∧ r = valV kvs k
def DPut (H : Hp) (a : Addr) (y v : V) (H' : Hp) : Prop :=
  (∃ kvs k,H a = some (.dK kvs) ∧ y = kV k ∧ kvs.length < sizeLine ∧ H' = upd H a (.dK (putK kvs k v))) ∨
  ∃ kvs k b,H a = some (.dT kvs) ∧ y = .ref b ∧ H b = some (.tup (k.map kV)) ∧ kvs.length < sizeLine ∧ H' = upd H a (.dT (putK kvs k v))
section
variable {X : Cx} {pins : List (Addr × Obj)} {σ : St} {H : Hp} {s : Shared} {a : Addr} {y v : V} {u r : Value} {o : Option V} {A : Around} {E : Value→Shared→Prop}
theorem Inv.big (I : Inv X pins σ H s) : sysModules < s.heap.objs.size := by
  have h : mainGlobals < s.heap.objs.size := (I.mod.glob.keeps I.bk).lt
  exact Nat.lt_trans (by decide) h
theorem d_getItem {Q : Value→Shared→Prop} (hu : A.units + 1 < cLine) (I : Inv X pins σ H s) (g : DGet H a y (some v)) (ry : RelV y u) (h : ∀ w' s',Inv X pins σ H s'→RelV v w'→Q w' s') :
    wpAny (model X.prog X.w) A (getItem (.ref a) u) Q E s := by
  rcases g with ⟨kvs,k,e,ey,l⟩ | ⟨kvs,k,b,e,ey,eb,l⟩
  · subst ey
    obtain ⟨z,hd,vs,rel,dd⟩ := dk_rd I.hok e
    obtain ⟨w',hw,rw'⟩ := RelO.some_of (v := v) (o := valueAt vs k) (by rw [l]; exact rel.val k)
    exact wpAny_getItem_of (kV_is ry) dd.mapOf hw (h w' _ (I.tok _) rw')
  · subst ey
    cases (show u = Value.ref b from ry)
    obtain ⟨z,hd,xs,rel,dd⟩ := dt_rd I.hok e
    obtain ⟨w',hw,rw'⟩ := RelO.some_of (v := v) (o := (atKey xs k).map (·.2)) (by rw [l]; exact rel.val k)
    obtain ⟨p,hp,hp2⟩ := Option.map_eq_some_iff.mp hw
    refine wpAny_getItem_heap (tupleKind_room_in1 hu) (key_of I.hok eb) dd hp ?_
    rw [hp2]
    exact h w' _ (I.tok _) rw'
theorem d_notIn {Q : Value→Shared→Prop} (hu : A.units + 1 < cLine) (I : Inv X pins σ H s) (g : DGet H a y o) (ry : RelV y u) (h : ∀ s',Inv X pins σ H s'→Q (.bool (!o.isSome)) s') :
    wpAny (model X.prog X.w) A (compareOp .NotIn u (.ref a)) Q E s := by
  rcases g with ⟨kvs,k,e,ey,l⟩ | ⟨kvs,k,b,e,ey,eb,l⟩
  · subst ey
    obtain ⟨z,hd,vs,rel,dd⟩ := dk_rd I.hok e
    refine wpAny_notIn_of (kV_is ry) hd dd.mapOf ?_
    rw [← (rel.val k).isSome_eq,← l]
    exact h _ (I.tok _)
  · subst ey
    cases (show u = Value.ref b from ry)
    obtain ⟨z,hd,xs,rel,dd⟩ := dt_rd I.hok e
    refine wpAny_notIn_heap (tupleKind_room_in1 hu) (key_of I.hok eb) hd dd ?_
    have q := (rel.val k).isSome_eq
    rw [Option.isSome_map] at q
    rw [← q,← l]
    exact h _ (I.tok _)
theorem d_write {h' : Heap} {t' : Nat} {ob : HO} (I : Inv X pins σ H s) (mu : Mut (H a)) (hs : Heap.SameBut a s.heap h') (he : ∃ q,h'.get? a = some q) (new : ObjOk X.prog X.w (upd H a ob) h' a ob) :
    Inv X pins σ (upd H a ob) { s with heap := h',toks := t' } :=
  I.write (x := a) (e := a) mu (.inl rfl) (λ b q hb z => (hs.2 b hb).trans z) he new
theorem dk_new {P : Program} {w : World} {H' : Hp} {h' : Heap} {kvs : List (Key × V)} {vs : List (Key × Value)} (z : kvs.length≤sizeLine) (hd : (a == sysModules) = false) (rel : KV kvs vs) (dd : h'.DictOf (mixKind P w) a vs) :
    ObjOk P w H' h' a (.dK kvs) := ⟨z,hd,vs,rel,dd⟩
theorem d_setItem {H' : Hp} {Q : Unit→Shared→Prop} (hu : A.units + 1 < cLine) (I : Inv X pins σ H s) (g : DPut H a y v H') (ry : RelV y u) (rv : RelV v r) (h : ∀ s',Inv X pins σ H' s'→Q () s') :
    wpAny (model X.prog X.w) A (setItem (.ref a) u r) Q E s := by
  rcases g with ⟨kvs,k,e,ey,l,eH⟩ | ⟨kvs,k,b,e,ey,eb,l,eH⟩
  · subst ey eH
    obtain ⟨z,hd,vs,rel,dd⟩ := dk_of I.hok e
    have hz : vs.length ≤ sizeLine := by rw [← rel.length]; exact z
    have hl : (putK kvs k v).length ≤ sizeLine := by have := length_putK kvs k v; omega
    refine wpAny_setItem_pairs (hsz := hz) (kV_is ry) dd λ h' dd' hs => h _ ?_
    have he : ∃ q,h'.get? a = some q := let ⟨q,_,_,hq,_⟩ := dd'; ⟨q,hq⟩
    exact d_write I (by rw [e]; exact True.intro) hs he (dk_new hl hd (rel.put k rv) dd')
  · subst ey eH
    cases (show u = Value.ref b from ry)
    obtain ⟨z,hd,xs,rel,dd⟩ := dt_of I.hok e
    have hz : xs.length ≤ sizeLine := by rw [← Paired.length rel]; exact z
    have hl : (putK kvs k v).length ≤ sizeLine := by have := length_putK kvs k v; omega
    refine wpAny_setItem_heap (hsz := hz) (tupleKind_room_in1 hu) (key_of I.hok eb) dd λ h' dd' hs => h _ ?_
    obtain ⟨q,es,ep,hq,h2,h3,h4,_,h5⟩ := dd'
    refine d_write I (by rw [e]; exact True.intro) hs ⟨q,hq⟩ ⟨hl,hd,_,(rel.put k eb rv).keeps λ c ys ec => ?_,q,es,ep,hq,h2,h3,h4,h5⟩
    rw [upd_ne (ne_of ec e (λ z => nomatch z))]
    exact ec
end
section
variable {X : Cx} {pins : List (Addr × Obj)} {σ : St} {H : Hp} {s : Shared} {a : Addr} {kvs : List (Key × V)} {k : Key} {u : Value} {A : Around} {E : Value→Shared→Prop}
end
def NoSl (i : Expr) : Prop := ∀ ov iv,subscripted i false ov iv = operate [ov,iv] (getItem ov iv)
theorem subD_of {prog : Program} {w : World} {A : Around} {E : Value→Shared→Prop} {s : Shared} {env : Env} {value slice : Expr} {pos : Pos} {T id : String} {Q : Value→Shared→Prop}
    (hl : typeLookup (.type T) "__getitem__" = pure (some (.builtin id))) (hs : NoSl slice)
    (h : wpAny (model prog w) A (eval value env) (λ o s₁ => wpAny (model prog w) A (eval slice env) (λ i s₂ => s₂.TypeIs o T ∧ wpAny (model prog w) A (getItem o i) Q E s₂) E s₁) E s) :
    wpAny (model prog w) A (eval (.Subscript value slice pos) env) Q E s := by
  refine Subscript_ (wpAny_mono h (λ o s₁ h₁ => wpAny_mono h₁ (λ i s₂ h₂ => ?_) λ _ _ x => x) λ _ _ x => x)
  obtain ⟨hT,h₂⟩ := h₂
  unfold subscriptTail
  refine wpAny_bind ?_
  rw [getitemInPython_of_ne hT.not_modules]
  refine wpAny_bind (wpAny_specialOf hT hl ?_)
  have fin : wpAny (model prog w) A (subscripted slice false o i) (λ r s₃ => wpAny (model prog w) A (letTemporaryGo value o r >>= λ _ => pure r) Q E s₃) E s₂ := by
    rw [hs o i]
    exact wpAny_operating (wpAny_mono h₂ (λ r s₃ h₃ => wpAny_bind (wpAny_letTemporaryGo (wpAny_pure h₃))) λ _ _ x => x)
  first
    | exact wpAny_pure (wpAny_bind fin)
    | exact wpAny_bind (wpAny_pure (wpAny_bind fin))
    | exact wpAny_bind fin
theorem dict_typeIs {X : Cx} {pins : List (Addr × Obj)} {σ : St} {H : Hp} {s : Shared} {a : Addr} {y : V} {o : Option V} (I : Inv X pins σ H s) (g : DGet H a y o) : s.TypeIs (.ref a) "dict" := by
  rcases g with ⟨kvs,k,e,_,_⟩ | ⟨kvs,k,b,e,_,_,_⟩
  · obtain ⟨_,_,vs,_,dd⟩ := dk_rd I.hok e
    exact dd.typeIs
  · obtain ⟨_,_,xs,_,dd⟩ := dt_rd I.hok e
    exact dd.typeIs
def tDGet (td ty : TE) : TE := λ σ H Q => td σ H λ x H1 => ty σ H1 λ y H2 => ∃ a v,x = .ref a∧DGet H2 a y (some v)∧Q v H2
def tDNotIn (ty td : TE) : TE := λ σ H Q => ty σ H λ y H1 => td σ H1 λ x H2 => ∃ a o,x = .ref a∧DGet H2 a y o∧Q (.bl (!o.isSome)) H2
def sDPut (td ty tv : TE) : TS := λ D σ H => tv σ H λ v H1 => td σ H1 λ x H2 => ty σ H2 λ y H3 => ∃ a H4,x = .ref a∧DPut H3 a y v H4∧D.nx σ H4
section
variable {X : Cx} {o i e value : Expr} {pos pos' tpos : Pos} {td ty tv : TE}
theorem pe_dget (hu : X.A.units + 1 < cLine) (ho : PE X o td) (hi : PE X i ty) (hs : NoSl i) : PE X (.Subscript o i pos) (tDGet td ty) := by
  intro pins s σ H Q I h
  refine subD_of PySem.F.slot_dict_getitem.lookup hs (thn (ho pins s σ H _ I h) λ u s1 ⟨x,H1,I1,rx,q1⟩ => thn (hi pins s1 σ H1 _ I1 q1) λ iv s2 ⟨y,H2,I2,ry,a,v,ex,g,q2⟩ => ?_)
  subst ex
  obtain rfl : u = Value.ref a := rx
  exact ⟨dict_typeIs I2 g,d_getItem hu I2 g ry λ w' s3 I3 rw' => ⟨v,H2,I3,rw',q2⟩⟩
theorem pc_dnotin (hu : X.A.units + 1 < cLine) (hi : PE X i ty) (ho : PE X o td) : PC X .NotIn i o (tDNotIn ty td) := by
  intro pins s σ H Q I h
  refine thn (hi pins s σ H _ I h) λ iv s1 ⟨y,H1,I1,ry,q1⟩ => thn (ho pins s1 σ H1 _ I1 q1) λ u s2 ⟨x,H2,I2,rx,a,ov,ex,g,q2⟩ => ?_
  subst ex
  obtain rfl : u = Value.ref a := rx
  exact d_notIn hu I2 g ry λ s3 I3 => ⟨.bl (!ov.isSome),H2,I3,rfl,q2⟩
theorem ps_dput (hu : X.A.units + 1 < cLine) (ho : PE X o td) (hi : PE X i ty) (hv : PE X value tv) (hs : swapsWith value (some (.Subscript o i pos')) pos.line X.env = pure false) :
    PS X (.Assign [.Subscript o i pos'] value pos) (sDPut td ty tv) := by
  intro pins s σ H D I h
  refine wpAny_Assign_Subscript (thn (hv pins s σ H _ I h) λ r s1 ⟨v,H1,I1,rv,q1⟩ => thn (ho pins s1 σ H1 _ I1 q1) λ u s2 ⟨x,H2,I2,rx,q2⟩ => thn (hi pins s2 σ H2 _ I2 q2) λ iv s3 ⟨y,H3,I3,ry,a,H4,ex,g,q3⟩ => ?_) hs
  subst ex
  obtain rfl : u = Value.ref a := rx
  exact d_setItem hu I3 g ry rv λ s4 I4 => ⟨σ,H4,I4,q3⟩
end
theorem dt_empty {P : Program} {w : World} {H : Hp} (h : Heap) (hb : sysModules < h.objs.size) : ObjOk P w H (h.push { cls := .type "dict",data := .dict #[] }) h.objs.size (.dT []) :=
  ⟨Nat.zero_le _,beq_eq_false_iff_ne.mpr (Ne.symm (Nat.ne_of_lt hb)),[],.nil,_,#[],0,Heap.get?_push_size _ rfl,⟨rfl,rfl,rfl⟩,rfl,rfl,List.nodup_nil⟩
def tDNewT : TE := λ _ H Q => ∀ p,H p = none→Q (.ref p) (upd H p (.dT []))
section
variable {X : Cx} {pos : Pos}
theorem pe_dnewT : PE X (.Dict [] [] pos) tDNewT := λ pins s σ H Q I h =>
  wpAny_Dict_empty ⟨.ref s.heap.objs.size,_,I.laid (a := s.heap.objs.size) (o := .dT []) (t' := s.toks) (λ _ _ q => Heap.get?_push_of_some _ q) (Nat.le_refl _) (dt_empty s.heap I.big),rfl,h _ (I.hok.fresh (Nat.le_refl _))⟩
end
section
variable {X : Cx} {pins : List (Addr × Obj)} {σ : St} {H : Hp} {s : Shared} {a : Addr} {y d : V} {u r : Value} {o : Option V} {A : Around} {E : Value→Shared→Prop}
end
section
variable {X : Cx} {o e f : Expr} {apos cpos : Pos} {td ty tx : TE}
end
section
variable {X : Cx} {pins : List (Addr × Obj)} {σ : St} {H : Hp} {s : Shared} {a : Addr} {kvs : List (Key × V)} {A : Around} {E : Value→Shared→Prop}
end
section
variable {X : Cx} {pins : List (Addr × Obj)} {σ : St} {H : Hp} {s : Shared} {a : Addr} {y : V} {u : Value} {A : Around} {E : Value→Shared→Prop}
end
end L2
namespace L2
open PySem PySem.Spec PyProof.Rows
section
variable {X : Cx}
end
end L2
namespace L2
open PySem PySem.Spec PyProof.Rows
section
variable {κ : Type} [DecidableEq κ]
theorem nd_snoc : ∀ {l : List κ} {k : κ},l.Nodup→¬ k∈l→(l ++ [k]).Nodup
  | [],k,_,_ => by simp
  | a :: r,k,h,hk => by
    obtain ⟨h1,h2⟩ := List.nodup_cons.mp h
    show (a :: (r ++ [k])).Nodup
    refine List.nodup_cons.mpr ⟨λ m => ?_,nd_snoc h2 λ m => hk (List.mem_cons.mpr (Or.inr m))⟩
    rcases List.mem_append.mp m with q | q
    · exact h1 q
    · exact hk (List.mem_cons.mpr (Or.inl (List.mem_singleton.mp q).symm))
end
end L2
namespace FL
open PySem PySem.Spec PyProof.Rows L2
section
variable {X : Cx} {pins : List (Addr × Obj)} {σ : L2.St} {H : Hp} {s : Shared}
theorem ObjOk.obj {P : Program} {w : World} {h : Heap} {a : Addr} {u : HO} (x : ObjOk P w H h a u) {xs : List V} (mu : u = .lst xs∨(dOf u).isSome = true) : ∃ o,h.get? a = some o := by
  cases u with
  | lst ys => obtain ⟨_,_,_,_,e⟩ := x; exact ⟨_,e⟩
  | dK kvs => obtain ⟨_,_,_,_,o,_,_,e,_⟩ := x; exact ⟨_,e⟩
  | dT kvs => obtain ⟨_,_,_,_,o,_,_,e,_⟩ := x; exact ⟨_,e⟩
  | _ => rcases mu with z | z <;> cases z
theorem upd_keep {a : Addr} {u o : HO} (hH : H a = some u) (hu : ∀ ys,u≠.tup ys) (hf : ∀ ob v,u≠.frz ob v) : KT H (upd H a o) :=
  ⟨λ b ys h => by rw [upd_ne (λ z => by subst z; rw [hH] at h; cases h; exact hu _ rfl)]; exact h,λ b ob v h => by rw [upd_ne (λ z => by subst z; rw [hH] at h; cases h; exact hf _ _ rfl)]; exact h⟩
theorem Inv.freeze (I : L2.Inv X pins σ H s) {a : Addr} {u : HO} {xs : List V} (hH : H a = some u) (mu : u = .lst xs∨(dOf u).isSome = true) : ∃ o,L2.Inv X pins σ (upd H a (.frz o u)) s := by
  have ok := I.hok a u hH
  obtain ⟨o,ho⟩ := ObjOk.obj ok mu
  have nt : ∀ ys,u ≠ .tup ys := λ ys z => by subst z; rcases mu with z | z <;> cases z
  have nf : ∀ ob v,u ≠ .frz ob v := λ ob v z => by subst z; rcases mu with z | z <;> cases z
  have no : ∀ y,u ≠ .own y := λ ob z => by subst z; rcases mu with z | z <;> cases z
  have kt : KT H (upd H a (.frz o u)) := upd_keep hH nt nf
  have m : Mut (H a) := by
    rw [hH]
    cases u with
    | lst ys => trivial
    | dK kvs => trivial
    | dT kvs => trivial
    | _ => rcases mu with z | z <;> cases z
  refine ⟨o,I.write (x := a) (e := a) (o := .frz o u) (h' := s.heap) (t' := s.toks) m (.inl rfl) (λ b v _ h => h) ⟨o,ho⟩ ⟨ho,?_⟩⟩
  exact ok.stay (λ b v _ h => h) (λ b h => by rw [upd_ne (λ z => by subst z; rw [hH] at h; cases h; exact no _ rfl)]; exact h) kt.1
end
section
variable {X : Cx} {e a b c : Expr} {es : List Expr} {ρ : Ro} {d : D} {ds : List D} {pos : Pos} {rest : List Stmt} {P : Po}
theorem ev_frz (h : EvN X e ρ ds) (hz : ∀ d∈ds,Fz d) : Ev X e ρ (.fl ds) := by
  intro pins s σ H Q I ⟨r,q⟩
  refine thn (h pins s σ H (λ x H' => ∃ a vs,x = .ref a ∧ H a = none ∧ Same H H' ∧ H' a = some (.lst vs) ∧ IsAll X.K H' vs ds) I ⟨r,λ a vs H' h1 h2 h3 h4 => ⟨a,vs,rfl,h1,h2,h3,h4⟩⟩) ?_
  rintro v s' ⟨x,H',I',rx,a,vs,rfl,h1,h2,h3,h4⟩
  obtain ⟨o,I2⟩ := Inv.freeze I' h3 (.inl rfl)
  have kt : KT H' (upd H' a (.frz o (.lst vs))) := upd_keep h3 (λ _ z => by cases z) (λ _ _ z => by cases z)
  exact ⟨.ref a,_,I2,rx,q _ _ (λ b u hb => by rw [upd_ne (ne_of_none hb h1)]; exact h2 b u hb) (.fl upd_same (h4.keep kt hz))⟩
def tND (X : Cx) (ρ : Ro) (t : Bool) (ks vs : List D) : TE := λ σ H Q => RelE X H σ ρ∧∀ a u us H',H a = none→Same H H'→H' a = some u→dOf u = some (t,ks,us)→IsAll X.K H' us vs→Q (.ref a) H'
def EvND (X : Cx) (e : Expr) (ρ : Ro) (t : Bool) (ks vs : List D) : Prop := PE X e (tND X ρ t ks vs)
variable {ks vs : List D} {t : Bool}
theorem ev_frzD (h : EvND X e ρ t ks vs) (hz : ∀ d∈vs,Fz d) : Ev X e ρ (.fd t ks vs) := by
  intro pins s σ H Q I ⟨r,q⟩
  refine thn (h pins s σ H (λ x H' => ∃ a u us,x = .ref a ∧ H a = none ∧ Same H H' ∧ H' a = some u ∧ dOf u = some (t,ks,us) ∧ IsAll X.K H' us vs) I ⟨r,λ a u us H' h1 h2 h3 h4 h5 => ⟨a,u,us,rfl,h1,h2,h3,h4,h5⟩⟩) ?_
  rintro v s' ⟨x,H',I',rx,a,u,us,rfl,h1,h2,h3,h4,h5⟩
  obtain ⟨o,I2⟩ := Inv.freeze (xs := []) I' h3 (.inr (by rw [h4]; rfl))
  have kt : KT H' (upd H' a (.frz o u)) := upd_keep h3 (λ _ z => by subst z; cases h4) (λ _ _ z => by subst z; cases h4)
  exact ⟨.ref a,_,I2,rx,q _ _ (λ b u hb => by rw [upd_ne (ne_of_none hb h1)]; exact h2 b u hb) (.fd upd_same h4 (h5.keep kt hz))⟩
theorem evnd_newT : EvND X (.Dict [] [] pos) ρ true [] [] := PE.imp pe_dnewT λ σ H Q ⟨r,q⟩ p hp => q p _ [] _ hp (same_new hp) upd_same rfl .nil
end
theorem keyD_inj {k l : Key} (h : keyD k = keyD l) : k = l := by
  cases k with
  | inl i => cases l with
    | inl j => injection h with h; rw [h]
    | inr y => cases h
  | inr x => cases l with
    | inl j => cases h
    | inr y => injection h with h; rw [h]
theorem keysD_inj : ∀ {ks ls : List Key},ks.map keyD = ls.map keyD→ks = ls
  | [],[],_ => rfl
  | [],_ :: _,e => by simp at e
  | _ :: _,[],e => by simp at e
  | x :: xs,y :: ys,e => by
    rw [List.map_cons,List.map_cons] at e
    injection e with e1 e2
    rw [keyD_inj e1,keysD_inj e2]
theorem Is.key {K : PySem.W.Frag} {H : Hp} {v : V} {k : Key} (h : Is K H v (keyD k)) : v = kV k := by
  cases k with
  | inl i => exact h.int_inv
  | inr x => exact h.str_inv
theorem IsAll.keys {K : PySem.W.Frag} {H : Hp} : ∀ {vs : List V} {ks : List Key},IsAll K H vs (ks.map keyD)→vs = ks.map kV
  | _,[],.nil => rfl
  | _,k :: ks,.cons h r => by rw [h.key,IsAll.keys r]; rfl
open Classical in
noncomputable def dlook : List D→List D→D→Option D
  | k :: ks,v :: vs,kd => if k = kd then some v else dlook ks vs kd
  | _,_,_ => none
open Classical in
noncomputable def dputV : List D→List D→D→D→List D
  | k :: ks,v :: vs,kd,d => if k = kd then d :: vs else v :: dputV ks vs kd d
  | _,_,_,d => [d]
open Classical in
noncomputable def dputK (ks : List D) (kd : D) : List D := if kd∈ks then ks else ks ++ [kd]
theorem look_t {K : PySem.W.Frag} {H : Hp} (k : List Key) : ∀ {kvs : List (List Key × V)} {vs : List D},IsAll K H (kvs.map (·.2)) vs→(∀ d,dlook (kvs.map λ p => D.tup (p.1.map keyD)) vs (.tup (k.map keyD)) = some d→∃ v,valV kvs k = some v∧Is K H v d) ∧
    (D.tup (k.map keyD) ∉ kvs.map (λ p => D.tup (p.1.map keyD)) → valV kvs k = none) ∧ (D.tup (k.map keyD) ∈ kvs.map (λ p => D.tup (p.1.map keyD)) → (valV kvs k).isSome = true)
  | [],_,.nil => ⟨(λ d h => by unfold dlook at h; cases h),λ _ => rfl,(λ h => by cases h)⟩
  | (l,v) :: kvs,d :: vs,.cons h r => by
    obtain ⟨i1,i2,i3⟩ := look_t (K := K) (H := H) k r
    by_cases e : l = k
    · subst e
      refine ⟨λ d' h' => ?_,λ n => absurd List.mem_cons_self n,λ _ => by rw [valV_pos rfl]; rfl⟩
      rw [List.map_cons,dlook,if_pos rfl] at h'
      cases h'
      exact ⟨v,valV_pos rfl,h⟩
    · have ne : ¬ D.tup (l.map keyD) = D.tup (k.map keyD) := λ z => e (keysD_inj (by injection z))
      have ve : valV ((l,v) :: kvs) k = valV kvs k := valV_neg e
      refine ⟨λ d' h' => ?_,λ n => ?_,λ m => ?_⟩
      · rw [List.map_cons,dlook,if_neg ne] at h'
        rw [ve]
        exact i1 d' h'
      · rw [ve]
        exact i2 λ z => n (List.mem_cons_of_mem _ z)
      · rw [ve]
        rcases List.mem_cons.mp m with z | z
        · exact absurd z.symm ne
        · exact i3 z
theorem look_k {K : PySem.W.Frag} {H : Hp} (k : Key) : ∀ {kvs : List (Key × V)} {vs : List D},IsAll K H (kvs.map (·.2)) vs→(∀ d,dlook (kvs.map λ p => keyD p.1) vs (keyD k) = some d→∃ v,valV kvs k = some v∧Is K H v d) ∧
    (keyD k ∉ kvs.map (λ p => keyD p.1) → valV kvs k = none) ∧ (keyD k ∈ kvs.map (λ p => keyD p.1) → (valV kvs k).isSome = true)
  | [],_,.nil => ⟨(λ d h => by unfold dlook at h; cases h),λ _ => rfl,(λ h => by cases h)⟩
  | (l,v) :: kvs,d :: vs,.cons h r => by
    obtain ⟨i1,i2,i3⟩ := look_k (K := K) (H := H) k r
    by_cases e : l = k
    · subst e
      refine ⟨λ d' h' => ?_,λ n => absurd List.mem_cons_self n,λ _ => by rw [valV_pos rfl]; rfl⟩
      rw [List.map_cons,dlook,if_pos rfl] at h'
      cases h'
      exact ⟨v,valV_pos rfl,h⟩
    · have ne : ¬ keyD l = keyD k := λ z => e (keyD_inj z)
      have ve : valV ((l,v) :: kvs) k = valV kvs k := valV_neg e
      refine ⟨λ d' h' => ?_,λ n => ?_,λ m => ?_⟩
      · rw [List.map_cons,dlook,if_neg ne] at h'
        rw [ve]
        exact i1 d' h'
      · rw [ve]
        exact i2 λ z => n (List.mem_cons_of_mem _ z)
      · rw [ve]
        rcases List.mem_cons.mp m with z | z
        · exact absurd z.symm ne
        · exact i3 z
theorem put_t {K : PySem.W.Frag} {H : Hp} (k : List Key) {y : V} {d : D} (hy : Is K H y d) : ∀ {kvs : List (List Key × V)} {vs : List D},IsAll K H (kvs.map (·.2)) vs →
    (putK kvs k y).map (λ p => D.tup (p.1.map keyD)) = dputK (kvs.map λ p => D.tup (p.1.map keyD)) (.tup (k.map keyD)) ∧ ((kvs.map (·.1)).Nodup → IsAll K H ((putK kvs k y).map (·.2)) (dputV (kvs.map λ p => D.tup (p.1.map keyD)) vs (.tup (k.map keyD)) d)) := by
  have mem : ∀ kvs : List (List Key × V),(kvs.any λ kv => decide (kv.1 = k)) = true ↔ D.tup (k.map keyD) ∈ kvs.map λ p => D.tup (p.1.map keyD) := λ kvs => by
    rw [List.any_eq_true,List.mem_map]
    constructor
    · rintro ⟨p,hp,e⟩
      exact ⟨p,hp,by rw [of_decide_eq_true e]⟩
    · rintro ⟨p,hp,e⟩
      exact ⟨p,hp,decide_eq_true (keysD_inj (by injection e))⟩
  intro kvs vs r
  refine ⟨?_,λ nd => ?_⟩
  · unfold putK dputK
    by_cases h : (kvs.any λ kv => decide (kv.1 = k)) = true
    · rw [if_pos h,if_pos ((mem kvs).mp h),List.map_map]
      refine List.map_congr_left λ p _ => ?_
      show D.tup ((if p.1 = k then (p.1,y) else p).1.map keyD) = _
      split <;> rfl
    · rw [if_neg h,if_neg (λ z => h ((mem kvs).mpr z)),List.map_append]
      rfl
  · induction kvs generalizing vs with
    | nil =>
      cases r
      exact .cons hy .nil
    | cons p kvs ih =>
      obtain ⟨l,v⟩ := p
      cases r with
      | @cons _ _ dv vs h r =>
        rw [List.map_cons] at nd
        obtain ⟨n1,n2⟩ := List.nodup_cons.mp nd
        by_cases e : l = k
        · subst e
          have e1 : putK ((l,v) :: kvs) l y = (l,y) :: kvs := by
            unfold putK
            rw [if_pos (by simp)]
            rw [List.map_cons,if_pos rfl]
            congr 1
            have : kvs.map (λ kv => if kv.1 = l then (kv.1,y) else kv) = kvs.map id := List.map_congr_left λ p hp => by
              rw [if_neg (λ z => n1 (by rw [← z]; exact List.mem_map.mpr ⟨p,hp,rfl⟩))]
              rfl
            rw [this,List.map_id]
          rw [e1]
          simp only [List.map_cons]
          rw [dputV,if_pos rfl]
          exact .cons hy r
        · have ne : ¬ D.tup (l.map keyD) = D.tup (k.map keyD) := λ z => e (keysD_inj (by injection z))
          have e1 : putK ((l,v) :: kvs) k y = (l,v) :: putK kvs k y := by
            unfold putK
            rw [List.any_cons]
            have : decide ((l,v).1 = k) = false := decide_eq_false e
            rw [this,Bool.false_or]
            split
            · rw [List.map_cons,if_neg e]
            · rfl
          rw [e1]
          simp only [List.map_cons]
          rw [dputV,if_neg ne]
          exact .cons h (ih r n2)
theorem put_k {K : PySem.W.Frag} {H : Hp} (k : Key) {y : V} {d : D} (hy : Is K H y d) : ∀ {kvs : List (Key × V)} {vs : List D},IsAll K H (kvs.map (·.2)) vs →
    (putK kvs k y).map (λ p => keyD p.1) = dputK (kvs.map λ p => keyD p.1) (keyD k) ∧ ((kvs.map (·.1)).Nodup → IsAll K H ((putK kvs k y).map (·.2)) (dputV (kvs.map λ p => keyD p.1) vs (keyD k) d)) := by
  have mem : ∀ kvs : List (Key × V),(kvs.any λ kv => decide (kv.1 = k)) = true ↔ keyD k ∈ kvs.map λ p => keyD p.1 := λ kvs => by
    rw [List.any_eq_true,List.mem_map]
    constructor
    · rintro ⟨p,hp,e⟩
      exact ⟨p,hp,by rw [of_decide_eq_true e]⟩
    · rintro ⟨p,hp,e⟩
      exact ⟨p,hp,decide_eq_true (keyD_inj e)⟩
  intro kvs vs r
  refine ⟨?_,λ nd => ?_⟩
  · unfold putK dputK
    by_cases h : (kvs.any λ kv => decide (kv.1 = k)) = true
    · rw [if_pos h,if_pos ((mem kvs).mp h),List.map_map]
      refine List.map_congr_left λ p _ => ?_
      show keyD (if p.1 = k then (p.1,y) else p).1 = _
      split <;> rfl
    · rw [if_neg h,if_neg (λ z => h ((mem kvs).mpr z)),List.map_append]
      rfl
  · induction kvs generalizing vs with
    | nil =>
      cases r
      exact .cons hy .nil
    | cons p kvs ih =>
      obtain ⟨l,v⟩ := p
      cases r with
      | @cons _ _ dv vs h r =>
        rw [List.map_cons] at nd
        obtain ⟨n1,n2⟩ := List.nodup_cons.mp nd
        by_cases e : l = k
        · subst e
          have e1 : putK ((l,v) :: kvs) l y = (l,y) :: kvs := by
            unfold putK
            rw [if_pos (by simp)]
            rw [List.map_cons,if_pos rfl]
            congr 1
            have : kvs.map (λ kv => if kv.1 = l then (kv.1,y) else kv) = kvs.map id := List.map_congr_left λ p hp => by
              rw [if_neg (λ z => n1 (by rw [← z]; exact List.mem_map.mpr ⟨p,hp,rfl⟩))]
              rfl
            rw [this,List.map_id]
          rw [e1]
          simp only [List.map_cons]
          rw [dputV,if_pos rfl]
          exact .cons hy r
        · have ne : ¬ keyD l = keyD k := λ z => e (keyD_inj z)
          have e1 : putK ((l,v) :: kvs) k y = (l,v) :: putK kvs k y := by
            unfold putK
            rw [List.any_cons]
            have : decide ((l,v).1 = k) = false := decide_eq_false e
            rw [this,Bool.false_or]
            split
            · rw [List.map_cons,if_neg e]
            · rfl
          rw [e1]
          simp only [List.map_cons]
          rw [dputV,if_neg ne]
          exact .cons h (ih r n2)
def dcD : D→Option (Bool × List D × List D)
  | .fd t ks vs => some (t,ks,vs)
  | .dc _ t ks vs => some (t,ks,vs)
  | _ => none
theorem Is.dcD_inv {K : PySem.W.Frag} {H : Hp} {v : V} {d : D} {t : Bool} {ks vs : List D} (h : Is K H v d) (e : dcD d = some (t,ks,vs)) : ∃ a u us,v = .ref a∧Rd H a u∧dOf u = some (t,ks,us)∧IsAll K H us vs := by
  cases d with
  | fd t' ks' vs' => cases e; obtain ⟨a,o,u,us,rfl,h1,h2,h3⟩ := h.fd_inv; exact ⟨a,u,us,rfl,.inr ⟨o,h1⟩,h2,h3⟩
  | dc a t' ks' vs' => cases e; obtain ⟨rfl,u,us,h1,h2,h3⟩ := h.dc_inv; exact ⟨a,u,us,rfl,.inl h1,h2,h3⟩
  | _ => cases e
def KeyT (t : Bool) (kd : D) : Prop := match t with
  | true => ∃ k : List Key,kd = .tup (k.map keyD)
  | false => ∃ k : Key,kd = keyD k
theorem dget_of {K : PySem.W.Frag} {H : Hp} {a : Addr} {u : HO} {us : List V} {t : Bool} {ks vs : List D} {kd : D} {y : V} (h1 : Rd H a u) (h2 : dOf u = some (t,ks,us)) (h3 : IsAll K H us vs) (hy : Is K H y kd) (hk : KeyT t kd) :
    ∃ o,DGet H a y o ∧ (∀ d,dlook ks vs kd = some d → ∃ v,o = some v ∧ Is K H v d) ∧ (kd ∉ ks → o = none) ∧ (kd ∈ ks → o.isSome = true) := by
  cases u with
  | dK kvs =>
    obtain ⟨nd,rfl,rfl,rfl⟩ := dOf_k h2
    obtain ⟨k,rfl⟩ := hk
    exact ⟨valV kvs k,.inl ⟨kvs,k,h1,hy.key,rfl⟩,look_k k h3⟩
  | dT kvs =>
    obtain ⟨nd,rfl,rfl,rfl⟩ := dOf_t h2
    obtain ⟨k,rfl⟩ := hk
    obtain ⟨b,xs,rfl,hb,hx⟩ := hy.tupH_inv
    cases hx.keys
    exact ⟨valV kvs k,.inr ⟨kvs,k,b,h1,rfl,hb,rfl⟩,look_t k h3⟩
  | _ => cases h2
open Classical in
noncomputable def inK (kd : D) (ks : List D) : Bool := decide (kd∈ks)
open Classical in
theorem inK_iff {kd : D} {ks : List D} : inK kd ks = true↔kd∈ks := by unfold inK; exact decide_eq_true_iff
theorem inK_opt {α : Type} {kd : D} {ks : List D} {o : Option α} (h1 : kd ∉ ks→o = none) (h2 : kd∈ks→o.isSome = true) : o.isSome = inK kd ks := by
  by_cases h : kd ∈ ks
  · rw [h2 h,inK_iff.mpr h]
  · rw [h1 h]
    exact (Bool.eq_false_iff.mpr λ z => h (inK_iff.mp z)).symm
theorem dputV_fz {kd d : D} (fd : Fz d) : ∀ {ks vs : List D},(∀ d∈vs,Fz d)→∀ x∈dputV ks vs kd d,Fz x
  | [],vs,fv,x,hx => by
    have e : dputV [] vs kd d = [d] := by unfold dputV; rfl
    rw [e] at hx
    rw [List.mem_singleton.mp hx]
    exact fd
  | k :: ks,[],fv,x,hx => by
    have e : dputV (k :: ks) [] kd d = [d] := by unfold dputV; rfl
    rw [e] at hx
    rw [List.mem_singleton.mp hx]
    exact fd
  | k :: ks,w :: ws,fv,x,hx => by
    rw [dputV] at hx
    by_cases e : k = kd
    · rw [if_pos e] at hx
      rcases List.mem_cons.mp hx with rfl | hx
      · exact fd
      · exact fv x (List.mem_cons_of_mem _ hx)
    · rw [if_neg e] at hx
      rcases List.mem_cons.mp hx with rfl | hx
      · exact fv _ List.mem_cons_self
      · exact dputV_fz fd (λ d hd => fv d (List.mem_cons_of_mem _ hd)) x hx
theorem nd_put {κ : Type} [DecidableEq κ] {kvs : List (κ × V)} (k : κ) (v : V) (hn : (kvs.map (·.1)).Nodup) : ((putK kvs k v).map (·.1)).Nodup := by
  unfold putK
  by_cases h : (kvs.any λ kv => decide (kv.1 = k)) = true
  · rw [if_pos h,List.map_map]
    have : kvs.map ((·.1) ∘ λ kv => if kv.1 = k then (kv.1,v) else kv) = kvs.map (·.1) := List.map_congr_left λ p _ => by
      show (if p.1 = k then (p.1,v) else p).1 = p.1
      split <;> rfl
    rw [this]
    exact hn
  · rw [if_neg h,List.map_append]
    refine nd_snoc hn λ z => h ?_
    obtain ⟨p,hp,e⟩ := List.mem_map.mp z
    exact List.any_eq_true.mpr ⟨p,hp,decide_eq_true e⟩
theorem dput_of {K : PySem.W.Frag} {H : Hp} {a : Addr} {u : HO} {us : List V} {t : Bool} {ks vs : List D} {kd d : D} {y v : V} (h1 : H a = some u) (h2 : dOf u = some (t,ks,us)) (h3 : IsAll K H us vs) (fv : ∀ d∈vs,Fz d) (hy : Is K H y kd) (hk : KeyT t kd) (hv : Is K H v d) (fd : Fz d) (hl : ks.length < 1000000) :
    ∃ u' us',DPut H a y v (upd H a u') ∧ dOf u' = some (t,dputK ks kd,us') ∧ KT H (upd H a u') ∧ IsAll K (upd H a u') us' (dputV ks vs kd d) := by
  have key : ∀ u' : HO,KT H (upd H a u') := λ u' => upd_keep h1 (λ _ z => by subst z; cases h2) (λ _ _ z => by subst z; cases h2)
  cases u with
  | dK kvs =>
    obtain ⟨nd,rfl,rfl,rfl⟩ := dOf_k h2
    obtain ⟨k,rfl⟩ := hk
    obtain ⟨p1,p2⟩ := put_k k hv h3
    have nd' : ((putK kvs k v).map (·.1)).Nodup := nd_put k v nd
    refine ⟨.dK (putK kvs k v),_,.inl ⟨kvs,k,h1,hy.key,?_,rfl⟩,by rw [dOf_k' nd',p1],key _,(p2 nd).keep (key _) (dputV_fz fd fv)⟩
    rw [List.length_map] at hl
    rw [sizeLine_eq]
    omega
  | dT kvs =>
    obtain ⟨nd,rfl,rfl,rfl⟩ := dOf_t h2
    obtain ⟨k,rfl⟩ := hk
    obtain ⟨b,xs,rfl,hb,hx⟩ := hy.tupH_inv
    cases hx.keys
    obtain ⟨p1,p2⟩ := put_t k hv h3
    have nd' : ((putK kvs k v).map (·.1)).Nodup := nd_put k v nd
    refine ⟨.dT (putK kvs k v),_,.inr ⟨kvs,k,b,h1,rfl,hb,?_,rfl⟩,by rw [dOf_t' nd',p1],key _,(p2 nd).keep (key _) (dputV_fz fd fv)⟩
    rw [List.length_map] at hl
    rw [sizeLine_eq]
    omega
  | _ => cases h2
section
variable {X : Cx} {e a b c : Expr} {es : List Expr} {ρ : Ro} {d f kd : D} {ds ks vs : List D} {t : Bool} {pos : Pos} {rest : List Stmt} {P : Po}
theorem room1 {m : Nat} (hr : Room m X.A) : X.A.units + 1 < cLine := by have := hr.units; omega
theorem ev_dget {m : Nat} (hr : Room m X.A) (ha : Ev X a ρ f) (hf : dcD f = some (t,ks,vs)) (hb : Ev X b ρ kd) (hk : KeyT t kd) (hl : dlook ks vs kd = some d) (hs : NoSl b := by exact λ _ _ => rfl) : Ev X (.Subscript a b pos) ρ d :=
  PE.imp (pe_dget (room1 hr) ha hb hs) λ σ H Q ⟨r,q⟩ => ⟨r,λ x H1 s1 h1 => ⟨r.mono s1,λ y H2 s2 h2 => by
    obtain ⟨l,u,us,rfl,g1,g2,g3⟩ := (h1.mono s2).dcD_inv hf
    obtain ⟨o,g4,g5,_,_⟩ := dget_of g1 g2 g3 h2 hk
    obtain ⟨v,rfl,g6⟩ := g5 d hl
    exact ⟨l,v,rfl,g4,q v H2 (s1.trans s2) g6⟩⟩⟩
theorem et_dnotin {m : Nat} (hr : Room m X.A) (ha : Ev X a ρ kd) (hb : Ev X b ρ f) (hf : dcD f = some (t,ks,vs)) (hk : KeyT t kd) (h1 : behindInMarks .NotIn b = false := by rfl) : Et X (.Compare a [.NotIn] [b] pos) ρ (!inK kd ks) :=
  PT.imp (pt_cmp (pc_dnotin (room1 hr) ha hb) h1) λ σ H Q ⟨r,q⟩ => ⟨r,λ y H1 s1 h1 => ⟨r.mono s1,λ x H2 s2 h2 => by
    obtain ⟨l,u,us,rfl,g1,g2,g3⟩ := h2.dcD_inv hf
    obtain ⟨o,g4,_,g5,g6⟩ := dget_of g1 g2 g3 (h1.mono s2) hk
    exact ⟨l,o,rfl,g4,_,rfl,by rw [inK_opt g5 g6]; exact q H2 (s1.trans s2)⟩⟩⟩
theorem do_setND (n : Nat) {x : Str} {pos' : Pos} (he : EvND X e ρ t ks vs) (hz : ∀ d∈vs,Fz d) (h : ∀ l,¬ Mu ρ l→Do X rest (ρ.set n (some (.dc l t ks vs))) P) (hN : X.N.Nodup) (hi : X.N[n]? = some x := by rfl) (hx : Loc X.env.scope x := by first | exact Or.inl rfl | exact Or.inr rfl)
    (hs : swapsWith e (some (.Name x pos')) pos.line X.env = pure false := by rfl) (hf : X.fn x = true ∨ X.env.scope.names.lookup x = some .local := by first | exact .inl rfl | exact .inr rfl) : Do X (.Assign [.Name x pos'] e pos :: rest) ρ P := by
  refine do_seq (M := λ ρ' => ∃ l,¬ Mu ρ l ∧ ρ' = ρ.set n (some (.dc l t ks vs))) (PS.imp (ps_set hN hi hx he hs hf) ?_) (λ _ ⟨l,hl,z⟩ => z ▸ h l hl)
  rintro D σ H ⟨r,q1,q2,q3,q4⟩
  refine ⟨r.e,λ l u us H' hl s e1 e2 h' => q1 _ H' _ (Go.set s λ a z => ?_) ((r.mono s).set (.dc e1 e2 h') n (.inr (.inr (.dc hz))) λ a z => ?_) ⟨l,λ m => ?_,rfl⟩⟩
  · cases z
    exact .inr hl
  · cases z
    exact r.same.free hl
  · obtain ⟨ys,z,_⟩ := r.mu m
    rw [hl] at z
    cases z
theorem do_dput (n : Nat) {m : Nat} {x : Str} {l : Addr} {p1 p2 : Pos} (hr : Room m X.A) (hρ : ρ[n]? = some (some (.dc l t ks vs))) (hb : Ev X b ρ kd) (hk : KeyT t kd) (hc : Ev X c ρ d) (hz : Fz d) (hl : ks.length < 1000000) (hothers : ∀ (j : Nat) (d' : D),j≠n→ρ[j]? = some (some d')→ownA d'≠some l)
    (h : Do X rest (ρ.set n (some (.dc l t (dputK ks kd) (dputV ks vs kd d)))) P) (hN : X.N[n]? = some x := by rfl) (hv : Vis X.env.scope x := by first | exact Or.inl rfl | exact Or.inr (Or.inl rfl) | exact Or.inr (Or.inr rfl))
    (hd : (x == ("__debug__" : Str)) = false := by decide) (hcd : (x == ("__classdict__" : Str)) = false := by decide) (hs : swapsWith c (some (.Subscript (.Name x p1) b p2)) pos.line X.env = pure false := by rfl) :
    Do X (.Assign [.Subscript (.Name x p1) b p2] c pos :: rest) ρ P := by
  refine do_seq (M := λ ρ' => ρ' = ρ.set n (some (.dc l t (dputK ks kd) (dputV ks vs kd d)))) (PS.imp (ps_dput (room1 hr) (pe_var hN hv hd hcd) hb hc hs) ?_) (λ _ z => z ▸ h)
  rintro D σ H ⟨r,q1,q2,q3,q4⟩
  refine ⟨r.e,λ v H1 s1 hv1 => ?_⟩
  have r1 := r.mono s1
  obtain ⟨w,e1,h1,h2⟩ := r1.val n _ hρ
  obtain ⟨rfl,_⟩ := h1.dc_inv
  have fvs : ∀ e ∈ vs,Fz e := by
    rcases h2 with z | z | z
    · cases z
    · obtain ⟨_,u,us,z,_⟩ := z.dc_inv
      rw [r.own l ⟨n,_,hρ,rfl⟩] at z
      cases z
    · cases z with | dc f => exact f
  refine ⟨_,e1,r1.e,λ y H2 s2 hy => ?_⟩
  have r2 := r1.mono s2
  obtain ⟨_,u,us,g1,g2,g3⟩ := (h1.mono s2).dc_inv
  obtain ⟨u',us',p3,p4,kt,p5⟩ := dput_of g1 g2 g3 fvs hy hk (hv1.mono s2) hz hl
  refine ⟨l,_,rfl,p3,?_⟩
  have h0 : X.H₀ l = none := r.own l ⟨n,_,hρ,rfl⟩
  have same : Same X.H₀ (upd H2 l u') := λ b o h => by
    rw [upd_ne (ne_of_none h h0)]
    exact r2.same b o h
  have go : Go ρ H (ρ.set n (some (.dc l t (dputK ks kd) (dputV ks vs kd d)))) (upd H2 l u') := by
    refine ⟨λ b o h nm => ?_,?_⟩
    · have : b ≠ l := λ z => nm (z ▸ ⟨n,_,hρ,rfl⟩)
      rw [upd_ne this]
      exact s2 _ _ (s1 _ _ h)
    · rintro a ⟨j,es,hj,hw⟩
      rcases set_get hj with ⟨rfl,rfl,_⟩ | ⟨_,hj⟩
      · cases hw
        exact .inl ⟨_,_,hρ,rfl⟩
      · exact .inl ⟨j,es,hj,hw⟩
  have own : ∀ a,Mu (ρ.set n (some (.dc l t (dputK ks kd) (dputV ks vs kd d)))) a → X.H₀ a = none := by
    rintro a ⟨j,es,hj,hw⟩
    rcases set_get hj with ⟨rfl,rfl,_⟩ | ⟨_,hj⟩
    · cases hw
      exact h0
    · exact r.own a ⟨j,es,hj,hw⟩
  have fz : ∀ x ∈ dputV ks vs kd d,Fz x := dputV_fz hz fvs
  refine q1 _ _ _ go ⟨same,by simp [r.len],λ j e' hj => ?_,own⟩ rfl
  rcases set_get hj with ⟨rfl,rfl,_⟩ | ⟨hne,hj⟩
  · exact ⟨.ref l,e1,.dc upd_same p4 p5,.inr (.inr (.dc fz))⟩
  · obtain ⟨u2,f1,f2,f3⟩ := r2.val j e' hj
    refine ⟨u2,f1,?_,f3⟩
    rcases f3 with z | z | z
    · exact f2.keep kt z
    · exact z.mono same
    · exact z.keep f2 kt λ a ha => upd_ne (λ z => hothers j e' hne hj (z ▸ ha))
end
def SpND (K : PySem.W.Frag) (Pf : List D→Bool→List D→List D→Prop) : Sp := λ vs H Q _ => ∃ ds t ks ws,IsAll K H vs ds∧Pf ds t ks ws∧∀ a u us H',H a = none→Same H H'→H' a = some u→dOf u = some (t,ks,us)→IsAll K H' us ws→Q (.ref a) H'
def FnND (P : Program) (w : World) (K : PySem.W.Frag) (mg : Str→Option Value) (base : Heap) (k : Nat) (x : Str) (Pf : List D→Bool→List D→List D→Prop) : Prop :=
  ∃ f fd ps,FnOk P w K mg base CX0 k f fd ps (SpND K Pf) ∧ mg x = some (.ref f) ∧ PySem.W.keepIn K (.ref f) = true ∧ Binds K fd ps []
section
variable {X : Cx} {e : Expr} {es : List Expr} {ρ : Ro} {ds ks vs : List D} {t : Bool} {pos : Pos}
theorem evnd_call {k : Nat} {x : Str} {Pf : List D→Bool→List D→List D→Prop} {p : Pos} (C : FnND X.prog X.w X.K X.mg X.base k x Pf) (hr : Room k X.A) (ha : EvA X (e :: es) ρ ds) (hp : Pf ds t ks vs) (hg : Gl X x := by rfl) (hdb : (x == ("__debug__" : Str)) = false := by decide)
    (he : starEach (e :: es) X.env = (false,eval e X.env) :: starEach es X.env := by rfl) (hpl : (backTo pos (starEach es X.env)).any (·.1) = false := by rfl) : EvND X (.Call (.Name x p) (e :: es) [] pos) ρ t ks vs := by
  obtain ⟨f,fd,ps,F,hm,hk,hb⟩ := C
  refine PE.imp (pe_call F hr hg hm hk hb .nil pass0 ha hdb he hpl) ?_
  rintro σ H Q ⟨r,q⟩
  refine ⟨r,λ ws H1 s1 h1 => ⟨ds,t,ks,vs,?_,hp,λ v u us H' hv s' e' e2 h' => q v u us H' (s1.free hv) (s1.trans s') e' e2 h'⟩⟩
  rw [List.append_nil]
  exact h1
end
section
variable {P : Program} {w : World} {K : PySem.W.Frag} {mg : Str→Option Value} {base : Heap}
theorem fnnd_mk {x qual : Str} {st : Stmt} {f : Addr} {fd : FuncData} {N ps : List Str} {k : Nat} {Pf : List D→Bool→List D→List D→Prop} (F : Fun K x qual st f fd) (S : FnScope N ps (defScope st)) (hm : mg x = some (.ref f)) (hb : Binds K fd ps [])
    (hl : ∀ ds t ks vs,Pf ds t ks vs → ds.length = ps.length ∧ ∀ d ∈ ds,ownA d = none)
    (hbody : ∀ (cdv : Value) (A : Around) (outer : List Env) (s : Shared) (H : Hp) (E : XK),Room k (A.deeper (envOfC qual (defScope st) s.heap.objs.size f cdv)) → ∀ ds t ks vs,Pf ds t ks vs →
      Do (cxD P w K mg base N qual st f cdv A outer s H E) (defBody st) (ini N ds) { nx := λ _ => False,rt := λ d' => ∃ l,d' = .dc l t ks vs }) : FnND P w K mg base (k + 1) x Pf := by
  refine ⟨f,fd,ps,F.ok S (λ vs H Q E h => ?_) (λ cdv A outer s H vs Q E hr h => ?_),hm,F.kp,hb⟩
  · obtain ⟨ds,t,ks,ws,h1,h2,_⟩ := h
    rw [h1.length]
    exact (hl ds t ks ws h2).1
  · obtain ⟨ds,t,ks,ws,h1,h2,q⟩ := h
    refine ⟨_,hbody cdv A outer s H E hr ds t ks ws h2,?_⟩
    refine ⟨relS_start (X := cxD P w K mg base N qual st f cdv A outer s H E) h1 (hl ds t ks ws h2).2,λ _ _ _ _ _ z => z.elim,λ v H' d' sm hv fr z => ?_,λ _ _ _ _ _ z => z.elim,λ _ _ _ _ _ z => z.elim⟩
    obtain ⟨l,z⟩ : ∃ l,d' = .dc l t ks ws := z
    subst z
    obtain ⟨rfl,u,us,e1,e2,e3⟩ := hv.dc_inv
    exact q l u us H' (fr l rfl) sm e1 e2 e3
end
end FL
namespace FO
open PySem PySem.Spec PyProof.Rows
set_option maxRecDepth 100000
section
variable {prog : Program} {w : World} {A : Around} {E : Value→Shared→Prop} {s : Shared}
theorem type_kw {T nid : String} {B : Builtin} {as : List Value} {kw : List (Str × Value)} {S : PySem.Spec} {Q : Value→Shared→Prop} (ft : TypeCalled T nid "object.__init__")
    (hct : checkTypeCall T ⟨as,kw⟩ = pure ()) (hcn : checkBuiltinCall nid ⟨.type T :: as,kw⟩ = pure ()) (hok : ∀ obj,argsOk "object.__init__" ⟨obj :: as,kw⟩)
    (entryN : entryFor table nid = some B) (g : Meets (B ⟨.type T :: as,kw⟩) S)
    (gi : ∀ obj,Meets (Builtin.«object.__init__» ⟨obj :: as,kw⟩) (λ _ R s => s.TypeIs obj T ∧ R (.ok (.ret .none)) s))
    (h : S A.in1 (wants (λ obj s₁ => s₁.TypeIs obj T ∧ Q obj s₁) E) s) : wpAny (model prog w) A (call (.type T) as kw) Q E s := by
  obtain ⟨c0,tl0,hmro⟩ := ft.mro
  have made' := ft.made
  have sub' := ft.sub
  refine wpAny_call (codeAny_of_tree ?_); show wpAny _ _ (callAny (.type T) _) _ _ _
  refine wpAny_pure ⟨Code.quiet_builtin _ (by decide +kernel),codeAny_builtin PySem.F.entry_type_call ?_⟩; rw [Around.under_plain (weight_type_call_type T as kw) (units_type_call_type T as kw)]
  have n1 := ft.notType
  have n2 := ft.canCreate
  repeat (any_goals (first | assumption | wp_step))
  refine codeAny_mono (codeAny_call_builtin ft.plain entryN (wpAny_of_eq hcn (g prog w A.in1 _ s h))) ?_
  intro r s1 hr
  cases r with
  | error e => exact hr
  | ok fl =>
    cases fl with
    | ret obj =>
      obtain ⟨hT,hq⟩ := hr
      have l1 := ft.init.lookup
      have l2 := ft.init.bind obj
      repeat (any_goals (first | assumption | wp_step))
      refine codeAny_mono (codeAny_call_builtin ft.init.plain PySem.F.entry_object_init (ft.init.check _ _ _ _ _ _ _ _ hT (hok obj) (gi obj prog w A.in1 (wants (λ r s2 => r = .none ∧ Q obj s2) E) s1 ⟨hT,rfl,hq⟩))) ?_
      intro r2 s2 hr2
      cases r2 with
      | error e => exact hr2
      | ok f2 =>
        cases f2 with
        | ret r =>
          obtain ⟨rfl,hq2⟩ := hr2
          repeat (any_goals (first | assumption | wp_step))
        | _ => exact hr2.elim
    | _ => exact hr.elim
theorem new_from1 (l : Addr) (items : Array Value) (n : Nat) (dct : Option Addr) (sl : Array (Option Value)) (t : Tok) :
    Meets (Builtin.«enumerate.__new__» ⟨[.type "enumerate",.ref l],[(Str.ofString "start",.int 1 t)]⟩) (λ _ R s => s.heap.get? l = some { cls := .type "list",dict := dct,data := .seq items n,slots := sl } ∧
      R (.ok (.ret (.ref (s.heap.push { cls := .type "list_iterator",data := .fields #[.ref l,.int 0 0] }).objs.size)))
        { s with heap := (s.heap.push { cls := .type "list_iterator",data := .fields #[.ref l,.int 0 0] }).push { cls := .type "enumerate",data := .fields #[.none,.bool false,.ref s.heap.objs.size,rawInt 1,.none,.none] } }) :=
  .of_wp λ prog w A R s h => by
    obtain ⟨hp,gg,dd,tt,oo⟩ := s
    obtain ⟨hl,h⟩ := h
    have su := sub_enumerate
    have hL : Heap.IsList (Shared.heap ⟨hp,gg,dd,tt,oo⟩) l items := ⟨_,hl,rfl,n,rfl⟩
    wp_walk using AutoSeq1.wpAny_loadPart' hl
    refine wpAny_stack_any λ frames => wpAny_pure ?_
    split
    · rename_i c _ _ _ _ _
      cases (c == Value.type "enumerate") <;> wp_walk using AutoSeq1.wpAny_loadPart' hl,wpAny_pyIter_list hL
      all_goals exact ⟨_,rfl,h⟩
    · wp_walk using AutoSeq1.wpAny_loadPart' hl,wpAny_pyIter_list hL
      exact ⟨_,rfl,h⟩
theorem init_kw {obj a v : Value} {k : Str} : Meets (Builtin.«object.__init__» ⟨[obj,a],[(k,v)]⟩) (λ _ R s => s.TypeIs obj "enumerate"∧R (.ok (.ret .none)) s) := by
  refine Meets.of_wp λ prog w A R s hs => ?_
  obtain ⟨hT,hq⟩ := hs
  have m1 := PySem.F.called_enumerate.made
  have m2 := PySem.F.called_enumerate.init.lookup
  repeat (any_goals (first | assumption | wp_step))
  exact ⟨_,rfl,hq⟩
theorem call_enum1 {l : Addr} {items : Array Value} {t : Tok} {Q : Value→Shared→Prop} (hl : s.heap.IsList l items)
    (h : ∀ h',IsEnum h' (s.heap.objs.size + 1) s.heap.objs.size 1 .none → h'.IsListIter s.heap.objs.size l 0 → h'.objs.size = s.heap.objs.size + 2 →
      (∀ b o,s.heap.get? b = some o → h'.get? b = some o) → Q (.ref (s.heap.objs.size + 1)) { s with heap := h' }) :
    wpAny (model prog w) A (call (.type "enumerate") [.ref l] [(Str.ofString "start",.int 1 t)]) Q E s := by
  obtain ⟨⟨cl,dct,data,sl⟩,ho,hc,n,hd⟩ := hl
  simp only at hc hd
  subst hc hd
  refine type_kw PySem.F.called_enumerate (by kernel_rfl) (by kernel_rfl) (λ obj => by unfold argsOk; kernel_rfl) PySem.F.entry_enumerate_new (new_from1 l items n dct sl t) (λ obj => init_kw) ⟨ho,?_⟩
  have hz := Heap.size_push s.heap { cls := .type "list_iterator",data := .fields #[.ref l,.int 0 0] }
  have g1 := Heap.get?_push_size (s.heap.push { cls := .type "list_iterator",data := .fields #[.ref l,.int 0 0] }) (o := { cls := .type "enumerate",data := .fields #[.none,.bool false,.ref s.heap.objs.size,rawInt 1,.none,.none] }) rfl
  rw [hz] at g1
  show _ ∧ _
  rw [hz]
  exact ⟨⟨_,g1,rfl⟩,h _ g1 ⟨_,Heap.get?_push_of_some _ (Heap.get?_push_size _ rfl),rfl,rfl⟩ (by rw [Heap.size_push,hz]) λ b o x => Heap.get?_push_of_some _ (Heap.get?_push_of_some _ x)⟩
theorem enum_item {e it l : Addr} {i : Nat} {k : Int} {items : Array Value} {x old : Value} {Q : Option Value→Shared→Prop}
    (he : IsEnum s.heap e it k old) (hit : s.heap.IsListIter it l i) (hl : s.heap.IsList l items) (hx : items[i]? = some x) (hne : e ≠ it)
    (hQ : ∀ h',IsEnumOut h' e it (k + 1) x s.heap.objs.size → h'.IsListIter it l (i + 1) → h'.get? s.heap.objs.size = some { cls := .type "tuple",data := .seq #[.int k s.toks,x] } → h'.objs.size = s.heap.objs.size + 1 →
      (∀ b o,b ≠ e → b ≠ it → s.heap.get? b = some o → h'.get? b = some o) → Q (some (.ref s.heap.objs.size)) { s with heap := h',toks := s.toks + 1 }) :
    wpAny (model prog w) A (pyNext (.ref e)) Q E s := by
  have tE : s.TypeIs (.ref e) "enumerate" := ⟨_,he,rfl⟩
  unfold pyNext; refine wpAny_bind (wpAny_attempt (wpAny_callSpecial?_slot (name := Str.ofString "__next__") tE PySem.F.slot_enumerate_next (wpAny_call_entry PySem.F.slot_enumerate_next tE PySem.F.entry_enumerate_next ?_ (PySem.F.args_enumerate_next_1 _))))
  obtain ⟨hp,gg,dd,tt,oo⟩ := s
  show wpAny (model prog w) A.in1 (field (.ref e) 2 >>= _) _ _ _; refine wpAny_bind (wpAny_field he rfl (x := .ref it) rfl (wpAny_bind (wpAny_nextOf_list_item hit hl hx λ h1 i1 b1 => ?_)))
  have b1' : Heap.SameBut it hp h1 := b1
  have e1 : IsEnum h1 e it k old := (b1'.2 e hne).trans he
  refine wpAny_bind (wpAny_field e1 rfl (x := rawInt k) rfl (wpAny_bind (wpAny_field e1 rfl (x := .none) rfl (wpAny_bind (wpAny_mkInt ?_)))))
  refine wpAny_bind (wpAny_setField_rec e1 (by simp) λ h2 e2 b2 => wpAny_bind (wpAny_setField_rec e2 (by simp) λ h3 e3 b3 => wpAny_bind (wpAny_newTuple ?_)))
  have b2' : Heap.SameBut e h1 h2 := b2
  have b3' : Heap.SameBut e h2 h3 := b3
  have e3' : IsEnum h3 e it (k + 1) old := e3
  have z3 : h3.objs.size = hp.objs.size := by rw [b3'.1,b2'.1,b1'.1]
  have le : e < hp.objs.size := Heap.lt_size he
  show wpAny (model prog w) A.in1 (Builtin.SmallTypes.ownedTupleIsFree (.ref e) >>= _) _ _ ⟨h3.push { cls := .type "tuple",data := .seq #[.int k tt,x] },gg,dd,tt + 1,oo⟩
  rw [show h3.objs.size = hp.objs.size from z3]
  generalize h4e : h3.push { cls := .type "tuple",data := .seq #[.int k tt,x] } = h4
  have e4 : IsEnum h4 e it (k + 1) old := by rw [← h4e]; exact Heap.get?_push_of_some _ e3'
  have t4 : h4.get? hp.objs.size = some { cls := .type "tuple",data := .seq #[.int k tt,x] } := by rw [← h4e,← z3]; exact Heap.get?_push_size _ rfl
  have z4 : h4.objs.size = hp.objs.size + 1 := by rw [← h4e,Heap.size_push,z3]
  have k4 : ∀ b o,b ≠ e → b ≠ it → hp.get? b = some o → h4.get? b = some o := λ b o be bi hb => by
    rw [← h4e]
    exact Heap.get?_push_of_some _ (b3'.extBut b o be (b2'.extBut b o be (b1'.extBut b o bi hb)))
  have i4 : h4.IsListIter it l (i + 1) := by
    obtain ⟨o,ho,r⟩ := (i1.extBut b2'.extBut (Ne.symm hne)).extBut b3'.extBut (Ne.symm hne)
    exact ⟨o,by rw [← h4e]; exact Heap.get?_push_of_some _ ho,r⟩
  clear h4e e3 e3' e2 b3 b2 b3' b2' e1 b1 b1' i1 z3
  unfold Builtin.SmallTypes.ownedTupleIsFree
  refine wpAny_bind (wpAny_bind (wpAny_field e4 rfl (x := .none) rfl (wpAny_pure ?_)))
  simp only [if_true]
  refine wpAny_bind (wpAny_rule (wpAny_bind (wpAny_field e4 rfl (x := old) rfl (wpAny_bind (wpAny_setField_rec e4 (by simp) λ h5 e5 b5 => ?_)))))
  have b5' : Heap.SameBut e h4 h5 := b5
  have e5' : IsEnum h5 e it (k + 1) x := e5
  unfold Builtin.SmallTypes.ownedTupleHandOut
  refine wpAny_bind (wpAny_bind (wpAny_setField_rec e5' (by simp) λ h6 e6 b6 => ?_))
  have b6' : Heap.SameBut e h5 h6 := b6
  have e6' : IsEnumOut h6 e it (k + 1) x hp.objs.size := e6
  refine wpAny_setField_rec e6' (by simp) λ h7 e7 b7 => ?_
  have b7' : Heap.SameBut e h6 h7 := b7
  have ne : hp.objs.size ≠ e := Nat.ne_of_gt le
  refine wpAny_bind (wpAny_letGo (wpAny_pure ⟨_,rfl,wpAny_pure (hQ h7 e7 ?_ ?_ ?_ ?_)⟩))
  · exact ((i4.extBut b5'.extBut (Ne.symm hne)).extBut b6'.extBut (Ne.symm hne)).extBut b7'.extBut (Ne.symm hne)
  · exact b7'.extBut _ _ ne (b6'.extBut _ _ ne (b5'.extBut _ _ ne t4))
  · rw [b7'.1,b6'.1,b5'.1,z4]
  · exact λ b o be bi hb => b7'.extBut b o be (b6'.extBut b o be (b5'.extBut b o be (k4 b o be bi hb)))
theorem enum_end {e it l : Addr} {i : Nat} {k : Int} {items : Array Value} {old : Value} {Q : Option Value→Shared→Prop} (hh : A.handled = none)
    (he : IsEnum s.heap e it k old) (hit : s.heap.IsListIter it l i) (hl : s.heap.IsList l items) (hx : items[i]? = none)
    (hQ : ∀ h',Heap.ExtBut it s.heap h' → Q none { s with heap := h' }) : wpAny (model prog w) A (pyNext (.ref e)) Q E s := by
  have tE : s.TypeIs (.ref e) "enumerate" := ⟨_,he,rfl⟩
  unfold pyNext; refine wpAny_bind (wpAny_attempt (wpAny_callSpecial?_slot (name := Str.ofString "__next__") tE PySem.F.slot_enumerate_next (wpAny_call_entry PySem.F.slot_enumerate_next tE PySem.F.entry_enumerate_next ?_ (PySem.F.args_enumerate_next_1 _))))
  show wpAny (model prog w) A.in1 (field (.ref e) 2 >>= _) _ _ _
  refine wpAny_bind (wpAny_field he rfl (x := .ref it) rfl (wpAny_bind (wpAny_nextOf_list_end hh hit hl hx λ h' x eb xb => ?_)))
  obtain ⟨ob,ho,hc⟩ := xb
  exact wpAny_bind (wpAny_isInstance (T := "StopIteration") (b := true) ⟨ob,ho,hc⟩ isSubtype_stop (wpAny_pure (hQ _ eb)))
end
end FO
namespace FL
open PySem PySem.Spec PyProof.Rows L2
theorem Inv.turnLay {X : Cx} {pins : List (Addr × Obj)} {σ : L2.St} {H : Hp} {s : Shared} {e it T : Addr} {o : HO} {h' : Heap} {t' : Nat} (I : L2.Inv X pins σ H s)
    (k : ∀ b ob,b ≠ e → b ≠ it → s.heap.get? b = some ob → h'.get? b = some ob) (fe : FpOk X pins H e) (fi : FpOk X pins H it) (hT : s.heap.objs.size ≤ T) (new : ObjOk X.prog X.w (upd H T o) h' T o) : L2.Inv X pins σ (upd H T o) { s with heap := h',toks := t' } := by
  obtain ⟨e0,e1,e2,e3,e4,e5⟩ := fe
  obtain ⟨i0,i1,i2,i3,i4,i5⟩ := fi
  have hn : H T = none := I.hok.fresh hT
  have ne : ∀ b u,H b = some u → b ≠ e ∧ b ≠ it ∧ b ≠ T := λ b u q => ⟨(λ z => by rw [z,e0] at q; cases q),(λ z => by rw [z,i0] at q; cases q),λ z => by rw [z,hn] at q; cases q⟩
  have nc : ∀ b,b ∉ [e,it] → b ≠ e ∧ b ≠ it := λ b hb => ⟨λ z => hb (by simp [z]),λ z => hb (by simp [z])⟩
  refine I.step (H' := upd H T o) (h' := h') (g' := s.gens) (d' := s.drawn) (t' := t') (ch := [e,it]) (λ b hb => ?_) (λ b ob _ _ hc q _ => k b ob (nc b hc).1 (nc b hc).2 q) (λ b ob _ _ hc q _ => ⟨ob.slots,k b ob (nc b hc).1 (nc b hc).2 q⟩) (λ b ob _ q n => ?_)
    (λ b ob hc q => ⟨ob,k b ob (nc b hc).1 (nc b hc).2 q⟩) (λ b xs q => by rw [upd_ne (ne b _ q).2.2]; exact q) (λ b ob u q => by rw [upd_ne (ne b _ q).2.2]; exact q) (λ b ps q => ⟨#[],by rw [upd_ne (ne b _ q).2.2,q]; simp⟩) (λ m hm => ?_) (λ b u q => ?_) I.bare
  · rcases List.mem_cons.mp hb with rfl | hb
    · exact ⟨e3,e1,e4,e5⟩
    · rcases List.mem_cons.mp hb with rfl | hb
      · exact ⟨i3,i1,i4,i5⟩
      · cases hb
  · rw [upd_ne (Nat.ne_of_lt (Nat.lt_of_lt_of_le (Heap.lt_size q) hT))]
    exact n
  · obtain ⟨ob,es,ep,ho,r⟩ := hm
    exact ⟨ob,es,ep,k _ ob (Ne.symm e1) (Ne.symm i1) ho,r⟩
  · by_cases z : b = T
    · subst z
      rw [upd_same] at q
      cases q
      exact new
    · rw [upd_ne z] at q
      refine (I.hok b u q).stay (λ c v hc q2 => ?_) (λ c q2 => by rw [upd_ne (ne c _ q2).2.2]; exact q2) λ c xs q2 => by rw [upd_ne (ne c _ q2).2.2]; exact q2
      rcases hc with rfl | hc
      · exact k c v (ne c _ q).1 (ne c _ q).2.1 q2
      · exact k c v (ne c _ hc).1 (ne c _ hc).2.1 q2
def ItE (K : PySem.W.Frag) (a : Addr) (lo : Int) : It :=
  ⟨λ i H => ∃ xs x,SqL K H a xs ∧ xs[i]? = some x,λ i H x H' => ∃ T y,x = .ref T ∧ H T = none ∧ (∀ xs,SqL K H a xs → xs[i]? = some y) ∧ H' = upd H T (.tup [.int (lo + i),y]),λ i H => ∃ xs,SqL K H a xs ∧ xs.length ≤ i⟩
theorem turn_enum {P : Program} {w : World} {K : PySem.W.Frag} {elts : List Expr} {kk : Nat} {pos : Pos} {lo : Int} (a e it : Addr) (hne : e≠it) : Turn P w K (.Tuple elts kk pos) (ItE K a lo) [e,it] e (λ i h => (∃ old,IsEnum h e it (lo + (i : Nat)) old)∧h.IsListIter it a i) where
  mem := by simp
  obj := λ i h st b hb => by
    obtain ⟨⟨old,he⟩,o,ho,c,d⟩ := st
    rcases List.mem_cons.mp hb with rfl | hb
    · exact ⟨_,he,λ v z => by cases z⟩
    · rcases List.mem_cons.mp hb with rfl | hb
      · exact ⟨o,ho,λ v z => by rw [d] at z; cases z⟩
      · cases hb
  keep := λ i h h' st k => by
    obtain ⟨⟨old,he⟩,st⟩ := st
    exact ⟨⟨old,k e (by simp) _ he⟩,st.at λ o q => k it (by simp) o q⟩
  item := by
    intro X hP hw hK hc i pins s σ H E I hf st hg
    subst hP hw hK
    obtain ⟨⟨old,he⟩,st⟩ := st
    obtain ⟨xs,x,hq,hx⟩ := hg
    obtain ⟨its,rv,p,hz⟩ := I.list hq
    obtain ⟨u,hu,ru⟩ := rv.get hx
    have fe := hf e (by simp)
    have fi := hf it (by simp)
    refine FO.enum_item he st p.isList (x := u) (by simpa using hu) hne λ h' ho st' ht hsz hk => ⟨_,rfl,?_⟩
    have hT : H s.heap.objs.size = none := I.hok.fresh (Nat.le_refl _)
    have I1 : L2.Inv X pins σ (upd H s.heap.objs.size (.tup [.int (lo + i),x])) { s with heap := h',toks := s.toks + 1 } := by
      refine Inv.turnLay I hk fe fi (Nat.le_refl _) ⟨?_,[.int (lo + i) s.toks,u],.cons ⟨_,rfl⟩ (.cons ru .nil),_,ht,rfl,_,rfl⟩
      show 2 ≤ sizeLine
      rw [sizeLine_eq]
      decide
    refine wpAny_letOwnedTupleGo_enum (s := { s with heap := h',toks := s.toks + 1 }) ho λ h2 he2 sb2 => ?_
    have sb : Heap.SameBut e h' h2 := sb2
    have el : e < s.heap.objs.size := Heap.lt_size he
    have il : it < s.heap.objs.size := by obtain ⟨_,q,_⟩ := st; exact Heap.lt_size q
    obtain ⟨e0,e1,e2,e3,e4,e5⟩ := fe
    have ne0 : upd H s.heap.objs.size (.tup [.int (lo + i),x]) e = none := by rw [upd_ne (Nat.ne_of_lt el)]; exact e0
    have I2 := I1.turned (t' := s.toks + 1) (h' := h2) (it := e) (λ b o hb q => (sb.2 b hb).trans q) ne0 e1 e3 e4 e5
    refine ⟨.ref s.heap.objs.size,_,I2,rfl,⟨_,x,rfl,hT,λ ys hy => by rw [I.list_inj hy hq]; exact hx,rfl⟩,⟨⟨u,?_⟩,st'.at λ o q => (sb.2 it (Ne.symm hne)).trans q⟩,λ b hb => ?_⟩
    · have e6 : lo + ((i + 1 : Nat) : Int) = lo + (i : Int) + 1 := by omega
      rw [e6]
      exact he2
    · rcases List.mem_cons.mp hb with rfl | hb
      · exact ne0
      · rcases List.mem_cons.mp hb with rfl | hb
        · rw [upd_ne (Nat.ne_of_lt il)]
          exact fi.1
        · cases hb
  done := by
    intro X hP hw hK hc i pins s σ H E I hf st hg
    subst hP hw hK
    obtain ⟨⟨old,he⟩,st⟩ := st
    obtain ⟨xs,hq,hx⟩ := hg
    obtain ⟨its,rv,p,hz⟩ := I.list hq
    obtain ⟨f0,f1,f2,f3,f4,f5⟩ := hf it (by simp)
    have hl := rv.length
    exact FO.enum_end (I.ok.hd hc) he st p.isList (by simp; omega) λ h' eb => ⟨rfl,I.turned (t' := s.toks) (λ b o hb q => eb b o hb q) f0 f1 f3 f4 f5⟩
  self := λ _ _ _ _ _ st h => by
    obtain ⟨⟨old,he⟩,_⟩ := st
    exact wpAny_pyIter_enum he h
theorem callWith_tyKw {M : Model} {A : Around} {E : Value→Shared→Prop} {s : Shared} {pos : Pos} {T : String} {args : List (Bool × Sem Value)} {kws : List (Option Str × Sem Value)} {Q : Value→Shared→Prop} (h1 : args.any (·.1) = false) (h2 : kws.any (·.1.isNone) = false)
    (h : wpAny M A (evalArgs (.type T) true args kws) (λ a s' => wpAny M A (call (.type T) ([] ++ a.pos) a.kw) Q E s') E s) : wpAny M A (callWith pos (.type T) [] args kws) Q E s := by
  unfold callWith
  refine wpAny_bind (wpAny_holding (wpAny_mono h (λ a s1 q => wpAny_bind (wpAny_standAt ?_)) λ _ _ z => z)); simp only [h1,h2,Bool.or_false]
  exact wpAny_bind (wpAny_pure (wpAny_bind (wpAny_mono q (λ r s2 hr => wpAny_bind (wpAny_holding (wpAny_point (wpAny_pure hr)))) λ _ _ z => z)))
section
variable {X : Cx} {e a b c tg : Expr} {es : List Expr} {ρ : Ro} {d d' : D} {ds : List D} {pos : Pos} {i j : Int} {rest A B : List Stmt} {P : Po}
def SrcE (X : Cx) (Ok : Ro→Prop) (J : It) (ρ : Ro) (H : Hp) (lo : Int) (ds : List D) : Prop :=
  ∀ ρ' H3 σ3,Go ρ H ρ' H3 → RelS X X.H₀ H3 σ3 ρ' → Ok ρ' → (∀ i,ds.length ≤ i → J.stop i H3) ∧ ∀ i d,ds[i]? = some d → J.go i H3 ∧ ∀ x H4,J.yld i H3 x H4 → ∃ T y,x = .ref T ∧ H3 T = none ∧ H4 = upd H3 T (.tup [.int (lo + (i : Nat)),y]) ∧ Is X.K H3 y d
def WkE (X : Cx) (Ok : Ro→Prop) (tg e : Expr) (ρ : Ro) (lo : Int) (ds : List D) : Prop := PI X tg e (λ σ H R => RelS X X.H₀ H σ ρ∧∀ J H',Same H H'→SrcE X Ok J ρ H' lo ds→R J H')
theorem wk_enum1 {elts : List Expr} {kk m : Nat} {tp p kp kp2 : Pos} (hm : X.mg "enumerate" = none) (he : Ev X a ρ (.fl ds)) (hz : ∀ d∈ds,Fz d) (hg : Gl X "enumerate" := by rfl)
    (h1 : starEach [a] X.env = [(false,eval a X.env)] := by rfl) : WkE X (λ _ => True) (.Tuple elts kk tp) (.Call (.Name "enumerate" p) [a] [⟨some "start",.Constant (.int 1) m kp,kp2⟩] pos) ρ 1 ds := by
  intro pins s σ H R I ⟨r,q⟩
  refine wpAny_Call_Name_kw (ld_blt (u := .type "enumerate") I hg hm (by decide +kernel) ?_)
  have hA := (ea_cons he ea_nil h1) pos pins s σ H (λ vs H1 => ∃ v,vs = [v] ∧ Same H H1 ∧ Is X.K H1 v (.fl ds)) I ⟨r.e,λ vs H1 s1 h => by obtain ⟨v,rfl,h'⟩ := one_inv h; exact ⟨v,rfl,s1,h'⟩⟩
  rw [h1] at hA ⊢
  refine callWith_tyKw rfl rfl (PyProof.Rows.evalArgs_kwB rfl (thn hA λ us s1 ⟨vs,H1,I1,rv,v,e1,sm,hv⟩ => ?_))
  subst e1
  obtain ⟨l,ob,xs,rfl,hl,hxs⟩ := hv.fl_inv
  obtain ⟨u,rfl,ru⟩ := vals1 rv
  cases ru
  refine PyProof.Rows.kws_cons (thn ((ev_int (z := 1) (m := m) (pos := kp) : Ev X _ ρ (.int 1)) pins s1 σ H1 (λ x H2 => Same H1 H2 ∧ x = .int 1) I1 ⟨r.e.mono sm,λ x H2 s2 h => ⟨s2,h.int_inv⟩⟩) λ k s2 ⟨x,H2,I2,rx,s12,e2⟩ => PyProof.Rows.kws_nil ?_)
  subst e2
  obtain ⟨t,rfl⟩ := rx
  have hl2 := s12 _ _ hl
  have hxs2 := hxs.mono s12
  obtain ⟨its,rv2,pl,hsz⟩ := I2.list (.inl (.inr ⟨ob,hl2⟩) : SqL X.K H2 l xs)
  refine FO.call_enum1 pl.isList λ h' he' hit hz' hk => ?_
  have I3 := I2.kept (h' := h') (t' := s2.toks) hk
  have f1 : FpOk X pins H2 (s2.heap.objs.size + 1) := I2.fpOk (Nat.le_succ _) (I2.hok.fresh (Nat.le_succ _))
  have f2 : FpOk X pins H2 s2.heap.objs.size := I2.fpOk (Nat.le_refl _) (I2.hok.fresh (Nat.le_refl _))
  refine wpAny_pyIter_enum (s := { s2 with heap := h' }) he' ⟨_,[s2.heap.objs.size + 1,s2.heap.objs.size],_,ItE X.K l 1,H2,rfl,I3,turn_enum l (s2.heap.objs.size + 1) s2.heap.objs.size (Nat.succ_ne_self _),⟨⟨.none,he'⟩,hit⟩,λ b hb => ?_,q _ H2 (sm.trans s12) ?_⟩
  · rcases List.mem_cons.mp hb with rfl | hb
    · exact f1
    · rcases List.mem_cons.mp hb with rfl | hb
      · exact f2
      · cases hb
  · intro ρ' H3 σ3 g r3 _
    have kt : KT H2 H3 := g.kt (r.mono (sm.trans s12))
    have hl3 := kt.2 _ _ _ hl2
    have hx3 := hxs2.keep kt hz
    have sq : SqL X.K H3 l xs := .inl (.inr ⟨ob,hl3⟩)
    refine ⟨λ i hi => ⟨xs,sq,by rw [hx3.length]; exact hi⟩,λ i d hd => ?_⟩
    obtain ⟨y,hy,iy⟩ := hx3.get hd
    refine ⟨⟨xs,y,sq,hy⟩,?_⟩
    rintro x H4 ⟨T,y',rfl,hT,all,rfl⟩
    have hy' := all xs sq
    rw [hy] at hy'
    cases hy'
    exact ⟨T,y,rfl,hT,rfl,iy⟩
theorem do_for2 (n1 n2 : Nat) {x y : Str} {p1 p2 tp : Pos} {kk : Nat} {Ok : Ro→Prop} {lo : Int} (Iv : Nat→Ro→Prop) (M : Ro→Prop) (hp : PassesOwn (model X.prog X.w) X.A X.env X.xe) (hc : X.calm = true) (he : WkE X Ok (.Tuple [.Name x p1,.Name y p2] kk tp) e ρ lo ds) (hz : ∀ d∈ds,Fz d) (hok : ∀ i ρ,Iv i ρ→Ok ρ) (h0 : Iv 0 ρ)
    (hs : ∀ (i : Nat) (d : D) (ρ : Ro),ds[i]? = some d → Iv i ρ → Do X A ((ρ.set n1 (some (.int (lo + (i : Nat))))).set n2 (some d)) { nx := Iv (i + 1),rt := P.rt,bk := M,ct := Iv (i + 1) }) (hd : ∀ ρ,Iv ds.length ρ → M ρ)
    (h : ∀ ρ',M ρ' → Do X rest ρ' P) (hN : X.N.Nodup) (hi1 : X.N[n1]? = some x := by rfl) (hi2 : X.N[n2]? = some y := by rfl) (hx1 : Loc X.env.scope x := by first | exact Or.inl rfl | exact Or.inr rfl) (hx2 : Loc X.env.scope y := by first | exact Or.inl rfl | exact Or.inr rfl)
    (hf1 : X.fn x = true ∨ X.env.scope.names.lookup x = some .local := by first | exact .inl rfl | exact .inr rfl) (hf2 : X.fn y = true ∨ X.env.scope.names.lookup y = some .local := by first | exact .inl rfl | exact .inr rfl) (hset : ∀ x,foldedSetIterable e X.env x = pure x := by intro _; rfl) : Do X (.For (.Tuple [.Name x p1,.Name y p2] kk tp) e A [] pos :: rest) ρ P := by
  refine do_seq (M := M) ?_ h
  have hb : PSs X A (λ D σ H => ∃ i d ρ,ds[i]? = some d ∧ Iv i ρ ∧ tPo X ((ρ.set n1 (some (.int (lo + (i : Nat))))).set n2 (some d)) { nx := Iv (i + 1),rt := P.rt,bk := M,ct := Iv (i + 1) } D σ H) :=
    λ pins s σ H D I ⟨i,d,ρ,e1,e2,q⟩ => hs i d ρ e1 e2 pins s σ H D I q
  refine PS.imp (ps_for hp hc he (pg_tup hc (pgs_cons (pg_name hN hi1 hx1 hf1) (pgs_cons (pg_name hN hi2 hx2 hf2) pgs_nil))) hb hset) ?_
  rintro D σ H ⟨r,q1,q2,q3,q4⟩
  refine ⟨r,λ J H1 s1 src => ?_⟩
  have g1 : Go ρ H ρ H1 := Go.same s1
  refine ⟨λ i m σ' H' => m = ds.length - i ∧ i ≤ ds.length ∧ ∃ ρ',Iv i ρ' ∧ RelS X X.H₀ H' σ' ρ' ∧ Go ρ H1 ρ' H',⟨ds.length,by simp,Nat.zero_le _,ρ,h0,r.mono s1,Go.refl ρ H1⟩,?_⟩
  rintro i m σ' H' ⟨rfl,hil,ρ',iv,r',g⟩
  obtain ⟨stop,go⟩ := src ρ' H' σ' g r' (hok i ρ' iv)
  by_cases hlt : i < ds.length
  · obtain ⟨g0,y⟩ := go i ds[i] (by simp [hlt])
    refine .inr ⟨g0,λ σ2 H2 => ∃ ρ2,Iv (i + 1) ρ2 ∧ RelS X X.H₀ H2 σ2 ρ2 ∧ Go ρ H1 ρ2 H2,λ σ2 H2 p2 => ⟨ds.length - (i + 1),by omega,rfl,hlt,p2⟩,λ v H4 hy => ?_⟩
    obtain ⟨T,w,rfl,hT,rfl,hw⟩ := y v H4 hy
    have sm : Same H' (upd H' T (.tup [.int (lo + (i : Nat)),w])) := same_new hT
    have fz : Fz ds[i] := hz _ (List.getElem_mem hlt)
    have r2 := (r'.mono sm).set (.int (lo + (i : Nat))) n1 (.inl (.int _)) (λ a z => by cases z)
    have r3 := r2.set (hw.mono sm) n2 (.inl fz) (λ a z => (fz.no_own z).elim)
    have g2 : Go ρ H1 ((ρ'.set n1 (some (.int (lo + (i : Nat))))).set n2 (some ds[i])) (upd H' T (.tup [.int (lo + (i : Nat)),w])) :=
      g.trans ((Go.set sm λ a z => by cases z).trans (Go.set (Same.refl _) λ a z => (fz.no_own z).elim))
    refine ⟨T,[.int (lo + (i : Nat)),w],rfl,.of upd_same,rfl,_,_,rfl,_,_,rfl,rfl,i,ds[i],ρ',by simp [hlt],iv,r3,?_,q2,?_,?_⟩
    · exact λ σ2 H2 ρ2 g' r2 iv2 => ⟨ρ2,iv2,r2,g2.trans g'⟩
    · exact λ σ2 H2 ρ2 g' r2 m => q1 σ2 H2 ρ2 (g1.trans (g2.trans g')) r2 m
    · exact λ σ2 H2 ρ2 g' r2 iv2 => ⟨ρ2,iv2,r2,g2.trans g'⟩
  · have e : i = ds.length := by omega
    subst e
    exact .inl ⟨stop _ (Nat.le_refl _),q1 σ' H' ρ' (g1.trans g) r' (hd ρ' iv)⟩
end
end FL
namespace FO
open PySem PySem.Spec PyProof.Rows
set_option maxRecDepth 100000
section
variable {prog : Program} {w : World} {A : Around} {E : Value→Shared→Prop} {s : Shared} {d : Addr} {es : Array DictEntry} {ep : Nat}
end
end FO
namespace FL
open PySem PySem.Spec PyProof.Rows L2
section
variable {X : Cx} {e a b c tg : Expr} {es : List Expr} {ρ : Ro} {d d' : D} {ds ks vs : List D} {t : Bool} {pos : Pos} {rest A B : List Stmt} {P : Po}
end
end FL
namespace FO
open PySem PySem.Spec PyProof.Rows
set_option maxRecDepth 100000
section
variable {prog : Program} {w : World} {A : Around} {E : Value→Shared→Prop} {s : Shared} {d : Addr} {es : Array DictEntry} {ep : Nat}
end
end FO
namespace FL
open PySem PySem.Spec PyProof.Rows L2
section
variable {X : Cx} {e : Expr} {ρ : Ro} {ks vs : List D} {t : Bool} {pos : Pos} {x : Str} {px : Pos}
end
end FL
namespace FT
open PySem PySem.W PySem.Spec PySem.Calls PyProof.Rows L2 FL
def isrt (ns : List Int) : List Int := ns.mergeSort λ a b => decide (a≤b)
theorem isrt_perm (ns : List Int) : (isrt ns).Perm ns := List.mergeSort_perm _ _
theorem isrt_up (ns : List Int) : (isrt ns).Pairwise (·≤·) := by
  have h := List.pairwise_mergeSort (le := λ a b : Int => decide (a ≤ b)) (λ a b c x y => by
    simp only [decide_eq_true_eq] at x y ⊢
    omega) (λ a b => by
    simp only [Bool.or_eq_true,decide_eq_true_eq]
    omega) ns
  exact h.imp λ x => by simpa using x
theorem isrt_eq {l ns : List Int} (hp : l.Perm ns) (hu : l.Pairwise (·≤·)) : l = isrt ns :=
  List.Perm.eq_of_pairwise (λ _ _ _ _ x y => Int.le_antisymm x y) hu (isrt_up ns) (hp.trans (isrt_perm ns).symm)
theorem isorted_out {n : Nat} {ts : List Int} {p : Array Nat} (hn : ts.length = n) (hp : Pm n p) (hu : Up (λ i => ts.getD i 0) p n) : (p.toList.map λ i => ts.getD i 0) = isrt ts := by
  have h1 : p.toList.Perm (List.range n) := by simpa using Array.perm_iff_toList_perm.mp hp
  have h2 := h1.map λ i => ts.getD i 0
  have h3 : (List.range n).map (λ i => ts.getD i 0) = ts := by
    refine List.ext_getElem (by simp [hn]) λ i a b => ?_
    simp [b]
  rw [h3] at h2
  refine isrt_eq h2 ?_
  have sz := hp.size
  rw [List.pairwise_iff_getElem]
  intro i j a b hij
  simp only [List.length_map,Array.length_toList] at a b
  have h := hu i j (Nat.le_of_lt hij) (by omega)
  have ei : p.getD i 0 = p[i] := by simp [Array.getD,a]
  have ej : p.getD j 0 = p[j] := by simp [Array.getD,b]
  unfold kv at h
  rw [ei,ej] at h
  simp only [List.getElem_map,Array.getElem_toList]
  exact h
theorem int_at : ∀ {ns : List Int} {us : List Value} (i : Nat),IntsAre us ns→i < us.length→∃ t,us.getD i Value.none = .int (ns.getD i 0) t
  | _,_,i,.nil,h => by simp at h
  | _,_,0,.cons n t _,_ => ⟨t,rfl⟩
  | _,_,i + 1,.cons n t r,h => by
    obtain ⟨t',e⟩ := int_at i r (by simpa using h)
    exact ⟨t',by simpa using e⟩
theorem intsAre_len : ∀ {ns : List Int} {us : List Value},IntsAre us ns→us.length = ns.length
  | _,_,.nil => rfl
  | _,_,.cons _ _ r => by simp [intsAre_len r]
theorem intsAre_mem : ∀ {ns : List Int} {us : List Value},IntsAre us ns→∀ v∈us,∃ n t,v = .int n t
  | _,_,.nil,v,h => by cases h
  | _,_,.cons n t r,v,h => by
    rcases List.mem_cons.mp h with rfl | h
    · exact ⟨n,t,rfl⟩
    · exact intsAre_mem r v h
section
variable {X : Cx} {pins : List (Addr × Obj)} {σ : L2.St} {H : Hp} {s : Shared}
variable {e : Expr} {ρ : Ro} {d : D} {pos p : Pos} {ns : List Int}
end
end FT
namespace FL
open PySem PySem.W PySem.Spec PySem.Calls PyProof.Rows L2 FT
section
variable {X : Cx}
variable {a b : Expr} {ρ : Ro} {f : D} {ns : List Int} {k : Int}
end
section
variable {X : Cx} {a : Expr} {ρ : Ro} {t k : Bool} {ks vs ds : List D} {pos : Pos}
end
section
variable {X : Cx} {e tg : Expr} {ρ : Ro} {ds : List D}
end
end FL
namespace CM
open PySem MG
def rowB (m a n : Nat) : Nat := Nat.rec 0 (λ t acc => Nat.add acc (cond (Nat.beq ((((t - a) + (a - t)) * ((t - a) + (a - t)) + m) % (4 * a)) 0) 1 0)) n
def rowA (m n : Nat) : Nat := Nat.rec 0 (λ a acc => Nat.add acc (rowB m (a + 1) (2 * (a + 1) + 1))) n
def rowC (lo n : Nat) : Bool := Nat.rec true (λ j acc => and (Nat.ble (rowA (lo + j) 20) 63) acc) n
theorem rowC_at {lo : Nat} : ∀ {n : Nat},rowC lo n = true→∀ j,j < n→rowA (lo + j) 20≤63
  | n + 1,h,j,hj => by
    have h' : (Nat.ble (rowA (lo + n) 20) 63 && rowC lo n) = true := h
    simp only [Bool.and_eq_true] at h'
    by_cases e : j = n
    · subst e; exact Nat.le_of_ble_eq_true h'.1
    · exact rowC_at h'.2 j (by omega)
theorem rows_few : ((List.range 13).all λ q => rowC (100 * q) 100) = true := by decide +kernel
theorem lfN_rowB {m a : Nat} (ha : 0 < a) : ∀ n : Nat,(lfN (-(m : Int)) (a : Int) n).length≤rowB m a n
  | 0 => Nat.zero_le _
  | n + 1 => by
    have ih := lfN_rowB (m := m) ha n
    rw [lfN_succ,List.length_append]
    show _ ≤ rowB m a n + (cond (Nat.beq ((((n - a) + (a - n)) * ((n - a) + (a - n)) + m) % (4 * a)) 0) 1 0)
    by_cases c : lfC (-(m : Int)) (a : Int) (-(a : Int) + (n : Int)) = true
    · rw [if_pos c]
      have c' : ((-(a : Int) + (n : Int)) * (-(a : Int) + (n : Int)) - -(m : Int)) % (4 * (a : Int)) = 0 := by
        unfold lfC at c
        simp only [Bool.and_eq_true,decide_eq_true_eq] at c
        exact c.1
      have ed : (((n - a) + (a - n) : Nat) : Int) * (((n - a) + (a - n) : Nat) : Int) = (-(a : Int) + (n : Int)) * (-(a : Int) + (n : Int)) := by
        rcases Nat.le_total a n with z | z
        · have : (((n - a) + (a - n) : Nat) : Int) = -(a : Int) + (n : Int) := by omega
          rw [this]
        · have : (((n - a) + (a - n) : Nat) : Int) = -(-(a : Int) + (n : Int)) := by omega
          rw [this]
          grind
      generalize (n - a) + (a - n) = d at *
      have e0 : (d * d + m) % (4 * a) = 0 := by
        have : (((d * d + m) % (4 * a) : Nat) : Int) = 0 := by
          rw [Int.natCast_emod]
          push_cast
          rw [ed]
          have e2 : (-(a : Int) + (n : Int)) * (-(a : Int) + (n : Int)) - -(m : Int) = (-(a : Int) + (n : Int)) * (-(a : Int) + (n : Int)) + (m : Int) := by omega
          rw [← e2]
          exact c'
        omega
      rw [e0]
      show _ + 1 ≤ _ + 1
      omega
    · rw [if_neg c]
      show _ + 0 ≤ _
      omega
theorem lfs_rowA {m : Nat} : ∀ n : Nat,(lfs (-(m : Int)) n).length≤rowA m n
  | 0 => Nat.zero_le _
  | n + 1 => by
    have ih := lfs_rowA (m := m) n
    rw [lfs_succ,List.length_append]
    show _ ≤ rowA m n + rowB m (n + 1) (2 * (n + 1) + 1)
    have h : (lfA (-(m : Int)) ((n : Int) + 1)).length ≤ rowB m (n + 1) (2 * (n + 1) + 1) := by
      unfold lfA
      have e : (2 * ((n : Int) + 1) + 1).toNat = 2 * (n + 1) + 1 := by omega
      rw [e]
      exact lfN_rowB (a := n + 1) (Nat.succ_pos n) _
    omega
theorem cls_few {i : Int} (h : BarL i) (lo : -1225≤i) : (clsL i).length < 64 := by
  have n := h.d.neg
  have e : lfs i 20 = LF i := lfs_end (by decide) (by omega)
  obtain ⟨m,rfl⟩ : ∃ m : Nat,i = -(m : Int) := ⟨i.natAbs,by omega⟩
  have r := List.all_eq_true.mp rows_few (m / 100) (List.mem_range.mpr (by omega))
  have r2 := rowC_at r (m % 100) (Nat.mod_lt _ (by decide))
  rw [Nat.div_add_mod] at r2
  have r3 := lfs_rowA (m := m) 20
  rw [e] at r3
  have := List.length_filter_le bareB (LF (-(m : Int)))
  show ((LF (-(m : Int))).filter bareB).length < 64
  omega
end CM
namespace MG
theorem nodup_le {α : Type} : ∀ {l m : List α},l.Nodup→(∀ x∈l,x∈m)→l.length≤m.length
  | [],_,_,_ => Nat.zero_le _
  | x :: l,m,hl,h => by
    obtain ⟨n1,n2⟩ := List.nodup_cons.mp hl
    obtain ⟨s,t,e⟩ := List.append_of_mem (h x List.mem_cons_self)
    have := nodup_le (m := s ++ t) n2 λ y hy => by
      have h1 := h y (List.mem_cons_of_mem _ hy)
      rw [e] at h1
      rcases List.mem_append.mp h1 with z | z
      · exact List.mem_append.mpr (.inl z)
      · rcases List.mem_cons.mp z with rfl | z
        · exact absurd hy n1
        · exact List.mem_append.mpr (.inr z)
    rw [e]
    simp only [List.length_append,List.length_cons] at this ⊢
    omega
theorem least_nat {P : Nat→Prop} : ∀ n : Nat,P n→∃ m,P m∧∀ k,k < m→¬ P k := by
  intro n
  induction n using Nat.strongRecOn with
  | _ n ih =>
    intro h
    by_cases e : ∃ k,k < n ∧ P k
    · obtain ⟨k,hk,pk⟩ := e
      exact ih k hk pk
    · exact ⟨n,h,λ k hk pk => e ⟨k,hk,pk⟩⟩
section
variable {G : Type} [AbG G]
open AbG
theorem mul_cancelL {x y z : G} (h : mul z x = mul z y) : x = y := by
  rw [comm z x,comm z y] at h
  exact mul_cancelR h
theorem one_pw (n : Nat) : pw (one : G) n = one := by
  induction n with
  | zero => rfl
  | succ n ih => show mul (pw one n) one = one; rw [ih,mul_one]
theorem pw_mul (x : G) (m : Nat) : ∀ n : Nat,pw (pw x m) n = pw x (m * n)
  | 0 => rfl
  | n + 1 => by
    show mul (pw (pw x m) n) (pw x m) = pw x (m * n + m)
    rw [pw_mul x m n,pw_add]
theorem pw_rep {L : List G} (h : ∀ x : G,x∈L) (x : G) : ∃ n,0 < n∧n≤L.length∧pw x n = one := by
  by_cases e : ∃ i j,i < j ∧ j ≤ L.length ∧ pw x i = pw x j
  · obtain ⟨i,j,hij,hj,e⟩ := e
    refine ⟨j - i,by omega,by omega,?_⟩
    have e2 : pw x j = mul (pw x i) (pw x (j - i)) := by rw [← pw_add]; congr 1; omega
    have e3 : mul (pw x i) (pw x (j - i)) = mul (pw x i) one := by rw [← e2,← e,mul_one]
    exact mul_cancelL e3
  · exfalso
    have nd : ((List.range (L.length + 1)).map (pw x)).Nodup := by
      rw [List.nodup_iff_pairwise_ne,List.pairwise_map]
      have r := List.pairwise_lt_range (n := L.length + 1)
      refine r.imp_of_mem λ {a b} ha hb hab z => e ⟨a,b,hab,?_,z⟩
      have := List.mem_range.mp hb
      omega
    have := nodup_le nd λ y _ => h y
    rw [List.length_map,List.length_range] at this
    omega
class FinG (G : Type) [AbG G] where
  all : List G
  mem : ∀ x : G,x ∈ all
variable [FinG G]
theorem ord_ex (x : G) : ∃ n,(0 < n∧pw x n = one)∧∀ k,k < n→¬ (0 < k∧pw x k = one) := by
  obtain ⟨n,h1,_,h2⟩ := pw_rep (FinG.mem (G := G)) x
  exact least_nat n ⟨h1,h2⟩
noncomputable def ord (x : G) : Nat := Classical.choose (ord_ex x)
theorem ord_pos (x : G) : 0 < ord x := (Classical.choose_spec (ord_ex x)).1.1
theorem pw_ord (x : G) : pw x (ord x) = one := (Classical.choose_spec (ord_ex x)).1.2
theorem ord_min {x : G} {k : Nat} (h0 : 0 < k) (h : pw x k = one) : ord x≤k :=
  Nat.not_lt.mp λ z => (Classical.choose_spec (ord_ex x)).2 k z ⟨h0,h⟩
theorem ord_le (x : G) : ord x≤(FinG.all (G := G)).length := by
  obtain ⟨n,h1,h2,h3⟩ := pw_rep (FinG.mem (G := G)) x
  exact Nat.le_trans (ord_min h1 h3) h2
theorem pw_mod (x : G) (n : Nat) : pw x (n % ord x) = pw x n := by
  have e : n = ord x * (n / ord x) + n % ord x := (Nat.div_add_mod n (ord x)).symm
  have e2 : pw x n = mul (pw x (ord x * (n / ord x))) (pw x (n % ord x)) := by rw [← pw_add,← e]
  rw [e2,← pw_mul,pw_ord,one_pw,one_mul]
theorem pw_one_iff {x : G} {n : Nat} : pw x n = one↔ord x ∣ n := by
  constructor
  · intro h
    rw [← pw_mod] at h
    have l := Nat.mod_lt n (ord_pos x)
    by_cases z : 0 < n % ord x
    · have := ord_min z h
      omega
    · exact Nat.dvd_of_mod_eq_zero (by omega)
  · rintro ⟨k,rfl⟩
    rw [← pw_mul,pw_ord,one_pw]
theorem ord_of {x : G} {n : Nat} (h0 : 0 < n) (h : ∀ k,pw x k = one↔n ∣ k) : ord x = n :=
  Nat.dvd_antisymm (pw_one_iff.mp ((h n).mpr (Nat.dvd_refl n))) ((h (ord x)).mp (pw_ord x))
theorem ord_pw (x : G) (m : Nat) : ord (pw x m) = ord x / Nat.gcd (ord x) m := by
  have op := ord_pos x
  have gp : 0 < Nat.gcd (ord x) m := Nat.gcd_pos_of_pos_left m op
  have gl := Nat.gcd_dvd_left (ord x) m
  have gr := Nat.gcd_dvd_right (ord x) m
  have cop : Nat.Coprime (ord x / Nat.gcd (ord x) m) (m / Nat.gcd (ord x) m) := Nat.coprime_div_gcd_div_gcd gp
  refine ord_of (Nat.div_pos (Nat.le_of_dvd op gl) gp) λ k => ?_
  rw [pw_mul,pw_one_iff]
  generalize hg : Nat.gcd (ord x) m = g at *
  obtain ⟨u,hu⟩ := gl
  obtain ⟨v,hv⟩ := gr
  have e1 : ord x / g = u := by rw [hu]; exact Nat.mul_div_cancel_left u gp
  have e2 : m / g = v := by rw [hv]; exact Nat.mul_div_cancel_left v gp
  rw [e1,e2] at cop
  rw [e1,hu,hv,Nat.mul_assoc]
  constructor
  · intro h
    exact cop.dvd_of_dvd_mul_left (Nat.dvd_of_mul_dvd_mul_left gp h)
  · intro h
    exact Nat.mul_dvd_mul_left g (Nat.dvd_trans h (Nat.dvd_mul_left k v))
noncomputable def rnd (x : G) : List G := (List.range (ord x)).map λ k => pw x (k + 1)
theorem rnd_len (x : G) : (rnd x).length = ord x := by unfold rnd; rw [List.length_map,List.length_range]
theorem rnd_get {x : G} {k : Nat} (h : k < ord x) : (rnd x)[k]? = some (pw x (k + 1)) := by
  unfold rnd
  rw [List.getElem?_map,List.getElem?_range h]
  rfl
theorem mem_rnd {x y : G} : y∈rnd x↔∃ n : Nat,pw x n = y := by
  unfold rnd
  rw [List.mem_map]
  have op := ord_pos x
  constructor
  · rintro ⟨k,_,e⟩
    exact ⟨k + 1,e⟩
  · rintro ⟨n,e⟩
    refine ⟨(n + (ord x - 1)) % ord x,List.mem_range.mpr (Nat.mod_lt _ op),?_⟩
    rw [← e]
    have e2 : pw x ((n + (ord x - 1)) % ord x + 1) = mul (pw x (n + (ord x - 1))) x := by
      show mul (pw x ((n + (ord x - 1)) % ord x)) x = _
      rw [pw_mod]
    rw [e2]
    show pw x (n + (ord x - 1) + 1) = pw x n
    have e3 : n + (ord x - 1) + 1 = n + ord x := by omega
    rw [e3,pw_add,pw_ord,mul_one]
theorem every (x : G) {m : Nat} (hm : 0 < m) : (List.range (ord x / Nat.gcd (ord x) m)).map (λ k => pw x ((m * (k + 1) - 1) % ord x + 1)) = rnd (pw x m) := by
  unfold rnd
  rw [ord_pw]
  refine List.map_congr_left λ k _ => ?_
  rw [pw_mul]
  have e : pw x ((m * (k + 1) - 1) % ord x + 1) = mul (pw x (m * (k + 1) - 1)) x := by
    show mul (pw x ((m * (k + 1) - 1) % ord x)) x = _
    rw [pw_mod]
  rw [e]
  show pw x (m * (k + 1) - 1 + 1) = _
  congr 1
  have : 0 < m * (k + 1) := Nat.mul_pos hm (Nat.succ_pos k)
  omega
end
end MG
namespace CM
open PySem PySem.Spec L2 FL FT MG
def clsC {i : Int} (h : BarL i) : List (C i) := (clsL i).pmap (λ q hq => (⟨q,(mem_cls h).mp hq⟩ : C i)) λ _ hq => hq
theorem pmap_val {i : Int} (h : BarL i) : ∀ (l : List Q) (hl : ∀ q∈l,q∈clsL i),((l.pmap (λ q hq => (⟨q,(mem_cls h).mp hq⟩ : C i)) hl).map λ x : C i => x.1) = l
  | [],_ => rfl
  | q :: l,hl => congrArg (q :: ·) (pmap_val h l λ p hp => hl p (List.mem_cons_of_mem _ hp))
theorem clsC_val {i : Int} (h : BarL i) : ((clsC h).map λ x : C i => x.1) = clsL i := pmap_val h _ _
theorem mem_clsC {i : Int} (h : BarL i) (x : C i) : x∈clsC h := List.mem_pmap.mpr ⟨x.1,(mem_cls h).mpr x.2,rfl⟩
theorem clsC_nodup {i : Int} (h : BarL i) : (clsC h).Nodup := by
  have := MD.cls_nodup i
  rw [← clsC_val h] at this
  rw [List.nodup_iff_pairwise_ne,List.pairwise_map] at this
  rw [List.nodup_iff_pairwise_ne]
  exact this.imp λ z e => z (by rw [e])
@[reducible] def finC {i : Int} (h : BarL i) : @FinG (C i) (grp h.d) := @FinG.mk (C i) (grp h.d) (clsC h) (mem_clsC h)
section
variable {i : Int} (h : BarL i)
noncomputable def od (x : C i) : Nat := @ord (C i) (grp h.d) (finC h) x
noncomputable def rd (x : C i) : List (C i) := @rnd (C i) (grp h.d) (finC h) x
abbrev cD {i : Int} (x : C i) : D := qD x.1
noncomputable abbrev pwC (x : C i) (n : Nat) : C i := @pw (C i) (grp h.d) x n
noncomputable abbrev oneC : C i := (grp h.d).one
noncomputable def rdD (x : C i) : List D := (rd h x).map cD
noncomputable def rdN (x : C i) (n : Nat) : List D := (List.range n).map λ k => cD (pwC h x (k + 1))
theorem rdD_eq (x : C i) : rdD h x = rdN h x (od h x) := by unfold rdD rd rnd rdN; rw [List.map_map]; rfl
theorem rdN_len (x : C i) (n : Nat) : (rdN h x n).length = n := by unfold rdN; rw [List.length_map,List.length_range]
theorem rdD_len (x : C i) : (rdD h x).length = od h x := by rw [rdD_eq,rdN_len]
theorem rdN_succ (x : C i) (n : Nat) : rdN h x (n + 1) = rdN h x n ++ [cD (pwC h x (n + 1))] := by unfold rdN; rw [List.range_succ,List.map_append]; rfl
theorem od_pos (x : C i) : 0 < od h x := @ord_pos (C i) (grp h.d) (finC h) x
theorem od_le (x : C i) : od h x≤1368 := by
  have := @ord_le (C i) (grp h.d) (finC h) x
  have e : (clsC h).length = (clsL i).length := by rw [← clsC_val h,List.length_map]
  have l := cls_len2 h
  exact Nat.le_trans this (by show (clsC h).length ≤ _; omega)
theorem rdN_get (x : C i) {n k : Nat} (hk : k < n) : (rdN h x n)[k]? = some (cD (pwC h x (k + 1))) := by
  unfold rdN
  rw [List.getElem?_map,List.getElem?_range hk]
  rfl
theorem cD_inj {i : Int} {x y : C i} (e : cD x = cD y) : x = y := by
  have e' : qD x.1 = qD y.1 := e
  unfold qD formD at e'
  simp only [D.tup.injEq,List.cons.injEq,D.int.injEq,and_true] at e'
  refine Subtype.ext ?_
  obtain ⟨a,b,c⟩ := e'
  cases hx : x.1
  cases hy : y.1
  rw [hx,hy] at a b c
  simp only at a b c
  subst a b c
  rfl
theorem fzC {i : Int} (x : C i) : Fz (cD x) := fzQ _
theorem fzCs {i : Int} (l : List (C i)) : ∀ d∈l.map cD,Fz d := λ d hd => by obtain ⟨x,_,rfl⟩ := List.mem_map.mp hd; exact fzC x
theorem fzN (x : C i) (n : Nat) : ∀ d∈rdN h x n,Fz d := λ d hd => by unfold rdN at hd; obtain ⟨k,_,rfl⟩ := List.mem_map.mp hd; exact fzC _
theorem fzR (x : C i) : ∀ d∈rdD h x,Fz d := by rw [rdD_eq]; exact fzN h x _
theorem pw_ne {x : C i} {n : Nat} (h0 : 0 < n) (hn : n < od h x) : pwC h x n≠oneC h := λ z => by
  have := @ord_min (C i) (grp h.d) (finC h) x n h0 z
  unfold od at hn
  omega
theorem pw_od (x : C i) : pwC h x (od h x) = oneC h := @pw_ord (C i) (grp h.d) (finC h) x
theorem lastN (x : C i) {n : Nat} (h0 : 0 < n) : atI (rdN h x n) (-1) = some (cD (pwC h x n)) := by
  unfold atI ixN
  rw [rdN_len]
  have := rdN_get h x (n := n) (k := n - 1) (by omega)
  have e : n - 1 + 1 = n := by omega
  rw [e] at this
  rw [if_neg (by omega),if_pos (by omega)]
  have e2 : ((n : Int) + -1).toNat = n - 1 := by omega
  have e3 : ((-1 : Int) + (n : Int)).toNat = n - 1 := by omega
  first | (show (rdN h x n)[((n : Int) + -1).toNat]? = _; rw [e2]; exact this) | (show (rdN h x n)[((-1 : Int) + (n : Int)).toNat]? = _; rw [e3]; exact this)
def lenAt (ρ : Ro) (k : Nat) : Nat := match ρ[k]? with
  | some (some (.lst _ ds)) => ds.length
  | _ => 0
end
def p_round_of_class (ds es : List D) : Prop := ∃ (i : Int) (h : BarL i) (x : C i),ds = [cD x]∧es = rdD h x
def p_round_of (ds es : List D) : Prop := ∃ (i : Int) (h : BarL i) (x : C i) (q : Q),ds = [qD q]∧QJ q∧Eqv q x.1∧es = rdD h x
def p_every (ds es : List D) : Prop := ∃ (i : Int) (h : BarL i) (x : C i) (m : Nat),ds = [.fl (rdD h x),.int (m : Int)]∧0 < m∧m≤od h x∧es = rdD h (pwC h x m)
open Classical in
noncomputable def insC {α : Type} (L : List α) (y : α) : List α := if y∈L then L else L ++ [y]
theorem insC_nodup {α : Type} {L : List α} {y : α} (h : L.Nodup) : (insC L y).Nodup := by
  unfold insC
  split
  · exact h
  · rename_i n
    rw [List.nodup_append]
    exact ⟨h,by simp,λ a ha b hb e => n (by rw [← List.mem_singleton.mp hb,← e]; exact ha)⟩
theorem mem_insC {α : Type} {L : List α} {y z : α} : z∈insC L y↔z∈L∨z = y := by
  unfold insC
  split
  · rename_i n
    exact ⟨.inl,λ h => h.elim id λ e => e ▸ n⟩
  · rw [List.mem_append,List.mem_singleton]
theorem foldC_nodup {α : Type} : ∀ (ys : List α) {L : List α},L.Nodup→(ys.foldl insC L).Nodup
  | [],_,h => h
  | y :: ys,_,h => foldC_nodup ys (insC_nodup h)
theorem mem_foldC {α : Type} {z : α} : ∀ (ys : List α) {L : List α},z∈ys.foldl insC L↔z∈L∨z∈ys
  | [],L => by simp
  | y :: ys,L => by
    rw [List.foldl_cons,mem_foldC ys,mem_insC,List.mem_cons,or_assoc]
theorem putK_map {α : Type} {k : α→D} (inj : ∀ x y,k x = k y→x = y) (L : List α) (y : α) : dputK (L.map k) (k y) = (insC L y).map k := by
  unfold dputK insC
  by_cases h : y ∈ L
  · rw [if_pos h,if_pos (List.mem_map_of_mem h)]
  · rw [if_neg h,if_neg,List.map_append]
    · rfl
    · intro z
      obtain ⟨x,hx,e⟩ := List.mem_map.mp z
      exact h (inj _ _ e ▸ hx)
theorem putV_map {α : Type} {k v v' : α→D} (inj : ∀ x y,k x = k y→x = y) {y : α} {d : D} (hd : v' y = d) : ∀ {L : List α},L.Nodup→(∀ z∈L,z≠y→v' z = v z)→dputV (L.map k) (L.map v) (k y) d = (insC L y).map v'
  | [],_,_ => by
    unfold insC
    rw [if_neg (by simp)]
    show dputV [] [] (k y) d = [v' y]
    unfold dputV
    rw [hd]
  | x :: L,hn,hv => by
    obtain ⟨n1,n2⟩ := List.nodup_cons.mp hn
    have ih := putV_map inj hd n2 λ z hz => hv z (List.mem_cons_of_mem _ hz)
    show dputV (k x :: L.map k) (v x :: L.map v) (k y) d = _
    rw [dputV]
    by_cases e : x = y
    · subst e
      rw [if_pos rfl]
      unfold insC
      rw [if_pos List.mem_cons_self,List.map_cons,hd]
      congr 1
      exact List.map_congr_left λ z hz => (hv z (List.mem_cons_of_mem _ hz) λ w => n1 (w ▸ hz)).symm
    · rw [if_neg λ z => e (inj _ _ z),ih]
      have e1 : insC (x :: L) y = x :: insC L y := by
        unfold insC
        by_cases hy : y ∈ L
        · rw [if_pos hy,if_pos (List.mem_cons_of_mem _ hy)]
        · rw [if_neg hy,if_neg,List.cons_append]
          intro z
          rcases List.mem_cons.mp z with z | z
          · exact e z.symm
          · exact hy z
      rw [e1,List.map_cons,hv x List.mem_cons_self e]
section
variable {i : Int} (h : BarL i)
noncomputable def wayD (y : C i) : D := .fl (rdD h y)
open Classical in
noncomputable def rlStep (L : List (C i)) (x : C i) : List (C i) := if x∈L then L else (rd h x).foldl insC L
noncomputable def rlN (n : Nat) : List (C i) := ((clsC h).take n).foldl (rlStep h) []
noncomputable def RL : List (C i) := (clsC h).foldl (rlStep h) []
theorem rlStep_nodup {L : List (C i)} {x : C i} (hL : L.Nodup) : (rlStep h L x).Nodup := by
  unfold rlStep
  split
  · exact hL
  · exact foldC_nodup _ hL
theorem self_rd (x : C i) : x∈rd h x := (@mem_rnd (C i) (grp h.d) (finC h) x x).mpr ⟨1,@pw_one (C i) (grp h.d) x⟩
theorem rlStep_sub {L : List (C i)} {x z : C i} (hz : z∈L∨z = x) : z∈rlStep h L x := by
  unfold rlStep
  split
  · rename_i n
    exact hz.elim id λ e => e ▸ n
  · rw [mem_foldC]
    exact hz.elim .inl λ e => .inr (e ▸ self_rd h x)
theorem rl_fold_nodup : ∀ (xs : List (C i)) {L : List (C i)},L.Nodup→(xs.foldl (rlStep h) L).Nodup
  | [],_,hL => hL
  | x :: xs,_,hL => rl_fold_nodup xs (rlStep_nodup h hL)
theorem rl_fold_mem {z : C i} : ∀ (xs : List (C i)) {L : List (C i)},z∈L∨z∈xs→z∈xs.foldl (rlStep h) L
  | [],_,hz => hz.elim id λ w => by cases w
  | x :: xs,L,hz => rl_fold_mem xs (by
    rcases hz with w | w
    · exact .inl (rlStep_sub h (.inl w))
    · rcases List.mem_cons.mp w with w | w
      · exact .inl (rlStep_sub h (.inr w))
      · exact .inr w)
theorem rl_perm : (RL h).Perm (clsC h) := by
  refine (List.perm_ext_iff_of_nodup (rl_fold_nodup h _ List.nodup_nil) (clsC_nodup h)).mpr λ z => ⟨λ _ => mem_clsC h z,λ w => rl_fold_mem h _ (.inr w)⟩
include h in
theorem nd_len {L : List (C i)} (hL : L.Nodup) : L.length≤1368 := by
  have := nodup_le hL λ x _ => mem_clsC h x
  have e : (clsC h).length = (clsL i).length := by rw [← clsC_val h,List.length_map]
  have l := cls_len2 h
  omega
theorem keyTC (x : C i) : KeyT true (cD x) := ⟨[.inl x.1.a,.inl x.1.b,.inl x.1.c],rfl⟩
end
def p_rounds (ds : List D) (t : Bool) (ks vs : List D) : Prop := ∃ (i : Int) (h : BarL i),ds = [.int i]∧t = true∧ks = (RL h).map cD∧vs = (RL h).map (wayD h)
def noOwn : Option D→Bool
  | some d => (ownA d).isNone
  | none => true
theorem othersD {ρ : Ro} {n : Nat} (h : (ρ.set n none).all noOwn = true) {l : Addr} : ∀ (j : Nat) (d' : D),j≠n→ρ[j]? = some (some d')→ownA d'≠some l := λ j d hj e z => by
  have : (ρ.set n none)[j]? = some (some d) := by rw [List.getElem?_set_ne (λ z => hj z.symm)]; exact e
  have m := List.all_eq_true.mp h _ (List.mem_of_getElem? this)
  have m' : (ownA d).isNone = true := m
  rw [z] at m'
  cases m'
section
variable {i : Int} (h : BarL i)
theorem clsC_D : (clsC h).map cD = (clsL i).map qD := by rw [← clsC_val h,List.map_map]; rfl
theorem map_at? {α β : Type} {f : α→β} {l : List α} {n : Nat} {d : β} (e : (l.map f)[n]? = some d) : ∃ x,l[n]? = some x∧d = f x := by
  rw [List.getElem?_map] at e
  obtain ⟨x,h1,h2⟩ := Option.map_eq_some_iff.mp e
  exact ⟨x,h1,h2.symm⟩
theorem take_one {α : Type} {l : List α} {n : Nat} {x : α} (e : l[n]? = some x) : l.take (n + 1) = l.take n ++ [x] := by rw [List.take_succ,e]; rfl
theorem rlN_succ {n : Nat} {x : C i} (e : (clsC h)[n]? = some x) : rlN h (n + 1) = rlStep h (rlN h n) x := by unfold rlN; rw [take_one e,List.foldl_append]; rfl
theorem rlN_all : rlN h (clsC h).length = RL h := by unfold rlN RL; rw [List.take_length]
theorem rlN_nodup (n : Nat) : (rlN h n).Nodup := rl_fold_nodup h _ List.nodup_nil
theorem inC {L : List (C i)} {x : C i} : inK (cD x) (L.map cD) = true↔x∈L := by
  rw [inK_iff]
  constructor
  · intro z
    obtain ⟨y,hy,e⟩ := List.mem_map.mp z
    exact cD_inj e ▸ hy
  · exact λ z => List.mem_map_of_mem z
theorem rd_get {x y : C i} {k : Nat} (e : (rd h x)[k]? = some y) : k < od h x∧y = pwC h x (k + 1) := by
  have hk : k < (rd h x).length := (List.getElem?_eq_some_iff.mp e).1
  have hk' : k < od h x := by have := @rnd_len (C i) (grp h.d) (finC h) x; unfold rd at hk; unfold od; omega
  have := @rnd_get (C i) (grp h.d) (finC h) x k hk'
  unfold rd at e
  rw [this] at e
  exact ⟨hk',(Option.some.inj e).symm⟩
theorem putKC (L : List (C i)) (y : C i) : dputK (L.map cD) (cD y) = (insC L y).map cD := putK_map (λ _ _ => cD_inj) L y
theorem putVC {L : List (C i)} (hL : L.Nodup) (y : C i) : dputV (L.map cD) (L.map (wayD h)) (cD y) (wayD h y) = (insC L y).map (wayD h) := putV_map (λ _ _ => cD_inj) rfl hL λ _ _ _ => rfl
end
theorem look_map {α : Type} {k v : α→D} (inj : ∀ x y,k x = k y→x = y) {y : α} : ∀ {L : List α},y∈L→dlook (L.map k) (L.map v) (k y) = some (v y)
  | x :: L,hy => by
    show dlook (k x :: L.map k) (v x :: L.map v) (k y) = _
    rw [dlook]
    by_cases e : x = y
    · rw [if_pos (congrArg k e),e]
    · rw [if_neg λ z => e (inj _ _ z)]
      rcases List.mem_cons.mp hy with z | z
      · exact absurd z.symm e
      · exact look_map inj z
section
variable {i : Int} (h : BarL i)
end
theorem sqLe {a b : Int} (h0 : -a≤b) (h1 : b≤a) : b * b≤a * a := by
  have h := Int.mul_nonneg (show 0 ≤ a - b by omega) (show 0 ≤ a + b by omega)
  have e : (a - b) * (a + b) = a * a - b * b := by grind
  omega
section
variable {i : Int} (h : BarL i)
include h in
theorem cls_sz (x : C i) : Bd x.1.a 11∧Bd x.1.b 11∧Bd x.1.c 11 := by
  have pa := x.2.ok.pos
  have L := x.2.least
  have bx : x.1.b * x.1.b - 4 * x.1.a * x.1.c = i := x.2.ok.bar
  have t := least_three pa L
  have lo := h.low
  have l1 := L.lo
  have l2 := L.hi
  have l3 := L.ac
  generalize x.1.a = a at *
  generalize x.1.b = b at *
  generalize x.1.c = c at *
  have a36 : a ≤ 36 := by
    refine Int.not_lt.mp λ z => ?_
    have := sq_mono (a := 37) (b := a) (by decide) (by omega)
    omega
  have s1 : b * b ≤ a * a := sqLe (by omega) l2
  have s2 : a * a ≤ 36 * 36 := sq_mono (by omega) a36
  have s3 : 4 * c ≤ 4 * a * c := by
    have : c ≤ a * c := by
      have := Int.mul_le_mul_of_nonneg_right (show 1 ≤ a by omega) (show 0 ≤ c by omega)
      omega
    have e : 4 * a * c = 4 * (a * c) := by grind
    omega
  exact ⟨.of_lt (by omega),.of_lt (by omega),.of_lt (by omega)⟩
end
section
variable {i : Int} (h : BarL i)
theorem few_cls (lo : -1225≤i) : (clsC h).length < 64 := by
  have e : (clsC h).length = (clsL i).length := by rw [← clsC_val h,List.length_map]
  have := cls_few h lo
  omega
end
end CM
namespace FO
open PySem PySem.Spec PyProof.Rows
section
variable {prog : Program} {w : World} {A : Around} {E : Value→Shared→Prop} {s : Shared} {d : Addr} {es : Array DictEntry} {ep : Nat}
end
end FO
namespace FL
open PySem PySem.Spec PyProof.Rows L2
section
variable {X : Cx} {a b : Expr} {ρ : Ro} {t : Bool} {ks vs ds : List D} {d kd : D} {pos : Pos}
end
end FL
namespace MG
section
variable {G : Type} [AbG G]
open AbG
variable [FinG G]
end
end MG
namespace FL
open PySem PySem.Spec PyProof.Rows L2
end FL
namespace CM
open PySem PySem.Spec L2 FL FT MG
section
variable {i : Int} (h : BarL i)
end
section
variable {i : Int} (h : BarL i)
end
end CM
namespace FK
open PySem
abbrev Rs (xs : Array Nat) : Prop := xs.toList.Pairwise (· < ·)
theorem go_spec {xs : Array Nat} {j : Nat} (r : Rs xs) : ∀ (fuel lo hi : Nat),lo≤hi→hi≤xs.size→hi - lo≤fuel→(∀ k (hk : k < xs.size),k < lo→xs[k] < j)→(∀ k (hk : k < xs.size),hi≤k→j≤xs[k]) →
    SetTable.below.go xs j fuel lo hi ≤ xs.size ∧ (∀ k (hk : k < xs.size),k < SetTable.below.go xs j fuel lo hi → xs[k] < j) ∧ ∀ k (hk : k < xs.size),SetTable.below.go xs j fuel lo hi ≤ k → j ≤ xs[k]
  | 0,lo,hi,h1,h2,h3,a,b => by
    have e : hi = lo := by omega
    subst e
    exact ⟨h2,a,b⟩
  | fuel + 1,lo,hi,h1,h2,h3,a,b => by
    have rise : ∀ p q (hp : p < xs.size) (hq : q < xs.size),p ≤ q → xs[p] ≤ xs[q] := λ p q hp hq pq => by
      by_cases e : p = q
      · subst e; exact Nat.le_refl _
      · have := (List.pairwise_iff_getElem.mp r) p q (by simpa using hp) (by simpa using hq) (by omega)
        simp only [Array.getElem_toList] at this
        omega
    unfold SetTable.below.go
    by_cases c : lo < hi
    · rw [if_pos c]
      have hm : (lo + hi) / 2 < xs.size := by omega
      have e : xs.getD ((lo + hi) / 2) j = xs[(lo + hi) / 2] := by simp [Array.getD,hm]
      dsimp only
      rw [e]
      by_cases d : xs[(lo + hi) / 2] < j
      · rw [if_pos d]
        exact go_spec r fuel _ _ (by omega) h2 (by omega) (λ k hk z => Nat.lt_of_le_of_lt (rise k _ hk hm (by omega)) d) b
      · rw [if_neg d]
        exact go_spec r fuel _ _ (by omega) (by omega) (by omega) a λ k hk z => Nat.le_trans (Nat.not_lt.mp d) (rise _ k hm hk z)
    · rw [if_neg c]
      have e : hi = lo := by omega
      subst e
      exact ⟨h2,a,b⟩
theorem below_spec {xs : Array Nat} (r : Rs xs) (j : Nat) : SetTable.below xs j≤xs.size∧(∀ k (hk : k < xs.size),k < SetTable.below xs j→xs[k] < j)∧∀ k (hk : k < xs.size),SetTable.below xs j≤k→j≤xs[k] :=
  go_spec r _ _ _ (Nat.zero_le _) (Nat.le_refl _) (by omega) (λ k hk z => by omega) (λ k hk z => by omega)
theorem insert_list {α : Type} (xs : Array α) (p : Nat) (x : α) : (SetTable.insertAt xs p x).toList = xs.toList.take p ++ [x] ++ xs.toList.drop p := by
  unfold SetTable.insertAt
  simp
  exact List.take_of_length_le (by simp)
theorem put_rises {xs : Array Nat} (r : Rs xs) {j : Nat} (hj : ¬ xs[SetTable.below xs j]? = some j) : Rs (SetTable.insertAt xs (SetTable.below xs j) j) := by
  obtain ⟨h1,h2,h3⟩ := below_spec r j
  show (SetTable.insertAt xs (SetTable.below xs j) j).toList.Pairwise (· < ·)
  rw [insert_list,List.append_assoc,List.pairwise_append]
  refine ⟨r.sublist (List.take_sublist _ _),?_,?_⟩
  · refine List.pairwise_cons.mpr ⟨λ y hy => ?_,r.sublist (List.drop_sublist _ _)⟩
    obtain ⟨k,hk,rfl⟩ := List.mem_drop_iff_getElem.mp hy
    have hk' : SetTable.below xs j + k < xs.size := by simp at hk; omega
    have := h3 _ hk' (by omega)
    simp only [Array.getElem_toList]
    refine Nat.lt_of_le_of_ne this λ z => ?_
    by_cases k0 : k = 0
    · subst k0
      exact hj (by rw [Array.getElem?_eq_getElem (by omega)]; exact congrArg some z.symm)
    · have b0 : SetTable.below xs j < xs.size := by omega
      have g := (List.pairwise_iff_getElem.mp r) (SetTable.below xs j) (SetTable.below xs j + k) (by simpa using b0) (by simpa using hk') (by omega)
      simp only [Array.getElem_toList] at g
      have := h3 _ b0 (Nat.le_refl _)
      omega
  · intro a ha b hb
    obtain ⟨k,hk,rfl⟩ := List.mem_take_iff_getElem.mp ha
    have hk2 : k < xs.size := by simp at hk; omega
    have hk3 : k < SetTable.below xs j := by simp at hk; omega
    have l1 := h2 k hk2 hk3
    simp only [Array.getElem_toList]
    rcases List.mem_cons.mp hb with rfl | hb
    · exact l1
    · obtain ⟨m,hm,rfl⟩ := List.mem_drop_iff_getElem.mp hb
      have hm' : SetTable.below xs j + m < xs.size := by simp at hm; omega
      have := h3 _ hm' (by omega)
      simp only [Array.getElem_toList]
      omega
theorem below_next {xs : Array Nat} (r : Rs xs) {i : Nat} (hi : i < xs.size) : SetTable.below xs (xs[i] + 1) = i + 1 := by
  obtain ⟨h1,h2,h3⟩ := below_spec r (xs[i] + 1)
  have rise : ∀ p q (hp : p < xs.size) (hq : q < xs.size),p < q → xs[p] < xs[q] := λ p q hp hq pq => by
    have := (List.pairwise_iff_getElem.mp r) p q (by simpa using hp) (by simpa using hq) pq
    simpa using this
  refine Nat.le_antisymm (Nat.not_lt.mp λ z => ?_) (Nat.not_lt.mp λ z => ?_)
  · have a := h2 (i + 1) (by omega) z
    have b := rise i (i + 1) hi (by omega) (by omega)
    omega
  · have a := h3 i hi (by omega)
    omega
theorem below_zero {xs : Array Nat} (r : Rs xs) : SetTable.below xs 0 = 0 := by
  obtain ⟨h1,h2,h3⟩ := below_spec r 0
  refine Nat.eq_zero_of_not_pos λ z => ?_
  have := h2 0 (by omega) z
  omega
theorem laid_rises {mask finger moves : Nat} {led plain : Bool} {hs : Array Int} {t : SetTable} {o : Array Nat} (h : SetTable.laid mask finger moves led plain hs = some (t,o)) : Rs t.place∧t.led = led∧t.plain = plain∧t.dummies = #[] := by
  unfold SetTable.laid at h
  obtain ⟨ow,_,e⟩ := Option.bind_eq_some_iff.mp h
  cases e
  refine ⟨?_,rfl,rfl,rfl⟩
  show (List.map _ _).Pairwise _
  rw [List.pairwise_map]
  refine List.Pairwise.filterMap (S := λ (a b : Nat × Nat) => a.1 < b.1) _ (λ a b hab a' ha' b' hb' => ?_) (List.pairwise_lt_range)
  obtain ⟨x,_,rfl⟩ := Option.map_eq_some_iff.mp ha'
  obtain ⟨y,_,rfl⟩ := Option.map_eq_some_iff.mp hb'
  exact hab
end FK
namespace FK
open PySem
structure Tb (b : Bool) (t : SetTable) : Prop where
  led : t.led = !b
  rise : t.plain = true → Rs t.place ∧ t.dummies = #[]
theorem has_nil (j : Nat) : SetTable.has #[] j = false := by
  unfold SetTable.has
  simp
theorem slot_empty {t : SetTable} {j : Nat} (h : t.slot j = .empty) : ¬ t.place[SetTable.below t.place j]? = some j := λ z => by
  unfold SetTable.slot at h
  dsimp only at h
  rw [z] at h
  simp at h
theorem slot_nodummy {t : SetTable} (hd : t.dummies = #[]) (j : Nat) : t.slot j≠.dummy := λ z => by
  unfold SetTable.slot at z
  dsimp only at z
  rw [hd,has_nil] at z
  split at z
  · cases z
  · simp at z
theorem probe_empty {t : SetTable} (hd : t.dummies = #[]) {ha : Nat→Int} {h : Int} : ∀ (fuel : Nat) (p : SetTable.Probe) {j : Nat} {d : Option Nat},p.dummy = none→SetTable.probe.go t ha h fuel p = some (.empty j d)→d = none∧t.slot j = .empty
  | 0,p,j,d,_,e => by unfold SetTable.probe.go at e; cases e
  | fuel + 1,p,j,d,hp,e => by
    have adv : (t.advance p).dummy = none := by
      unfold SetTable.advance
      split
      · exact hp
      · exact hp
    unfold SetTable.probe.go at e
    cases c : t.slot p.j with
    | empty =>
      rw [c] at e
      simp only [Option.some.injEq,SetTable.Met.empty.injEq] at e
      obtain ⟨rfl,rfl⟩ := e
      exact ⟨hp,c⟩
    | dummy => exact absurd c (slot_nodummy hd _)
    | live i =>
      rw [c] at e
      dsimp only at e
      split at e
      · cases e
      · exact probe_empty hd fuel _ adv e
theorem free_new {t : SetTable} (hd : t.dummies = #[]) {h : Int} {j : Nat} {b : Bool} (e : t.freeSlot h = some (j,b)) : ¬ t.place[SetTable.below t.place j]? = some j := by
  unfold SetTable.freeSlot at e
  split at e
  · rename_i j' d he
    unfold SetTable.probe at he
    obtain ⟨rfl,hs⟩ := probe_empty hd _ _ rfl he
    cases e
    exact slot_empty hs
  · cases e
theorem layNew_tb {b : Bool} {t : SetTable} (T : Tb b t) (es : Array (Int × Value)) (h : Int) (x : Value) : Tb b (layNew t es h x).2.1 := by
  unfold layNew
  split
  · rename_i j wd e
    show Tb b ((t.put j).1.orStandIn _)
    unfold SetTable.orStandIn
    split
    · refine ⟨T.led,λ hp => ?_⟩
      obtain ⟨r,hd⟩ := T.rise hp
      refine ⟨put_rises r (free_new hd e),?_⟩
      show (if SetTable.has t.dummies j = true then _ else t.dummies) = _
      rw [hd,has_nil]
      rfl
    · exact ⟨T.led,λ hp => by cases hp⟩
  · exact ⟨T.led,λ hp => by cases hp⟩
theorem relay_tb {b : Bool} {t : SetTable} (T : Tb b t) (es : Array (Int × Value)) (n : Nat) : Tb b (relayAll t es n).2.1 := by
  unfold relayAll
  split
  · rename_i t' o e
    dsimp only
    split
    · unfold SetTable.relaid at e
      obtain ⟨r,l,p,d⟩ := laid_rises e
      exact ⟨l.trans T.led,λ _ => ⟨r,d⟩⟩
    · exact ⟨T.led,λ hp => by cases hp⟩
  · exact ⟨T.led,λ hp => by cases hp⟩
theorem plainOff_tb {b : Bool} {t : SetTable} (T : Tb b t) : Tb b { t with plain := false } := ⟨T.led,λ hp => by cases hp⟩
theorem fresh_tb (b : Bool) : Tb b (.fresh 0 0 (!b)) := ⟨rfl,λ _ => ⟨by show ([] : List Nat).Pairwise _; exact .nil,rfl⟩⟩
end FK
namespace FK
open PySem PySem.Spec PyProof.Rows
def byT (w : World) : Bool := w.params.followText "set-order"
def vi (e : Int × Value) : Int := match e.2 with
  | .int k _ => k
  | _ => 0
def SetI (prog : Program) (w : World) (h : Heap) (a : Addr) (S : Int→Prop) (n : Nat) : Prop :=
  ∃ o es ep t,h.get? a = some o ∧ o.ExactSet ∧ o.data = .set es ep t ∧ ElemsOf (intKind prog w) es.toList ∧ (es.toList.map vi).Nodup ∧ (∀ k,k ∈ es.toList.map vi ↔ S k) ∧ es.size ≤ n ∧ t.fits es.size = true ∧ Tb (byT w) t
theorem is_int {prog : Program} {w : World} {k : Int} {v : Value} (h : (intKind prog w).is k v = true) : ∃ t,v = .int k t := by
  cases v with
  | int j t =>
    have e : (j == k) = true := by simpa [intKind,Value.isInt] using h
    exact ⟨t,by rw [eq_of_beq e]⟩
  | _ => simp [intKind,Value.isInt] at h
theorem elem_int {prog : Program} {w : World} {l : List (Int × Value)} (h : ElemsOf (intKind prog w) l) {e : Int × Value} (he : e∈l) : ∃ t,e.2 = .int (vi e) t := by
  obtain ⟨⟨k,hk,_⟩,_⟩ := h e he
  obtain ⟨t,q⟩ := is_int hk
  refine ⟨t,?_⟩
  unfold vi
  rw [q]
section
variable {prog : Program} {w : World} {A : Around} {E : Value→Shared→Prop} {s : Shared} {a : Addr} {S : Int→Prop} {n : Nat}
theorem find_int {l : List (Int × Value)} (h : ElemsOf (intKind prog w) l) (k : Int) : (l.findIdx? (λ e => (intKind prog w).is k e.2)).isSome = true↔k∈l.map vi := by
  rw [List.findIdx?_isSome,List.any_eq_true,List.mem_map]
  constructor
  · rintro ⟨e,he,z⟩
    obtain ⟨t,q⟩ := is_int z
    exact ⟨e,he,by unfold vi; rw [q]⟩
  · rintro ⟨e,he,z⟩
    obtain ⟨t,q⟩ := elem_int h he
    exact ⟨e,he,by rw [q,z]; exact intKind_is prog w k t⟩
theorem stored {o : Obj} {es es' : Array (Int × Value)} {ep : Nat} {t t' : SetTable} {h : Heap} (ho : h.get? a = some o) (hd : o.data = .set es ep t) : (h.update a (Obj.putSet es' t')).get? a = some { o with data := .set es' (ep + 1) t' } := by
  have q := Heap.get?_update_self (Obj.putSet es' t') ho (by rw [putSet_of es' t' hd]; rfl)
  rwa [putSet_of es' t' hd] at q
theorem setI_add {k : Int} {tk : Tok} {Q : Bool→Shared→Prop} (g : SetI prog w s.heap a S n) (room : n + 1 < scanBound)
    (h : ∀ h' b,Heap.SameBut a s.heap h' → SetI prog w h' a (λ j => S j ∨ j = k) (n + 1) → Q b { s with heap := h' }) : wpAny (model prog w) A (setAddHashed a (.int k tk) ((intKind prog w).hash k)) Q E s := by
  obtain ⟨o,es,ep,t,ho,hx,hd,el,nd,mem,sz,ft,tb⟩ := g
  have key : (intKind prog w).is k (.int k tk) = true := intKind_is _ _ _ _
  have scan : Value.scannable (.int k tk) = true := rfl
  unfold setAddHashed setAddHashedIn
  refine wpAny_holding (wpAny_bind (wpAny_setState_of ho hd ft ?_))
  dsimp only
  rw [byScan_of scan (Nat.lt_of_le_of_lt sz (by omega)) el]
  simp only [if_true]
  unfold setAddByScan
  refine wpAny_bind (wpAny_bind (wpAny_rule (wpAny_bind (wpAny_setScan_of key ho hd ft el ?_))))
  have fi := find_int (prog := prog) (w := w) el k
  cases c : List.findIdx? (λ e => (intKind prog w).is k e.2) es.toList with
  | some j =>
    rw [c] at fi
    have inn := fi.mp rfl
    refine wpAny_pure (wpAny_pure ?_)
    have := h s.heap false (Heap.SameBut.refl a s.heap) ⟨o,es,ep,t,ho,hx,hd,el,nd,λ z => ⟨λ q => .inl ((mem z).mp q),λ q => q.elim (mem z).mpr λ q => q ▸ inn⟩,by omega,ft,tb⟩
    cases s
    exact this
  | none =>
    rw [c] at fi
    have out : k ∉ es.toList.map vi := λ q => by cases fi.mpr q
    have perm := layNew_perm t es ((intKind prog w).hash k) (.int k tk)
    have fits := layNew_fits t es ((intKind prog w).hash k) (.int k tk)
    have tb1 := layNew_tb tb es ((intKind prog w).hash k) (.int k tk)
    dsimp only
    generalize layNew t es ((intKind prog w).hash k) (.int k tk) = L at perm fits tb1 ⊢
    obtain ⟨es1,t1,wd,gave⟩ := L
    dsimp only at perm fits tb1 ⊢
    rw [Array.toList_push] at perm
    have el1 : ElemsOf (intKind prog w) es1.toList := (el.push key scan).perm perm
    have pm : (es1.toList.map vi).Perm (es.toList.map vi ++ [k]) := by
      have := perm.map vi
      rwa [List.map_append] at this
    have nd1 : (es1.toList.map vi).Nodup := by
      rw [pm.nodup_iff,List.nodup_append]
      exact ⟨nd,by simp,λ x hx y hy e => out (by rw [← List.mem_singleton.mp hy,← e]; exact hx)⟩
    have mem1 : ∀ z,z ∈ es1.toList.map vi ↔ (S z ∨ z = k) := λ z => by rw [pm.mem_iff,List.mem_append,List.mem_singleton,mem z]
    have sz1 : es1.size ≤ n + 1 := by
      have := perm.length_eq
      simp only [List.length_append,List.length_singleton,Array.length_toList] at this
      omega
    have gw : ∀ (b : Bool) (s1 : Shared) (Q' : Unit → Shared → Prop),Q' () s1 → wpAny (model prog w) A (match b with | true => rule "set.scan.the-table-gave-way" | false => pure ()) Q' E s1 := λ b s1 Q' q => by
      cases b
      · exact wpAny_pure q
      · exact wpAny_rule q
    refine wpAny_bind (gw _ _ _ ?_)
    have tail : ∀ t2 : SetTable,t2.fits es1.size = true → Tb (byT w) t2 → wpAny (model prog w) A (do
        storeSet a es1 t2
        if (!wd && t2.tooFull) = true then do
            (match (relayAll t2 es1 (SetTable.grown es1.size)).2.2 with | true => rule "set.scan.the-table-gave-way" | false => pure ())
            storeSet a (relayAll t2 es1 (SetTable.grown es1.size)).1 (relayAll t2 es1 (SetTable.grown es1.size)).2.1
            pure (some true)
          else pure (some true)) (λ r s' => wpAny (model prog w) A (match r with | some added => pure added | none => setAddHashedIn a (.int k tk) ((intKind prog w).hash k) 99999) Q E s') E s := by
      intro t2 f2 tb2
      refine wpAny_bind (wpAny_storeSet_of ho hd ?_ (fits_of_scanBound (Nat.lt_of_le_of_lt sz1 room)))
      have sb := Heap.SameBut.update s.heap a (Obj.putSet es1 t2)
      have g1 := stored (es' := es1) (t' := t2) ho hd
      split
      · have p2 := relayAll_perm t2 es1 (SetTable.grown es1.size)
        have f3 := relayAll_fits t2 es1 (SetTable.grown es1.size)
        have tb3 := relay_tb tb2 es1 (SetTable.grown es1.size)
        generalize relayAll t2 es1 (SetTable.grown es1.size) = M at p2 f3 tb3 ⊢
        obtain ⟨es2,t3,gave2⟩ := M
        dsimp only at p2 f3 tb3 ⊢
        have pm2 := p2.map vi
        have z2 : es2.size = es1.size := by
          have := p2.length_eq
          simpa using this
        refine wpAny_bind (gw _ _ _ (wpAny_bind (wpAny_storeSet_of g1 rfl ?_ (fits_of_scanBound (by omega)))))
        refine wpAny_pure (wpAny_pure (h _ true (sb.trans (Heap.SameBut.update ..)) ⟨_,es2,_,t3,stored g1 rfl,hx,rfl,el1.perm p2,pm2.nodup_iff.mpr nd1,λ z => pm2.mem_iff.trans (mem1 z),by omega,f3,tb3⟩))
      · exact wpAny_pure (wpAny_pure (h _ true sb ⟨_,es1,_,t2,g1,hx,rfl,el1,nd1,mem1,sz1,f2,tb2⟩))
    split
    · refine wpAny_bind ?_
      rw [hashByValue_scannable 8 scan]
      refine wpAny_pure ?_
      split
      · exact tail t1 fits tb1
      · exact tail { t1 with plain := false } (SetTable.fits_plain_off fits) (plainOff_tb tb1)
    · refine wpAny_bind (wpAny_pure ?_)
      simp only [if_true]
      exact tail t1 fits tb1
end
end FK
namespace FK
open PySem PySem.Spec PyProof.Rows
theorem SetI.at {prog : Program} {w : World} {h h' : Heap} {a : Addr} {S : Int→Prop} {n : Nat} (g : SetI prog w h a S n) (k : ∀ o,h.get? a = some o→h'.get? a = some o) : SetI prog w h' a S n := by
  obtain ⟨o,es,ep,t,ho,r⟩ := g
  exact ⟨o,es,ep,t,k o ho,r⟩
theorem SetI.congr {prog : Program} {w : World} {h : Heap} {a : Addr} {S T : Int→Prop} {n : Nat} (g : SetI prog w h a S n) (e : ∀ k,S k↔T k) : SetI prog w h a T n := by
  obtain ⟨o,es,ep,t,ho,h1,h2,h3,h4,h5,r⟩ := g
  exact ⟨o,es,ep,t,ho,h1,h2,h3,h4,λ k => (h5 k).trans (e k),r⟩
section
variable {prog : Program} {w : World} {A : Around} {R : Result→Shared→Prop} {I : Addr} {fp wr : List Addr} {G : Array GenState→Array GenState→Prop} {n : Nat} {P : Nat→Value→Prop} {St : Nat→Shared→Prop}
theorem upd_loop (W : WalksS prog w A.in1 I fp wr G n P St) (c : Addr) (cf : c ∉ fp) (val : Nat→Int) (hval : ∀ i v,P i v→∃ t,v = .int (val i) t) (hb : n + 1 < scanBound) :
    ∀ (k i : Nat) (s : Shared),n - i = k → i ≤ n → St i s → SetI prog w s.heap c (λ z => ∃ j,j < i ∧ val j = z) i →
      (∀ s',Moved (c :: wr) G s s' → SetI prog w s'.heap c (λ z => ∃ j,j < n ∧ val j = z) n → R (.ok (.ret .none)) s') →
      codeAny (model prog w) A (.builtin "set.update.loop" ⟨[.ref c,.ref I],[]⟩) R s := by
  have cw : c ∉ wr := λ z => cf (W.sub _ z)
  have sub : ∀ b ∈ wr,b ∈ c :: wr := λ b z => List.mem_cons_of_mem _ z
  intro k
  induction k with
  | zero =>
    intro i s hk hi st g fin
    obtain rfl : i = n := by omega
    refine codeAny_builtin PyProof.Rows.F.entry_set_update_loop ?_; rw [Around.under_plainId PyProof.Rows.F.plain_set_update_loop _]
    show wpAny (model prog w) A.in1 (pyNext (.ref I) >>= _) _ _ s
    exact wpAny_bind (W.done s _ _ st λ s' m => wpAny_pure (fin s' (m.mono sub) (g.at λ o q => m.heap c _ cw q)))
  | succ k ih =>
    intro i s hk hi st g fin
    have lt : i < n := by omega
    refine codeAny_builtin PyProof.Rows.F.entry_set_update_loop ?_; rw [Around.under_plainId PyProof.Rows.F.plain_set_update_loop _]
    show wpAny (model prog w) A.in1 (pyNext (.ref I) >>= _) _ _ s
    refine wpAny_bind (W.item i s _ _ lt st λ v s' hP st' m => ?_)
    obtain ⟨t,rfl⟩ := hval i v hP
    have g' := g.at λ o q => m.heap c _ cw q
    show wpAny (model prog w) A.in1 (holding [Value.int (val i) t] (setAdd c (.int (val i) t)) >>= _) _ _ s'
    refine wpAny_bind (wpAny_holding ?_)
    unfold setAdd
    refine wpAny_holding (wpAny_bind ((intKind prog w).pyHash (k := val i) (intKind_is _ _ _ _) ?_))
    refine setI_add (s := { s' with toks := s'.toks + 1 }) g' (by omega) λ h' b sb g2 => ?_
    have g3 : SetI prog w h' c (λ z => ∃ j,j < i + 1 ∧ val j = z) (i + 1) := g2.congr λ z => by
      constructor
      · rintro (⟨j,hj,e⟩ | e)
        · exact ⟨j,by omega,e⟩
        · exact ⟨i,by omega,e.symm⟩
      · rintro ⟨j,hj,e⟩
        by_cases q : j = i
        · exact .inr (by rw [← e,q])
        · exact .inl ⟨j,by omega,e⟩
    refine wpAny_pure ⟨plainId_quiet PyProof.Rows.F.plain_set_update_loop _,ih (i + 1) _ (by omega) lt (W.frame _ s' _ _ st' (Nat.le_succ _) λ b hb o e => ?_) g3 λ s'' m2 g4 => ?_⟩
    · rw [sb.2 b (λ z : b = c => cf (by rw [← z]; exact hb))]; exact e
    · refine fin s'' (Moved.trans W.gtrans ((m.mono sub).then_heap (Nat.le_succ _) λ b o hb e => ?_) m2) g4
      rw [sb.2 b (λ z : b = c => hb (by rw [z]; exact List.mem_cons_self))]; exact e
end
section
variable {prog : Program} {w : World} {A : Around} {E : Value→Shared→Prop} {s : Shared}
theorem code_new (a : Value) {Q : Value→Shared→Prop} (h : Q (.ref s.heap.objs.size) { s with heap := s.heap.push { cls := .type "set",dict := none,data := .set #[] 0 (.fresh 0 0 (!byT w)) } }) :
    codeAny (model prog w) A (.call (.builtin "set.__new__") ⟨[.type "set",a],[]⟩) (wants Q E) s := by
  refine codeAny_of_tree ?_
  show wpAny (model prog w) A.in1 (do checkBuiltinCall "set.__new__" ⟨[.type "set",a],[]⟩; again (.builtin "set.__new__" ⟨[.type "set",a],[]⟩)) _ _ s
  refine wpAny_bind (wpAny_of_eq (PySem.F.newCall_set_1 a) (wpAny_pure ⟨plainId_quiet PySem.F.plain_set_new _,codeAny_builtin PySem.F.entry_set_new ?_⟩)); rw [Around.under_plainId PySem.F.plain_set_new _]
  unfold Builtin.«set.__new__» Builtin.Frozenset.newClass
  have q := sub_set_self
  obtain ⟨hp,gg,dd,tt,oo⟩ := s
  dsimp only
  wp_walk
  refine wpAny_askSetting (wpAny_pure ?_)
  dsimp only
  simp only [newObj]
  exact wpAny_bind (wpAny_alloc (wpAny_pure (wpAny_pure h)))
end
end FK
namespace FK
open PySem PySem.Spec PyProof.Rows
set_option maxRecDepth 100000
section
variable {prog : Program} {w : World} {A : Around} {E : Value→Shared→Prop} {s : Shared}
theorem fresh_setI {h : Heap} {a : Addr} (ho : h.get? a = some { cls := .type "set",dict := none,data := .set #[] 0 (.fresh 0 0 (!byT w)) }) : SetI prog w h a (λ z => ∃ j,j < 0∧(λ _ : Nat => (0 : Int)) j = z) 0 :=
  ⟨_,#[],0,_,ho,⟨rfl,rfl,rfl⟩,rfl,(λ e he => by cases he),List.nodup_nil,(λ k => ⟨(λ z => by cases z),(λ ⟨j,hj,_⟩ => by omega)⟩),Nat.le_refl _,rfl,fresh_tb _⟩
set_option maxHeartbeats 3200000 in
theorem call_setI {l : Addr} {items : Array Value} {ns : List Int} {Q : Value→Shared→Prop} (hh : A.handled = none) (hl : s.heap.IsList l items) (hi : IntsAre items.toList ns) (hb : items.size + 1 < scanBound)
    (h : ∀ (h' : Heap) (tk : Nat),SetI prog w h' s.heap.objs.size (λ z => ∃ j,j < items.size ∧ ns.getD j 0 = z) items.size → (∀ b o,b < s.heap.objs.size → s.heap.get? b = some o → h'.get? b = some o) → Q (.ref s.heap.objs.size) { s with heap := h',toks := tk }) :
    wpAny (model prog w) A (call (.type "set") [.ref l]) Q E s := by
  obtain ⟨c,tl,hmro⟩ := PySem.F.called_set.mro
  have made' := PySem.F.called_set.made
  have sub' := PySem.F.called_set.sub
  refine wpAny_call (codeAny_of_tree ?_); show wpAny _ _ (callAny (.type "set") _) _ _ _
  refine wpAny_pure ⟨Code.quiet_builtin _ (by decide +kernel),codeAny_builtin PySem.F.entry_type_call ?_⟩; rw [Around.under_plain (weight_type_call_type "set" [.ref l] []) rfl]
  have n1 := PySem.F.called_set.notType
  have n2 := PySem.F.called_set.canCreate
  have n3 := PySem.F.typeCall_set_1 (.ref l)
  repeat (any_goals (first | assumption | wp_step))
  refine codeAny_mono (code_new (.ref l) (E := E) (Q := λ obj s1 => obj = .ref s.heap.objs.size ∧ s1 = { s with heap := s.heap.push { cls := .type "set",dict := none,data := .set #[] 0 (.fresh 0 0 (!byT w)) } }) ⟨rfl,rfl⟩) λ r s1 hr => ?_
  cases r with
  | error e => exact hr
  | ok fl =>
    cases fl with
    | ret obj =>
      obtain ⟨rfl,rfl⟩ := hr
      have g0 : (s.heap.push { cls := .type "set",dict := none,data := .set #[] 0 (.fresh 0 0 (!byT w)) }).get? s.heap.objs.size = some { cls := .type "set",dict := none,data := .set #[] 0 (.fresh 0 0 (!byT w)) } := Heap.get?_push_size _ rfl
      have ty : Shared.TypeIs { s with heap := s.heap.push { cls := .type "set",dict := none,data := .set #[] 0 (.fresh 0 0 (!byT w)) } } (.ref s.heap.objs.size) "set" := ⟨_,g0,rfl⟩
      have l1 := PySem.F.called_set.init.lookup
      have l2 := PySem.F.called_set.init.bind (.ref s.heap.objs.size)
      repeat (any_goals (first | assumption | wp_step))
      refine codeAny_mono (codeAny_call_builtin (R := wants (λ r s2 => r = .none ∧ ∃ h' tk,s2 = { s with heap := h',toks := tk } ∧ SetI prog w h' s.heap.objs.size (λ z => ∃ j,j < items.size ∧ ns.getD j 0 = z) items.size ∧ ∀ b o,b < s.heap.objs.size → s.heap.get? b = some o → h'.get? b = some o) E) PySem.F.called_set.init.plain PySem.F.entry_set_init (PySem.check_set_init_1 ty ?_)) λ r2 s2 hr2 => ?_
      · obtain ⟨⟨oc,od,odt,osl⟩,hol,hcl,nl,hdl⟩ := hl
        simp only at hcl hdl
        subst hcl hdl
        have k1 : (s.heap.push { cls := .type "set",dict := none,data := .set #[] 0 (.fresh 0 0 (!byT w)) }).get? l = some { cls := .type "list",dict := od,data := .seq items nl,slots := osl } := Heap.get?_push_of_some _ hol
        have q1 := PySem.F.sub_list_set
        have q2 := PySem.F.sub_list_frozenset
        have q3 : (Value.type "list" == Value.type "dict") = false := by decide
        have il : (s.heap.push { cls := .type "set",dict := none,data := .set #[] 0 (.fresh 0 0 (!byT w)) }).IsList l items := ⟨_,k1,rfl,nl,rfl⟩
        unfold Builtin.«set.__init__» noKeywords Builtin.Frozenset.updateFrom
        generalize eI : pyIter = PI
        wp_walk
        subst eI
        refine wpAny_pyIter_list (s := { s with heap := s.heap.push { cls := .type "set",dict := none,data := .set #[] 0 (.fresh 0 0 (!byT w)) } }) il ?_
        refine wpAny_bind (wpAny_runValue ?_)
        have lt : l < s.heap.objs.size := Heap.lt_size hol
        have h3 : A.in1.in1.in1.handled = none := by simp [hh]
        have z1 : (s.heap.push { cls := .type "set",dict := none,data := .set #[] 0 (.fresh 0 0 (!byT w)) }).objs.size = s.heap.objs.size + 1 := Heap.size_push ..
        have ni : l ≠ (s.heap.push { cls := .type "set",dict := none,data := .set #[] 0 (.fresh 0 0 (!byT w)) }).objs.size := by rw [z1]; exact Nat.ne_of_lt (Nat.lt_succ_of_lt lt)
        have nf : s.heap.objs.size ∉ [(s.heap.push { cls := .type "set",dict := none,data := .set #[] 0 (.fresh 0 0 (!byT w)) }).objs.size,l] := by
          intro z
          rcases List.mem_cons.mp z with z | z
          · exact Nat.ne_of_lt (Nat.lt_succ_self _) (z.trans z1)
          · exact Nat.ne_of_gt lt (List.mem_singleton.mp z)
        refine upd_loop ((Walks.list h3 _ l ni items).toS) s.heap.objs.size nf (λ j => ns.getD j 0) (λ j v hv => IntsAre.int_at hi j v (by rw [Array.getElem?_toList]; exact hv)) hb (items.size - 0) 0 _ (by omega) (Nat.zero_le _) ⟨⟨_,Heap.get?_push_size _ rfl,rfl,rfl⟩,il.push _⟩ ?_ ?_
        · have := fresh_setI (prog := prog) (w := w) (h := (s.heap.push { cls := .type "set",dict := none,data := .set #[] 0 (.fresh 0 0 (!byT w)) }).push { cls := .type "list_iterator",data := .fields #[.ref l,.int 0 0] }) (a := s.heap.objs.size) (Heap.get?_push_of_some _ g0)
          exact this.congr λ k => ⟨λ ⟨j,hj,_⟩ => by omega,λ ⟨j,hj,_⟩ => by omega⟩
        · intro s' m g
          obtain ⟨h',g',d',tk',os'⟩ := s'
          have e1 : g' = s.gens := m.gens
          have e2 : d' = s.drawn := m.drawn
          have e3 : os' = s.os := m.os
          subst e1 e2 e3
          refine wpAny_pure ?_
          show wpAny (model prog w) _ (ret Value.none) _ _ _
          refine wpAny_pure ⟨rfl,h',tk',rfl,g,λ b o hb e => ?_⟩
          refine m.heap b o (λ z => ?_) (Heap.get?_push_of_some _ (Heap.get?_push_of_some _ e))
          rcases List.mem_cons.mp z with z | z
          · exact Nat.ne_of_lt hb z
          · exact Nat.ne_of_lt (Nat.lt_succ_of_lt hb) ((List.mem_singleton.mp z).trans z1)
      · cases r2 with
        | error e => exact hr2
        | ok f2 =>
          cases f2 with
          | ret r =>
            obtain ⟨rfl,h',tk,rfl,g,kp⟩ := hr2
            repeat (any_goals (first | assumption | wp_step))
            exact h _ _ g kp
          | _ => exact hr2.elim
    | _ => exact hr.elim
end
end FK
namespace FK
open PySem PySem.Spec PyProof.Rows
theorem erase_perm {α : Type} {l : List α} {i : Nat} {x : α} (h : l[i]? = some x) : l.Perm (x :: l.eraseIdx i) := by
  obtain ⟨hi,e⟩ := List.getElem?_eq_some_iff.mp h
  have : l = l.take i ++ x :: l.drop (i + 1) := by
    rw [← e]
    simp
  rw [List.eraseIdx_eq_take_drop_succ]
  refine (this ▸ List.Perm.refl l : l.Perm (l.take i ++ x :: l.drop (i + 1))).trans ?_
  exact List.perm_middle
theorem pick_go {α : Type} (next : Nat→Nat) : ∀ (fuel k : Nat) (left : List α) (out : Array α),left.length = fuel→(pickOrder.go next fuel k left out).toList.Perm (out.toList ++ left)
  | 0,k,left,out,h => by
    have : left = [] := List.eq_nil_of_length_eq_zero h
    subst this
    unfold pickOrder.go
    simp
  | fuel + 1,k,left,out,h => by
    unfold pickOrder.go
    have lt : next k % left.length < left.length := Nat.mod_lt _ (by omega)
    have e : left[next k % left.length]? = some left[next k % left.length] := List.getElem?_eq_getElem lt
    rw [e]
    dsimp only
    refine (pick_go next fuel (k + 1) _ _ (by rw [List.length_eraseIdx_of_lt lt]; omega)).trans ?_
    rw [Array.toList_push,List.append_assoc]
    exact List.Perm.append_left _ (erase_perm e).symm
theorem pick_perm {α : Type} (next : Nat→Nat) (xs : Array α) : (pickOrder next xs).toList.Perm xs.toList := by
  unfold pickOrder
  have := pick_go next xs.size 0 xs.toList #[] (by simp)
  simpa using this
section
variable {prog : Program} {w : World} {A : Around} {E : Value→Shared→Prop} {s : Shared}
theorem wp_pick {src : Source} {n : Nat} (hn : n≠0) {Q : Nat→Shared→Prop} (h : ∀ i dr,i < n→Q i { s with drawn := dr }) : wpAny (model prog w) A (choose src n) Q E s :=
  λ _ _ _ => ⟨hn,h _ _ (Nat.mod_lt _ (Nat.pos_of_ne_zero hn))⟩
theorem wp_draw {α : Type} : ∀ (n : Nat) (xs : List α) {s : Shared} {Q : List α→Shared→Prop},xs.length = n→(∀ ys dr,ys.Perm xs→Q ys { s with drawn := dr })→wpAny (model prog w) A (drawOrder n xs) Q E s
  | 0,xs,s,Q,h,q => by
    have : xs = [] := List.eq_nil_of_length_eq_zero h
    subst this
    unfold drawOrder
    have := q [] s.drawn (List.Perm.refl _)
    cases s
    exact wpAny_pure this
  | n + 1,[],s,Q,h,q => by cases h
  | n + 1,x :: xs,s,Q,h,q => by
    unfold drawOrder
    refine wpAny_bind (wp_pick (by simp) λ i dr hi => ?_)
    have e : (x :: xs)[i]? = some (x :: xs)[i] := List.getElem?_eq_getElem hi
    rw [e]
    dsimp only
    refine wpAny_bind (wp_draw n ((x :: xs).eraseIdx i) (by rw [List.length_eraseIdx_of_lt hi]; omega) λ ys dr2 p => wpAny_pure (q _ dr2 ?_))
    exact (List.Perm.cons _ p).trans (erase_perm e).symm
end
end FK
namespace FK
open PySem PySem.Spec PyProof.Rows
set_option maxRecDepth 100000
theorem sl_next : Slot "set_iterator" "__next__" "set_iterator.__next__" := by
  refine .of (owner := "set_iterator") (n := "__next__") ?_ ?_ ?_ ?_ ?_ ?_
  · rw [typeLookup_type,builtinLookup_eq_fast]; kernel_rfl
  · decide +kernel
  · decide +kernel
  · decide +kernel
  · first | exact .inl (by decide +kernel) | exact .inr (by decide +kernel)
  · rw [isSubtype_type]; kernel_rfl
theorem en_next : entryFor table "set_iterator.__next__" = some Builtin.«set_iterator.__next__» := by exact entryFor_of_tree (by kernel_rfl)
theorem ar_next (a : Value) : argsOk "set_iterator.__next__" ⟨[a],[]⟩ := by
  unfold argsOk
  kernel_rfl
theorem en_iter : entryFor table "set.__iter__" = some Builtin.«frozenset.__iter__» := by
  exact entryFor_alias (id' := "frozenset.__iter__") (by kernel_rfl) rfl (by decide +kernel) (by kernel_rfl)
end FK
namespace FK
open PySem PySem.Spec PyProof.Rows
set_option maxRecDepth 100000
def ItAt (h : Heap) (it a : Addr) (n ep i slot : Nat) : Prop :=
  h.get? it = some { cls := .type "set_iterator",dict := none,data := .fields #[.int slot 0,.int i 0,.ref a,.int n 0,.int ep 0],slots := #[] }
def ordI (w : World) (a : Addr) (es : Array (Int × Value)) (ep : Nat) : Array (Int × Value) := if byT w = true then pickOrder (w.params.setOrder a ep) es else es
theorem ordI_perm {w : World} {a : Addr} {es : Array (Int × Value)} {ep : Nat} : (ordI w a es ep).toList.Perm es.toList := by
  unfold ordI
  split
  · exact pick_perm _ _
  · exact List.Perm.refl _
section
variable {prog : Program} {w : World} {A : Around} {E : Value→Shared→Prop} {s : Shared} {a : Addr} {o : Obj} {es : Array (Int × Value)} {ep : Nat} {t : SetTable}
theorem wp_byT {Q : Bool→Shared→Prop} (h : Q (byT w) s) : wpAny (model prog w) A setsByText Q E s := by
  unfold setsByText
  exact wpAny_bind (wpAny_askSetting (wpAny_pure h))
theorem wp_setNext {slot i : Nat} {Q : Option (Value × Nat)→Shared→Prop} (ho : s.heap.get? a = some o) (hd : o.data = .set es ep t) (ft : t.fits es.size = true) (tb : Tb (byT w) t) (np : byT w = false→t.plain = true∨es.size≤1)
    (hs : byT w = false → SetTable.below t.place slot = i)
    (h : ∀ r : Option (Value × Nat),r.map (·.1) = ((ordI w a es ep)[i]?).map (·.2) → (∀ v j,r = some (v,j) → byT w = false → ∃ hi : i < t.place.size,j = t.place[i] + 1) → Q r s) : wpAny (model prog w) A (setNext a slot i ep) Q E s := by
  unfold setNext
  refine wpAny_bind (wpAny_setState_of ho hd ft ?_)
  dsimp only
  refine wpAny_bind (wp_byT ?_)
  cases b : byT w with
  | true =>
    simp only [if_true]
    rw [if_neg (by simp)]
    refine wpAny_bind ?_
    unfold setWalk
    refine wpAny_bind (wpAny_setState_of ho hd ft ?_)
    dsimp only
    refine wpAny_bind (wp_byT ?_)
    rw [b]
    simp only [if_true]
    refine wpAny_bind (wpAny_askSetting (wpAny_pure (wpAny_pure (h _ ?_ ?_))))
    · unfold ordI
      rw [if_pos b,Option.map_map]
      rfl
    · intro v j _ z
      rw [b] at z
      cases z
  | false =>
    simp only [Bool.false_eq_true,if_false]
    have nd : (!t.plain && decide (es.size > 1)) = false := by
      rcases np b with q | q
      · rw [q]; rfl
      · rw [decide_eq_false (by omega),Bool.and_false]
    show wpAny (model prog w) A (if (!t.plain && decide (es.size > 1)) = true then _ else _) Q E s
    rw [nd]
    simp only [Bool.false_eq_true,if_false]
    have ld : t.led = true := by rw [tb.led,b]; rfl
    refine wpAny_bind ?_
    show wpAny (model prog w) A (if (!t.led && !es.isEmpty) = true then unsupported "set:maker-not-led" else pure ()) _ E s
    rw [ld]
    simp only [Bool.not_true,Bool.false_and,Bool.false_eq_true,if_false]
    refine wpAny_pure (wpAny_pure (h _ ?_ ?_))
    · rw [hs b]
      unfold ordI
      rw [if_neg (by rw [b]; simp)]
      have sz : t.place.size = es.size := by
        simp only [SetTable.fits,Bool.and_eq_true,beq_iff_eq] at ft
        exact ft.1
      by_cases hi : i < es.size
      · rw [Array.getElem?_eq_getElem hi,Array.getElem?_eq_getElem (by omega)]
        rfl
      · rw [Array.getElem?_eq_none (by omega)]
        rfl
    · intro v j e _
      rw [hs b] at e
      have sz : t.place.size = es.size := by
        simp only [SetTable.fits,Bool.and_eq_true,beq_iff_eq] at ft
        exact ft.1
      by_cases hi : i < es.size
      · rw [Array.getElem?_eq_getElem hi,Array.getElem?_eq_getElem (by omega)] at e
        refine ⟨by omega,?_⟩
        have := Option.some.inj e
        exact (congrArg Prod.snd this).symm
      · rw [Array.getElem?_eq_none (by omega)] at e
        cases e
end
end FK
namespace FK
open PySem PySem.Spec PyProof.Rows
set_option maxRecDepth 100000
section
variable {prog : Program} {w : World} {A : Around} {E : Value→Shared→Prop} {s : Shared} {a it : Addr} {o : Obj} {es : Array (Int × Value)} {ep i slot : Nat} {t : SetTable}
theorem it_next {e : Int × Value} {Q : Option Value→Shared→Prop} (hit : ItAt s.heap it a es.size ep i slot) (ho : s.heap.get? a = some o) (hd : o.data = .set es ep t) (ft : t.fits es.size = true) (tb : Tb (byT w) t) (np : byT w = false→t.plain = true∨es.size≤1)
    (hs : byT w = false → SetTable.below t.place slot = i) (he : (ordI w a es ep)[i]? = some e)
    (hQ : ∀ h' slot',ItAt h' it a es.size ep (i + 1) slot' → (byT w = false → ∃ hi : i < t.place.size,slot' = t.place[i] + 1) → Heap.SameBut it s.heap h' → Q (some e.2) { s with heap := h' }) : wpAny (model prog w) A (pyNext (.ref it)) Q E s := by
  have ty : s.TypeIs (.ref it) "set_iterator" := ⟨_,hit,rfl⟩
  unfold pyNext
  refine wpAny_bind (wpAny_attempt (wpAny_callSpecial?_slot (name := Str.ofString "__next__") ty sl_next (wpAny_call_entry sl_next ty en_next ?_ (ar_next _))))
  refine wpAny_bind (wpAny_pure (wpAny_bind (wpAny_fieldsOf hit rfl ?_)))
  show wpAny (model prog w) A.in1 (setEntries a >>= _) _ _ s
  unfold setEntries
  refine wpAny_bind (wpAny_bind (wpAny_setState_of ho hd ft (wpAny_pure ?_)))
  rw [if_neg (by simp)]
  show wpAny (model prog w) A.in1 (setNext a ((slot : Nat) : Int).toNat ((i : Nat) : Int).toNat ((ep : Nat) : Int).toNat >>= _) _ _ s
  rw [Int.toNat_natCast,Int.toNat_natCast,Int.toNat_natCast]
  refine wpAny_bind (wp_setNext ho hd ft tb np hs λ r h1 h2 => ?_)
  rw [he] at h1
  cases r with
  | none => cases h1
  | some p =>
    obtain ⟨v,j⟩ := p
    have ev : v = e.2 := Option.some.inj h1
    subst ev
    dsimp only
    refine wpAny_bind (wpAny_setField_rec hit (by simp) λ h3 e3 b3 => wpAny_bind (wpAny_setField_rec e3 (by simp) λ h4 e4 b4 => ?_))
    refine wpAny_pure ⟨_,rfl,wpAny_pure (hQ h4 j ?_ (λ z => h2 _ _ rfl z) ?_)⟩
    · have e5 : ((i + 1 : Nat) : Int) = (i : Int) + 1 := by omega
      unfold ItAt
      rw [e5]
      simpa [rawInt] using e4
    · exact Heap.SameBut.trans (show Heap.SameBut it s.heap h3 from b3) b4
theorem it_end {Q : Option Value→Shared→Prop} (hh : A.handled = none) (hit : ItAt s.heap it a es.size ep i slot) (ho : s.heap.get? a = some o) (hd : o.data = .set es ep t) (ft : t.fits es.size = true) (tb : Tb (byT w) t) (np : byT w = false→t.plain = true∨es.size≤1)
    (hs : byT w = false → SetTable.below t.place slot = i) (he : (ordI w a es ep)[i]? = none)
    (hQ : ∀ h',Heap.ExtBut it s.heap h' → Q none { s with heap := h' }) : wpAny (model prog w) A (pyNext (.ref it)) Q E s := by
  have ty : s.TypeIs (.ref it) "set_iterator" := ⟨_,hit,rfl⟩
  unfold pyNext
  refine wpAny_bind (wpAny_attempt (wpAny_callSpecial?_slot (name := Str.ofString "__next__") ty sl_next (wpAny_call_entry sl_next ty en_next ?_ (ar_next _))))
  refine wpAny_bind (wpAny_pure (wpAny_bind (wpAny_fieldsOf hit rfl ?_)))
  show wpAny (model prog w) A.in1 (setEntries a >>= _) _ _ s
  unfold setEntries
  refine wpAny_bind (wpAny_bind (wpAny_setState_of ho hd ft (wpAny_pure ?_)))
  rw [if_neg (by simp)]
  show wpAny (model prog w) A.in1 (setNext a ((slot : Nat) : Int).toNat ((i : Nat) : Int).toNat ((ep : Nat) : Int).toNat >>= _) _ _ s
  rw [Int.toNat_natCast,Int.toNat_natCast,Int.toNat_natCast]
  refine wpAny_bind (wp_setNext ho hd ft tb np hs λ r h1 h2 => ?_)
  rw [he] at h1
  cases r with
  | some p => cases h1
  | none =>
    dsimp only
    refine wpAny_bind (wpAny_setField hit rfl (by simp) (wpAny_bind ?_))
    simp only [newExc,newTuple]
    refine wpAny_bind (wpAny_newObj_type ?_ (by size_fits))
    refine wpAny_bind (m := firstArgMember _ _) (wpAny_of_eq (a := Value.none) (by first | rfl | (simp only [firstArgMember]; rfl)) (wpAny_newObj_type ?_ (by size_fits)))
    simp only [raiseNew]
    refine wpAny_bind (wpAny_handled ?_)
    rw [show A.in1.handled = none from hh]
    refine wpAny_bind (wpAny_pure (wpAny_throw ?_)); refine wpAny_bind (wpAny_isInstance (T := "StopIteration") (b := true) ⟨_,Heap.get?_push_size _ rfl,rfl⟩ isSubtype_stop ?_)
    exact wpAny_pure (hQ _ (((Heap.SameBut.update ..).extBut.push _).push _))
end
end FK
namespace FK
open PySem PySem.Spec PyProof.Rows
set_option maxRecDepth 100000
section
variable {prog : Program} {w : World} {A : Around} {E : Value→Shared→Prop} {s : Shared} {a : Addr} {o : Obj} {es : Array (Int × Value)} {ep : Nat} {t : SetTable}
theorem wp_notDrawn {Q : Bool→Shared→Prop} (ho : s.heap.get? a = some o) (hd : o.data = .set es ep t) (ft : t.fits es.size = true) (np : byT w = false→t.plain = true∨es.size≤1) (h : Q false s) : wpAny (model prog w) A (setDrawn a) Q E s := by
  unfold setDrawn
  refine wpAny_bind (wpAny_setState_of ho hd ft ?_)
  dsimp only
  refine wpAny_bind (wp_byT (wpAny_pure ?_))
  show Q (!byT w && (!t.plain && decide (es.size > 1))) s
  cases b : byT w with
  | true => exact h
  | false =>
    have nd : (!t.plain && decide (es.size > 1)) = false := by
      rcases np b with q | q
      · rw [q]; rfl
      · rw [decide_eq_false (by omega),Bool.and_false]
    rw [nd]
    exact h
theorem iter_set {Q : Value→Shared→Prop} (ho : s.heap.get? a = some o) (hx : o.ExactSet) (hd : o.data = .set es ep t) (ft : t.fits es.size = true) (np : byT w = false→t.plain = true∨es.size≤1)
    (hQ : ∀ h',ItAt h' s.heap.objs.size a es.size ep 0 0 → (∀ b q,s.heap.get? b = some q → h'.get? b = some q) → Q (.ref s.heap.objs.size) { s with heap := h' }) : wpAny (model prog w) A (pyIter (.ref a)) Q E s := by
  have ty : s.TypeIs (.ref a) "set" := ⟨o,ho,hx.1⟩
  refine wpAny_pyIter_slot ty PySem.F.slot_set_iter (wpAny_call_entry PySem.F.slot_set_iter ty en_iter ?_ (PySem.F.args_set_iter_1 _))
  unfold Builtin.«frozenset.__iter__»
  refine wpAny_bind ?_
  refine wpAny_pure ?_
  unfold Builtin.Frozenset.sizeOf setEntries
  refine wpAny_bind (wpAny_bind (wpAny_bind (wpAny_setState_of ho hd ft (wpAny_pure (wpAny_pure ?_)))))
  refine wpAny_bind (wp_notDrawn ho hd ft np ?_)
  simp only [Bool.false_eq_true,if_false]
  refine wpAny_bind (wpAny_pure (wpAny_bind (wpAny_setEpoch_of ho hd ft (wpAny_bind (wpAny_newObj_type (wpAny_pure ⟨_,rfl, "set_iterator",_,⟨_,Heap.get?_push_size _ rfl,rfl⟩,sl_next.lookup,?_⟩))))))
  exact hQ _ (Heap.get?_push_size _ rfl) λ b q z => Heap.get?_push_of_some _ z
end
end FK
namespace FK
open PySem PySem.Spec PyProof.Rows
set_option maxRecDepth 100000
theorem sl_self : Slot "set_iterator" "__iter__" "set_iterator.__iter__" := by
  refine .of (owner := "set_iterator") (n := "__iter__") ?_ ?_ ?_ ?_ ?_ ?_
  · rw [typeLookup_type,builtinLookup_eq_fast]; kernel_rfl
  · decide +kernel
  · decide +kernel
  · decide +kernel
  · first | exact .inl (by decide +kernel) | exact .inr (by decide +kernel)
  · rw [isSubtype_type]; kernel_rfl
theorem ar_self (a : Value) : argsOk "set_iterator.__iter__" ⟨[a],[]⟩ := by
  unfold argsOk
  kernel_rfl
theorem en_self : entryFor table "set_iterator.__iter__" = some Builtin.«dict_keyiterator.__iter__» := by
  exact entryFor_alias (id' := "dict_keyiterator.__iter__") (by kernel_rfl) rfl (by decide +kernel) (by kernel_rfl)
section
variable {prog : Program} {w : World} {A : Around} {a it : Addr} {o : Obj} {es : Array (Int × Value)} {ep : Nat} {t : SetTable}
def StI (w : World) (it a : Addr) (o : Obj) (es : Array (Int × Value)) (ep : Nat) (t : SetTable) (i : Nat) (s : Shared) : Prop := ∃ slot,ItAt s.heap it a es.size ep i slot∧s.heap.get? a = some o∧(byT w = false→SetTable.below t.place slot = i)
theorem rises_of (ft : t.fits es.size = true) (tb : Tb (byT w) t) (np : t.plain = true∨es.size≤1) : Rs t.place := by
  rcases np with q | q
  · exact (tb.rise q).1
  · have sz : t.place.size = es.size := by
      simp only [SetTable.fits,Bool.and_eq_true,beq_iff_eq] at ft
      exact ft.1
    show t.place.toList.Pairwise _
    have : t.place.toList.length ≤ 1 := by simp; omega
    match e : t.place.toList,this with
    | [],_ => exact .nil
    | [x],_ => simp
theorem walk_set (hh : A.handled = none) (ne : a≠it) (hd : o.data = .set es ep t) (ft : t.fits es.size = true) (tb : Tb (byT w) t) (np : byT w = false→t.plain = true∨es.size≤1) :
    WalksS prog w A it [it,a] [it] Eq es.size (λ i v => ((ordI w a es ep)[i]?).map (·.2) = some v) (StI w it a o es ep t) where
  sub := λ b hb => by simp at hb; simp [hb]
  grefl := λ _ => rfl
  gtrans := λ _ _ _ x y => x.trans y
  frame := λ i s h' tk st _ k => by
    obtain ⟨slot,h1,h2,h3⟩ := st
    exact ⟨slot,k it (by simp) _ h1,k a (by simp) _ h2,h3⟩
  item := λ i s Q E hi st hQ => by
    obtain ⟨slot,h1,h2,h3⟩ := st
    have sz : (ordI w a es ep).size = es.size := by
      have := (ordI_perm (w := w) (a := a) (es := es) (ep := ep)).length_eq
      simpa using this
    have he : (ordI w a es ep)[i]? = some (ordI w a es ep)[i] := Array.getElem?_eq_getElem (by omega)
    refine it_next h1 h2 hd ft tb np h3 he λ h' slot' i1 j1 sb => ?_
    refine hQ _ { s with heap := h' } (by rw [he]; rfl) ⟨slot',i1,(sb.2 a ne).trans h2,λ z => ?_⟩ ⟨λ b q hb e => (sb.2 b (λ z => hb (by simp [z]))).trans e,rfl,rfl,rfl,Nat.le_refl _⟩
    obtain ⟨hi',e⟩ := j1 z
    rw [e]
    exact below_next (rises_of (w := w) ft tb (np z)) hi'
  done := λ s Q E st hQ => by
    obtain ⟨slot,h1,h2,h3⟩ := st
    have sz : (ordI w a es ep).size = es.size := by
      have := (ordI_perm (w := w) (a := a) (es := es) (ep := ep)).length_eq
      simpa using this
    exact it_end hh h1 h2 hd ft tb np h3 (by simp [sz]) λ h' eb => hQ { s with heap := h' } ⟨λ b q hb e => eb b q (λ z => hb (by simp [z])) e,rfl,rfl,rfl,Nat.le_refl _⟩
  self := λ i s Q E st hQ => by
    obtain ⟨slot,h1,h2,h3⟩ := st
    have ty : s.TypeIs (.ref it) "set_iterator" := ⟨_,h1,rfl⟩
    refine wpAny_pyIter_slot ty sl_self (wpAny_call_entry sl_self ty en_self ?_ (ar_self _))
    show wpAny (model prog w) A.in1 (ret (.ref it)) _ _ s
    exact wpAny_pure ⟨_,rfl, "set_iterator",_,ty,sl_next.lookup,hQ⟩
end
end FK
namespace FK
open PySem PySem.Spec PyProof.Rows
set_option maxRecDepth 100000
section
variable {prog : Program} {w : World} {A : Around} {E : Value→Shared→Prop} {s : Shared} {a : Addr} {o : Obj} {es : Array (Int × Value)} {ep : Nat} {t : SetTable}
theorem collect_set {Q : List Value→Shared→Prop} (hh : A.handled = none) (ho : s.heap.get? a = some o) (hx : o.ExactSet) (hd : o.data = .set es ep t) (ft : t.fits es.size = true) (tb : Tb (byT w) t) (np : byT w = false→t.plain = true∨es.size≤1) (small : es.size≤sizeLine)
    (hQ : ∀ h' tk,s.heap.objs.size < h'.objs.size → (∀ b q,s.heap.get? b = some q → h'.get? b = some q) → Q ((ordI w a es ep).toList.map (·.2)) { s with heap := h',toks := tk }) : wpAny (model prog w) A (collect (.ref a)) Q E s := by
  have al : a < s.heap.objs.size := Heap.lt_size ho
  unfold collect
  refine wpAny_bind (wpAny_runValue (codeAny_builtin PySem.F.entry_proto_collect ?_)); rw [Around.under_plainId PySem.F.plain_proto_collect _]
  show wpAny (model prog w) A.in1 (newList [] >>= λ l => again (.builtin "list.__iadd__" ⟨[l,.ref a],[]⟩)) _ _ s
  refine wpAny_bind (wpAny_newObj_type (wpAny_pure ⟨plainId_quiet PySem.F.plain_list_iadd _,codeAny_builtin PySem.F.entry_list_iadd ?_⟩)); rw [Around.under_plainId PySem.F.plain_list_iadd _]
  generalize hn : s.heap.push { cls := .type "list",data := .seq ([] : List Value).toArray } = h1
  have g1 : h1.get? s.heap.objs.size = some { cls := .type "list",data := .seq ([] : List Value).toArray } := by rw [← hn]; exact Heap.get?_push_size _ rfl
  have k1 : ∀ b q,s.heap.get? b = some q → h1.get? b = some q := λ b q z => by rw [← hn]; exact Heap.get?_push_of_some _ z
  have z1 : h1.objs.size = s.heap.objs.size + 1 := by rw [← hn]; exact Heap.size_push ..
  have ty : Shared.TypeIs { s with heap := h1 } (.ref a) "set" := ⟨o,k1 _ _ ho,hx.1⟩
  show wpAny (model prog w) A.in1 (Builtin.List.listExtendWith (.ref s.heap.objs.size) (.ref a) (.ref s.heap.objs.size)) _ _ { s with heap := h1 }
  unfold Builtin.List.listExtendWith
  refine wpAny_bind (wpAny_typeOf ty ?_)
  have ne : Builtin.List.listSameRef (.ref s.heap.objs.size) (.ref a) = false := by
    simp only [Builtin.List.listSameRef,beq_eq_false_iff_ne]
    exact Nat.ne_of_gt al
  rw [if_neg (by rw [ne]; decide)]
  refine wpAny_bind (iter_set (s := { s with heap := h1 }) (k1 _ _ ho) hx hd ft np λ h2 i2 k2 => ?_)
  have ty2 : Shared.TypeIs { s with heap := h2 } (.ref a) "set" := ⟨o,k2 _ _ (k1 _ _ ho),hx.1⟩
  refine wpAny_bind (wpAny_holding ?_)
  unfold Builtin.List.listLengthHint
  refine wpAny_bind (wpAny_specialOf ty2 PySem.F.slot_set_len.lookup ?_)
  generalize hid : ("set.__len__" : String) = id0; (fail_if_success (clear hid id0)); wp_delta; rw [show splitId id0 = some ("set", "__len__") from by subst hid; decide +kernel]; subst hid
  refine wpAny_bind (wpAny_isInstance (b := true) ty2 sub_set_self ?_)
  simp only [Bool.not_true,Bool.false_eq_true,if_false]
  rw [if_pos (by decide +kernel)]
  refine wpAny_bind (wpAny_typeOf ty2 (wpAny_pure ?_))
  rw [if_pos (by decide +kernel)]
  refine wpAny_bind (wpAny_rule (wpAny_bind ?_))
  unfold Builtin.List.listTouch
  have gs : h2.get? s.heap.objs.size = some { cls := .type "list",data := .seq ([] : List Value).toArray } := k2 _ _ g1
  refine wpAny_bind (listUpdate_at (s := { s with heap := h2 }) gs rfl ?_)
  have g3 := get?_update_seq (show h2.get? s.heap.objs.size = some (seqObj "list" ([] : List Value).toArray 0) from gs) λ x => x.push Value.none
  have b3 := Heap.SameBut.update h2 s.heap.objs.size (Obj.mapSeq λ x => x.push Value.none)
  show wpAny (model prog w) _ _ _ _ { s with heap := h2.update s.heap.objs.size (Obj.mapSeq λ x => x.push Value.none) }
  generalize h2.update s.heap.objs.size (Obj.mapSeq λ x => x.push Value.none) = h3 at g3 b3 ⊢
  refine listUpdate_at (s := { s with heap := h3 }) g3 rfl ?_
  have g4 := get?_update_seq g3 λ x => x.pop
  have b4 := Heap.SameBut.update h3 s.heap.objs.size (Obj.mapSeq λ x => x.pop)
  show wpAny (model prog w) _ _ _ _ { s with heap := h3.update s.heap.objs.size (Obj.mapSeq λ x => x.pop) }
  generalize h3.update s.heap.objs.size (Obj.mapSeq λ x => x.pop) = h4 at g4 b4 ⊢
  have ai : a ≠ h1.objs.size := by rw [z1]; exact Nat.ne_of_lt (Nat.lt_succ_of_lt al)
  have as : a ≠ s.heap.objs.size := Nat.ne_of_lt al
  have is : h1.objs.size ≠ s.heap.objs.size := by rw [z1]; exact Nat.succ_ne_self _
  have W := walk_set (prog := prog) (A := A.in1) (it := h1.objs.size) (o := o) (by simp [hh]) ai hd ft tb np
  have keep : ∀ b q,b ≠ s.heap.objs.size → h2.get? b = some q → h4.get? b = some q := λ b q nb z => (b4.2 b nb).trans ((b3.2 b nb).trans z)
  have st : StI w h1.objs.size a o es ep t 0 { s with heap := h4 } := ⟨0,keep _ _ is i2,keep _ _ as (k2 _ _ (k1 _ _ ho)),λ z => below_zero (rises_of (w := w) ft tb (np z))⟩
  have nf : s.heap.objs.size ∉ [h1.objs.size,a] := λ z => by
    rcases List.mem_cons.mp z with z | z
    · exact is z.symm
    · exact as (List.mem_singleton.mp z).symm
  refine wpAny_pure ⟨plainId_quiet PySem.F.plain_extend_loop _,codeAny_extend_loopS W small _ nf _ es.size 0 _ _ _ rfl (Nat.zero_le _) st g4 (ItemsOf.nil _) λ s' acc c m gS items => ?_⟩
  show wpAny (model prog w) A (load s.heap.objs.size >>= _) _ _ s'
  refine wpAny_bind (wpAny_load gS (wpAny_pure ?_))
  have el : acc.toList = (ordI w a es ep).toList.map (·.2) := by
    have sz : (ordI w a es ep).size = es.size := by
      have := (ordI_perm (w := w) (a := a) (es := es) (ep := ep)).length_eq
      simpa using this
    refine List.ext_getElem (by simp [items.1,sz]) λ j p q => ?_
    have hj : j < acc.size := by simpa using p
    have this : ((ordI w a es ep)[j]?).map (·.2) = some acc[j] := items.2 j acc[j] (Array.getElem?_eq_getElem hj)
    have hj2 : j < (ordI w a es ep).size := by simpa using q
    rw [Array.getElem?_eq_getElem hj2] at this
    have e := Option.some.inj this
    simp [← e]
  obtain ⟨h5,g5,d5,t5,o5⟩ := s'
  have e1 : s.gens = g5 := m.gens
  have e2 : d5 = s.drawn := m.drawn
  have e3 : o5 = s.os := m.os
  subst e1 e2 e3
  show Q acc.toList _
  rw [el]
  refine hQ h5 t5 (Heap.lt_size gS) λ b q z => ?_
  have lb : b < s.heap.objs.size := Heap.lt_size z
  have nb : b ≠ s.heap.objs.size := Nat.ne_of_lt lb
  refine m.heap b q (λ y => ?_) (keep b q nb (k2 _ _ (k1 _ _ z)))
  rcases List.mem_cons.mp y with y | y
  · exact nb y
  · have := List.mem_singleton.mp y
    rw [this,z1] at lb
    exact absurd lb (Nat.not_lt.mpr (Nat.le_succ _))
end
end FK
namespace FK
open PySem PySem.Spec PyProof.Rows
set_option maxRecDepth 100000
def ItDr (h : Heap) (it T a : Addr) (n ep i : Nat) : Prop :=
  h.get? it = some { cls := .type "set_iterator",dict := none,data := .fields #[.ref T,.int i 0,.ref a,.int n 0,.int ep 0],slots := #[] }
def PlT (h : Heap) (T : Addr) (ps : List Nat) : Prop := ∃ q m,h.get? T = some q∧q.data = .seq (ps.map λ (p : Nat) => rawInt (p : Int)).toArray m
section
variable {prog : Program} {w : World} {A : Around} {E : Value→Shared→Prop} {s : Shared} {a it T : Addr} {o : Obj} {es : Array (Int × Value)} {ep i : Nat} {t : SetTable} {ps : List Nat}
theorem dr_next {p : Nat} {e : Int × Value} {Q : Option Value→Shared→Prop} (hit : ItDr s.heap it T a es.size ep i) (hT : PlT s.heap T ps) (ho : s.heap.get? a = some o) (hd : o.data = .set es ep t) (ft : t.fits es.size = true)
    (hp : ps[i]? = some p) (he : es[p]? = some e)
    (hQ : ∀ h',ItDr h' it T a es.size ep (i + 1) → Heap.SameBut it s.heap h' → Q (some e.2) { s with heap := h' }) : wpAny (model prog w) A (pyNext (.ref it)) Q E s := by
  have ty : s.TypeIs (.ref it) "set_iterator" := ⟨_,hit,rfl⟩
  obtain ⟨q,m,g1,g2⟩ := hT
  unfold pyNext
  refine wpAny_bind (wpAny_attempt (wpAny_callSpecial?_slot (name := Str.ofString "__next__") ty sl_next (wpAny_call_entry sl_next ty en_next ?_ (ar_next _))))
  refine wpAny_bind (wpAny_pure (wpAny_bind (wpAny_fieldsOf hit rfl ?_)))
  show wpAny (model prog w) A.in1 (setEntries a >>= _) _ _ s
  unfold setEntries
  refine wpAny_bind (wpAny_bind (wpAny_setState_of ho hd ft (wpAny_pure ?_)))
  rw [if_neg (by simp)]
  show wpAny (model prog w) A.in1 (seqItems? (.ref T) >>= _) _ _ s
  refine wpAny_bind (wpAny_seqItems g1 g2 ?_)
  have ei : ((ps.map λ (p : Nat) => rawInt (p : Int)).toArray)[((i : Nat) : Int).toNat]? = some (rawInt (p : Int)) := by
    rw [Int.toNat_natCast]
    simp [hp]
  dsimp only
  rw [ei]
  show wpAny (model prog w) A.in1 (setNextDrawn a ((p : Nat) : Int).toNat ((ep : Nat) : Int).toNat >>= _) _ _ s
  rw [Int.toNat_natCast,Int.toNat_natCast]
  refine wpAny_bind ?_
  unfold setNextDrawn
  refine wpAny_bind (wpAny_setState_of ho hd ft ?_)
  dsimp only
  rw [if_neg (by simp),he]
  obtain ⟨hsh,x⟩ := e
  refine wpAny_pure ?_
  refine wpAny_bind (wpAny_setField_rec hit (by simp) λ h4 e4 b4 => ?_)
  refine wpAny_pure ⟨_,rfl,wpAny_pure (hQ h4 ?_ b4)⟩
  have e5 : ((i + 1 : Nat) : Int) = (i : Int) + 1 := by omega
  unfold ItDr
  rw [e5]
  simpa [rawInt] using e4
theorem dr_end {Q : Option Value→Shared→Prop} (hh : A.handled = none) (hit : ItDr s.heap it T a es.size ep i) (hT : PlT s.heap T ps) (ho : s.heap.get? a = some o) (hd : o.data = .set es ep t) (ft : t.fits es.size = true)
    (hp : ps[i]? = none) (hQ : ∀ h',Heap.ExtBut it s.heap h' → Q none { s with heap := h' }) : wpAny (model prog w) A (pyNext (.ref it)) Q E s := by
  have ty : s.TypeIs (.ref it) "set_iterator" := ⟨_,hit,rfl⟩
  obtain ⟨q,m,g1,g2⟩ := hT
  unfold pyNext
  refine wpAny_bind (wpAny_attempt (wpAny_callSpecial?_slot (name := Str.ofString "__next__") ty sl_next (wpAny_call_entry sl_next ty en_next ?_ (ar_next _))))
  refine wpAny_bind (wpAny_pure (wpAny_bind (wpAny_fieldsOf hit rfl ?_)))
  show wpAny (model prog w) A.in1 (setEntries a >>= _) _ _ s
  unfold setEntries
  refine wpAny_bind (wpAny_bind (wpAny_setState_of ho hd ft (wpAny_pure ?_)))
  rw [if_neg (by simp)]
  show wpAny (model prog w) A.in1 (seqItems? (.ref T) >>= _) _ _ s
  refine wpAny_bind (wpAny_seqItems g1 g2 ?_)
  have ei : ((ps.map λ (p : Nat) => rawInt (p : Int)).toArray)[((i : Nat) : Int).toNat]? = none := by
    rw [Int.toNat_natCast]
    have : ps.length ≤ i := by simpa using hp
    simp [this]
  dsimp only
  rw [ei]
  dsimp only
  refine wpAny_bind (wpAny_setField_rec hit (by simp) λ h3 e3 b3 => wpAny_bind (wpAny_setField e3 rfl (by simp) (wpAny_bind ?_)))
  simp only [newExc,newTuple]
  refine wpAny_bind (wpAny_newObj_type ?_ (by size_fits))
  refine wpAny_bind (m := firstArgMember _ _) (wpAny_of_eq (a := Value.none) (by first | rfl | (simp only [firstArgMember]; rfl)) (wpAny_newObj_type ?_ (by size_fits)))
  simp only [raiseNew]
  refine wpAny_bind (wpAny_handled ?_)
  rw [show A.in1.handled = none from hh]
  refine wpAny_bind (wpAny_pure (wpAny_throw ?_)); refine wpAny_bind (wpAny_isInstance (T := "StopIteration") (b := true) ⟨_,Heap.get?_push_size _ rfl,rfl⟩ isSubtype_stop ?_)
  have b3' : Heap.SameBut it s.heap h3 := b3
  exact wpAny_pure (hQ _ (((b3'.trans (Heap.SameBut.update ..)).extBut.push _).push _))
end
end FK
namespace FK
open PySem PySem.Spec PyProof.Rows
set_option maxRecDepth 100000
section
variable {prog : Program} {w : World} {A : Around} {E : Value→Shared→Prop} {s : Shared} {a : Addr} {o : Obj} {es : Array (Int × Value)} {ep : Nat} {t : SetTable}
theorem wp_isDrawn {Q : Bool→Shared→Prop} (ho : s.heap.get? a = some o) (hd : o.data = .set es ep t) (ft : t.fits es.size = true) (b : byT w = false) (p : t.plain = false) (z : 1 < es.size) (h : Q true s) : wpAny (model prog w) A (setDrawn a) Q E s := by
  unfold setDrawn
  refine wpAny_bind (wpAny_setState_of ho hd ft ?_)
  dsimp only
  refine wpAny_bind (wp_byT (wpAny_pure ?_))
  show Q (!byT w && (!t.plain && decide (es.size > 1))) s
  rw [b,p,decide_eq_true z]
  exact h
theorem iter_drawn {Q : Value→Shared→Prop} (ho : s.heap.get? a = some o) (hx : o.ExactSet) (hd : o.data = .set es ep t) (ft : t.fits es.size = true) (b : byT w = false) (p : t.plain = false) (z : 1 < es.size) (small : es.size≤1000000)
    (hQ : ∀ h' d' ps,ps.Perm (List.range es.size) → ItDr h' (s.heap.objs.size + 1) s.heap.objs.size a es.size ep 0 → PlT h' s.heap.objs.size ps → h'.objs.size = s.heap.objs.size + 2 → (∀ b q,s.heap.get? b = some q → h'.get? b = some q) → Q (.ref (s.heap.objs.size + 1)) { s with heap := h',drawn := d' }) : wpAny (model prog w) A (pyIter (.ref a)) Q E s := by
  have ty : s.TypeIs (.ref a) "set" := ⟨o,ho,hx.1⟩
  refine wpAny_pyIter_slot ty PySem.F.slot_set_iter (wpAny_call_entry PySem.F.slot_set_iter ty en_iter ?_ (PySem.F.args_set_iter_1 _))
  unfold Builtin.«frozenset.__iter__»
  refine wpAny_bind (wpAny_pure ?_)
  unfold Builtin.Frozenset.sizeOf setEntries
  refine wpAny_bind (wpAny_bind (wpAny_bind (wpAny_setState_of ho hd ft (wpAny_pure (wpAny_pure ?_)))))
  refine wpAny_bind (wp_isDrawn ho hd ft b p z ?_)
  simp only [if_true]
  refine wpAny_bind (wp_draw es.size (List.range es.size) (by simp) λ ps dr pm => ?_)
  have pl : ps.length = es.size := by rw [pm.length_eq]; simp
  refine wpAny_bind (wpAny_newTuple ?_ (by first | (simp [sizeLine_eq]; omega) | skip))
  generalize hn : s.heap.push { cls := .type "tuple",data := .seq (ps.map λ (i : Nat) => rawInt (i : Int)).toArray } = h1
  have g1 : h1.get? s.heap.objs.size = some { cls := .type "tuple",data := .seq (ps.map λ (i : Nat) => rawInt (i : Int)).toArray } := by rw [← hn]; exact Heap.get?_push_size _ rfl
  have k1 : ∀ b q,s.heap.get? b = some q → h1.get? b = some q := λ b q z => by rw [← hn]; exact Heap.get?_push_of_some _ z
  have z1 : h1.objs.size = s.heap.objs.size + 1 := by rw [← hn]; exact Heap.size_push ..
  show wpAny (model prog w) A.in1 (setEpoch a >>= _) _ _ { s with heap := h1,drawn := dr }
  refine wpAny_bind (wpAny_setEpoch_of (s := { s with heap := h1,drawn := dr }) (k1 _ _ ho) hd ft (wpAny_bind (wpAny_newObj_type (wpAny_pure ⟨_,rfl, "set_iterator",_,⟨_,Heap.get?_push_size _ rfl,rfl⟩,sl_next.lookup,?_⟩))))
  have g2 := Heap.get?_push_size h1 (o := { cls := .type "set_iterator",data := .fields #[.ref s.heap.objs.size,.int 0 0,.ref a,.int es.size 0,.int ep 0] }) rfl
  rw [z1] at g2
  have fin := hQ (h1.push { cls := .type "set_iterator",data := .fields #[.ref s.heap.objs.size,.int 0 0,.ref a,.int es.size 0,.int ep 0] }) dr ps pm g2 ⟨_,_,Heap.get?_push_of_some _ g1,rfl⟩ (by rw [Heap.size_push,z1]) λ b q z => Heap.get?_push_of_some _ (k1 _ _ z)
  rw [← z1] at fin
  exact fin
end
section
variable {prog : Program} {w : World} {A : Around} {a it T : Addr} {o : Obj} {es : Array (Int × Value)} {ep : Nat} {t : SetTable} {ps : List Nat}
def StD (it T a : Addr) (o : Obj) (n ep : Nat) (ps : List Nat) (i : Nat) (s : Shared) : Prop := ItDr s.heap it T a n ep i∧PlT s.heap T ps∧s.heap.get? a = some o
theorem walk_drawn (hh : A.handled = none) (ne : a≠it) (nT : T≠it) (hd : o.data = .set es ep t) (ft : t.fits es.size = true) (pm : ps.Perm (List.range es.size)) :
    WalksS prog w A it [it,T,a] [it] Eq es.size (λ i v => ∃ p e,ps[i]? = some p ∧ es[p]? = some e ∧ e.2 = v) (StD it T a o es.size ep ps) where
  sub := λ b hb => by simp at hb; simp [hb]
  grefl := λ _ => rfl
  gtrans := λ _ _ _ x y => x.trans y
  frame := λ i s h' tk st _ k => by
    obtain ⟨h1,⟨q,m,h2,h3⟩,h4⟩ := st
    exact ⟨k it (by simp) _ h1,⟨q,m,k T (by simp) _ h2,h3⟩,k a (by simp) _ h4⟩
  item := λ i s Q E hi st hQ => by
    obtain ⟨h1,h2,h3⟩ := st
    have pl : ps.length = es.size := by rw [pm.length_eq]; simp
    have hp : ps[i]? = some (ps[i]'(by omega)) := List.getElem?_eq_getElem (by omega)
    have lt : ps[i]'(by omega) < es.size := List.mem_range.mp (pm.mem_iff.mp (List.getElem_mem _))
    have he : es[ps[i]'(by omega)]? = some es[ps[i]'(by omega)] := Array.getElem?_eq_getElem lt
    refine dr_next h1 h2 h3 hd ft hp he λ h' i1 sb => ?_
    obtain ⟨q,m,g2,g3⟩ := h2
    exact hQ _ { s with heap := h' } ⟨_,_,hp,he,rfl⟩ ⟨i1,⟨q,m,(sb.2 T nT).trans g2,g3⟩,(sb.2 a ne).trans h3⟩ ⟨λ b q hb e => (sb.2 b (λ z => hb (by simp [z]))).trans e,rfl,rfl,rfl,Nat.le_refl _⟩
  done := λ s Q E st hQ => by
    obtain ⟨h1,h2,h3⟩ := st
    have pl : ps.length = es.size := by rw [pm.length_eq]; simp
    exact dr_end hh h1 h2 h3 hd ft (by simp [pl]) λ h' eb => hQ { s with heap := h' } ⟨λ b q hb e => eb b q (λ z => hb (by simp [z])) e,rfl,rfl,rfl,Nat.le_refl _⟩
  self := λ i s Q E st hQ => by
    obtain ⟨h1,_,_⟩ := st
    have ty : s.TypeIs (.ref it) "set_iterator" := ⟨_,h1,rfl⟩
    refine wpAny_pyIter_slot ty sl_self (wpAny_call_entry sl_self ty en_self ?_ (ar_self _))
    show wpAny (model prog w) A.in1 (ret (.ref it)) _ _ s
    exact wpAny_pure ⟨_,rfl, "set_iterator",_,ty,sl_next.lookup,hQ⟩
end
end FK
namespace FK
open PySem PySem.Spec PyProof.Rows
set_option maxRecDepth 100000
section
variable {prog : Program} {w : World} {A : Around} {E : Value→Shared→Prop} {s : Shared} {a : Addr} {o : Obj} {es : Array (Int × Value)} {ep : Nat} {t : SetTable}
theorem collect_drawn {Q : List Value→Shared→Prop} (hh : A.handled = none) (ho : s.heap.get? a = some o) (hx : o.ExactSet) (hd : o.data = .set es ep t) (ft : t.fits es.size = true) (bt : byT w = false) (np : t.plain = false) (gt : 1 < es.size) (small : es.size≤1000000)
    (hQ : ∀ h' tk d' vs,vs.Perm (es.toList.map (·.2)) → s.heap.objs.size < h'.objs.size → (∀ b q,s.heap.get? b = some q → h'.get? b = some q) → Q vs { s with heap := h',toks := tk,drawn := d' }) : wpAny (model prog w) A (collect (.ref a)) Q E s := by
  have al : a < s.heap.objs.size := Heap.lt_size ho
  unfold collect
  refine wpAny_bind (wpAny_runValue (codeAny_builtin PySem.F.entry_proto_collect ?_)); rw [Around.under_plainId PySem.F.plain_proto_collect _]
  show wpAny (model prog w) A.in1 (newList [] >>= λ l => again (.builtin "list.__iadd__" ⟨[l,.ref a],[]⟩)) _ _ s
  refine wpAny_bind (wpAny_newObj_type (wpAny_pure ⟨plainId_quiet PySem.F.plain_list_iadd _,codeAny_builtin PySem.F.entry_list_iadd ?_⟩)); rw [Around.under_plainId PySem.F.plain_list_iadd _]
  generalize hn : s.heap.push { cls := .type "list",data := .seq ([] : List Value).toArray } = h1
  have g1 : h1.get? s.heap.objs.size = some { cls := .type "list",data := .seq ([] : List Value).toArray } := by rw [← hn]; exact Heap.get?_push_size _ rfl
  have k1 : ∀ b q,s.heap.get? b = some q → h1.get? b = some q := λ b q z => by rw [← hn]; exact Heap.get?_push_of_some _ z
  have z1 : h1.objs.size = s.heap.objs.size + 1 := by rw [← hn]; exact Heap.size_push ..
  have ty : Shared.TypeIs { s with heap := h1 } (.ref a) "set" := ⟨o,k1 _ _ ho,hx.1⟩
  show wpAny (model prog w) A.in1 (Builtin.List.listExtendWith (.ref s.heap.objs.size) (.ref a) (.ref s.heap.objs.size)) _ _ { s with heap := h1 }
  unfold Builtin.List.listExtendWith
  refine wpAny_bind (wpAny_typeOf ty ?_)
  have ne : Builtin.List.listSameRef (.ref s.heap.objs.size) (.ref a) = false := by
    simp only [Builtin.List.listSameRef,beq_eq_false_iff_ne]
    exact Nat.ne_of_gt al
  rw [if_neg (by rw [ne]; decide)]
  refine wpAny_bind (iter_drawn (s := { s with heap := h1 }) (k1 _ _ ho) hx hd ft bt np gt small λ h2 dr ps pm i2 pT z2 k2 => ?_)
  have ty2 : Shared.TypeIs { s with heap := h2,drawn := dr } (.ref a) "set" := ⟨o,k2 _ _ (k1 _ _ ho),hx.1⟩
  refine wpAny_bind (wpAny_holding ?_)
  unfold Builtin.List.listLengthHint
  refine wpAny_bind (wpAny_specialOf ty2 PySem.F.slot_set_len.lookup ?_)
  generalize hid : ("set.__len__" : String) = id0; (fail_if_success (clear hid id0)); wp_delta; rw [show splitId id0 = some ("set", "__len__") from by subst hid; decide +kernel]; subst hid
  refine wpAny_bind (wpAny_isInstance (b := true) ty2 sub_set_self ?_)
  simp only [Bool.not_true,Bool.false_eq_true,if_false]
  rw [if_pos (by decide +kernel)]
  refine wpAny_bind (wpAny_typeOf ty2 (wpAny_pure ?_))
  rw [if_pos (by decide +kernel)]
  refine wpAny_bind (wpAny_rule (wpAny_bind ?_))
  unfold Builtin.List.listTouch
  have gs : h2.get? s.heap.objs.size = some { cls := .type "list",data := .seq ([] : List Value).toArray } := k2 _ _ g1
  refine wpAny_bind (listUpdate_at (s := { s with heap := h2,drawn := dr }) gs rfl ?_)
  have g3 := get?_update_seq (show h2.get? s.heap.objs.size = some (seqObj "list" ([] : List Value).toArray 0) from gs) λ x => x.push Value.none
  have b3 := Heap.SameBut.update h2 s.heap.objs.size (Obj.mapSeq λ x => x.push Value.none)
  show wpAny (model prog w) _ _ _ _ { s with drawn := dr,heap := h2.update s.heap.objs.size (Obj.mapSeq λ x => x.push Value.none) }
  generalize h2.update s.heap.objs.size (Obj.mapSeq λ x => x.push Value.none) = h3 at g3 b3 ⊢
  refine listUpdate_at (s := { s with heap := h3,drawn := dr }) g3 rfl ?_
  have g4 := get?_update_seq g3 λ x => x.pop
  have b4 := Heap.SameBut.update h3 s.heap.objs.size (Obj.mapSeq λ x => x.pop)
  show wpAny (model prog w) _ _ _ _ { s with drawn := dr,heap := h3.update s.heap.objs.size (Obj.mapSeq λ x => x.pop) }
  generalize h3.update s.heap.objs.size (Obj.mapSeq λ x => x.pop) = h4 at g4 b4 ⊢
  have ai : a ≠ h1.objs.size + 1 := by rw [z1]; exact Nat.ne_of_lt (Nat.lt_succ_of_lt (Nat.lt_succ_of_lt al))
  have as : a ≠ s.heap.objs.size := Nat.ne_of_lt al
  have is : h1.objs.size + 1 ≠ s.heap.objs.size := by rw [z1]; exact Nat.ne_of_gt (Nat.lt_succ_of_lt (Nat.lt_succ_self _))
  have ts : h1.objs.size ≠ s.heap.objs.size := by rw [z1]; exact Nat.succ_ne_self _
  have W := walk_drawn (prog := prog) (w := w) (A := A.in1) (it := h1.objs.size + 1) (T := h1.objs.size) (o := o) (by simp [hh]) ai (Nat.ne_of_lt (Nat.lt_succ_self _)) hd ft pm
  have keep : ∀ b q,b ≠ s.heap.objs.size → h2.get? b = some q → h4.get? b = some q := λ b q nb z => (b4.2 b nb).trans ((b3.2 b nb).trans z)
  have st : StD (h1.objs.size + 1) h1.objs.size a o es.size ep ps 0 { s with heap := h4,drawn := dr } := by
    obtain ⟨q,m,y1,y2⟩ := pT
    exact ⟨keep _ _ is i2,⟨q,m,keep _ _ ts y1,y2⟩,keep _ _ as (k2 _ _ (k1 _ _ ho))⟩
  have nf : s.heap.objs.size ∉ [h1.objs.size + 1,h1.objs.size,a] := λ z => by
    rcases List.mem_cons.mp z with z | z
    · exact is z.symm
    · rcases List.mem_cons.mp z with z | z
      · exact ts z.symm
      · exact as (List.mem_singleton.mp z).symm
  refine wpAny_pure ⟨plainId_quiet PySem.F.plain_extend_loop _,codeAny_extend_loopS W (by rw [sizeLine_eq]; omega) _ nf _ es.size 0 _ _ _ rfl (Nat.zero_le _) st g4 (ItemsOf.nil _) λ s' acc c m gS items => ?_⟩
  show wpAny (model prog w) A (load s.heap.objs.size >>= _) _ _ s'
  refine wpAny_bind (wpAny_load gS (wpAny_pure ?_))
  have pl : ps.length = es.size := by rw [pm.length_eq]; simp
  have el : acc.toList = ps.map λ p => (es.toList.map (·.2)).getD p .none := by
    refine List.ext_getElem (by simp [items.1,pl]) λ j p q => ?_
    have hj : j < acc.size := by simpa using p
    obtain ⟨x,e,y1,y2,y3⟩ := items.2 j acc[j] (Array.getElem?_eq_getElem hj)
    have hj2 : j < ps.length := by simpa using q
    rw [List.getElem?_eq_getElem hj2] at y1
    cases y1
    simp only [List.getElem_map,Array.getElem_toList]
    rw [← y3,List.getD_eq_getElem?_getD,List.getElem?_map,Array.getElem?_toList,y2]
    rfl
  have ev : (ps.map λ p => (es.toList.map (·.2)).getD p .none).Perm (es.toList.map (·.2)) := by
    have h1 := pm.map λ p => (es.toList.map (·.2)).getD p Value.none
    have h2 : (List.range es.size).map (λ p => (es.toList.map (·.2)).getD p Value.none) = es.toList.map (·.2) := by
      refine List.ext_getElem (by simp) λ j p q => ?_
      have hj : j < es.size := by simpa using p
      simp [hj]
    rwa [h2] at h1
  obtain ⟨h5,g5,d5,t5,o5⟩ := s'
  have e1 : s.gens = g5 := m.gens
  have e2 : d5 = dr := m.drawn
  have e3 : o5 = s.os := m.os
  subst e1 e2 e3
  show Q acc.toList _
  rw [el]
  refine hQ h5 t5 _ _ ev (Heap.lt_size gS) λ b q z => ?_
  have lb : b < s.heap.objs.size := Heap.lt_size z
  have nb : b ≠ s.heap.objs.size := Nat.ne_of_lt lb
  refine m.heap b q (λ y => ?_) (keep b q nb (k2 _ _ (k1 _ _ z)))
  rcases List.mem_cons.mp y with y | y
  · exact nb y
  · have := List.mem_singleton.mp y
    rw [this,z1] at lb
    exact absurd lb (Nat.not_lt.mpr (Nat.le_succ_of_le (Nat.le_succ _)))
end
end FK
namespace FK
open PySem PySem.W PySem.Spec PySem.Calls PyProof.Rows L2 FT
set_option maxRecDepth 100000
section
variable {prog : Program} {w : World} {A : Around} {E : Value→Shared→Prop} {s : Shared} {a : Addr} {S : Int→Prop} {n : Nat}
theorem ints_all : ∀ {vs : List Value},(∀ v∈vs,∃ k t,v = .int k t)→∃ ks,IntsAre vs ks
  | [],_ => ⟨[],.nil⟩
  | v :: vs,h => by
    obtain ⟨ks,r⟩ := ints_all (vs := vs) λ x hx => h x (List.mem_cons_of_mem _ hx)
    obtain ⟨k,t,rfl⟩ := h v List.mem_cons_self
    exact ⟨k :: ks,.cons k t r⟩
def vI : Value→Int
  | .int k _ => k
  | _ => 0
theorem ints_map : ∀ {vs : List Value} {ks : List Int},IntsAre vs ks→vs.map vI = ks
  | _,_,.nil => rfl
  | _,_,.cons k t r => congrArg (k :: ·) (ints_map r)
theorem collect_any {Q : List Value→Shared→Prop} (hh : A.handled = none) (g : SetI prog w s.heap a S n) (few : n≤1000000)
    (hQ : ∀ h' tk d' vs ks,IntsAre vs ks → ks.Nodup → (∀ k,k ∈ ks ↔ S k) → vs.length ≤ n → s.heap.objs.size < h'.objs.size → (∀ b q,s.heap.get? b = some q → h'.get? b = some q) → Q vs { s with heap := h',toks := tk,drawn := d' }) : wpAny (model prog w) A (collect (.ref a)) Q E s := by
  obtain ⟨o,es,ep,t,ho,hx,hd,el,nd,mem,sz,ft,tb⟩ := g
  have fin : ∀ (vs : List Value) h' tk d',vs.Perm (es.toList.map (·.2)) → s.heap.objs.size < h'.objs.size → (∀ b q,s.heap.get? b = some q → h'.get? b = some q) → Q vs { s with heap := h',toks := tk,drawn := d' } := λ vs h' tk d' pm hz kp => by
    obtain ⟨ks,r⟩ := ints_all (vs := vs) λ v hv => by
      obtain ⟨e,he,rfl⟩ := List.mem_map.mp (pm.mem_iff.mp hv)
      obtain ⟨t,q⟩ := elem_int el he
      exact ⟨_,t,q⟩
    have em : ks.Perm (es.toList.map vi) := by
      rw [← ints_map r]
      have := pm.map vI
      rw [List.map_map] at this
      exact this
    refine hQ h' tk d' vs ks r (em.nodup_iff.mpr nd) (λ k => em.mem_iff.trans (mem k)) ?_ hz kp
    have := pm.length_eq
    simp at this
    omega
  by_cases c : byT w = false → t.plain = true ∨ es.size ≤ 1
  · exact collect_set hh ho hx hd ft tb c (by rw [sizeLine_eq]; omega) λ h' tk hz kp => fin _ h' tk s.drawn (ordI_perm.map _) hz kp
  · have bt : byT w = false := Classical.byContradiction λ z => c λ y => absurd y z
    have np : ¬ (t.plain = true ∨ es.size ≤ 1) := λ z => c λ _ => z
    exact collect_drawn hh ho hx hd ft bt (by cases e : t.plain with | false => rfl | true => exact absurd (.inl e) np) (Nat.not_le.mp λ z => np (.inr z)) (by omega) λ h' tk d' vs pm hz kp => fin vs h' tk d' pm hz kp
end
end FK
namespace FK
open PySem PySem.W PySem.Spec PySem.Calls PyProof.Rows L2 FT
set_option maxRecDepth 100000
section
variable {prog : Program} {w : World} {A : Around} {E : Value→Shared→Prop} {s : Shared} {a : Addr} {S : Int→Prop} {n : Nat}
theorem ints_pick {vs : List Value} {ks : List Int} (r : IntsAre vs ks) : ∀ q : List Nat,(∀ i∈q,i < vs.length)→IntsAre (q.map λ i => vs.getD i Value.none) (q.map λ i => ks.getD i 0)
  | [],_ => .nil
  | i :: q,hq => by
    have ih := ints_pick r q λ j hj => hq j (List.mem_cons_of_mem _ hj)
    obtain ⟨t,e⟩ := int_at i r (hq i List.mem_cons_self)
    rw [List.map_cons,List.map_cons,e]
    exact .cons _ t ih
theorem sorted_setI {Q : Value→Shared→Prop} (hh : A.handled = none) (g : SetI prog w s.heap a S n) (few : n < 64)
    (h : ∀ b h' c vs ms tk d',s.heap.objs.size ≤ b → Kp s.heap h' → h'.get? b = some (seqObj "list" (List.toArray vs) c) → IntsAre vs ms → vs.length ≤ n → ms.Pairwise (· < ·) → (∀ k,k ∈ ms ↔ S k) → Q (.ref b) { s with heap := h',toks := tk,drawn := d' }) :
    wpAny (model prog w) A (call (.builtin "sorted") [.ref a]) Q E s := by
  refine Calls.call_function_entry kind_sorted plain_sorted entry_sorted (args_sorted1 _) ?_
  unfold Builtin.«sorted»
  refine wpAny_bind (m := checkCount "sorted" 1 1 _) (wpAny_pure (wpAny_bind (collect_any (A := A.in1) (by simp [hh]) g (by omega) λ h1 tk d' vs ks r nd mem vl hz kp => ?_)))
  have small : vs.length ≤ sizeLine := by rw [sizeLine_eq]; omega
  have ln : vs.length = ks.length := intsAre_len r
  refine wpAny_bind (wpAny_newList ?_ small)
  have g1 := Heap.get?_push_size h1 (o := seqObj "list" vs.toArray 0) rfl
  show wpAny (model prog w) _ _ _ _ { s with heap := h1.push (seqObj "list" vs.toArray 0),toks := tk,drawn := d' }
  have fin : ∀ p h' c,Pm vs.length p → Up (λ i => ks.getD i 0) p vs.length → Kp h1 h' → h'.get? h1.objs.size = some (seqObj "list" (outs vs p).toArray c) → Q (.ref h1.objs.size) { s with heap := h',toks := tk,drawn := d' } := λ p h' c hp hu k e => by
    rw [ln] at hp hu
    have so := isorted_out rfl hp hu
    have io : IntsAre (outs vs p) (isrt ks) := by
      rw [← so]
      exact ints_pick r p.toList λ i hi => by
        have m := (Array.perm_iff_toList_perm.mp hp).mem_iff (a := i)
        simp only [List.toList_toArray] at m
        have := List.mem_range.mp (m.mp hi)
        omega
    refine h _ h' c (outs vs p) (isrt ks) tk d' (Nat.le_of_lt hz) (λ b q y => k b q (kp b q y)) e io (by rw [intsAre_len io,(isrt_perm ks).length_eq,← ln]; exact vl) ?_ λ z => ((isrt_perm ks).mem_iff).trans (mem z)
    have up := isrt_up ks
    have nd' : (isrt ks).Nodup := (isrt_perm ks).nodup_iff.mpr nd
    rw [List.nodup_iff_pairwise_ne] at nd'
    exact (up.and nd').imp λ ⟨x,y⟩ => Int.lt_iff_le_and_ne.mpr ⟨x,y⟩
  refine wpAny_bind (wpAny_holding (wpAny_call_entry slot_list_sort ⟨_,g1,rfl⟩ entry_list_sort ?body (args_list_sort _)))
  case body =>
    by_cases h2 : 2 ≤ vs.length
    · refine lsort_raw (s := { s with heap := h1.push (seqObj "list" vs.toArray 0),toks := tk,drawn := d' }) (κ := oneType') (r := λ i => ks.getD i 0) (h0 := h1) (Kp.push _ _) (Nat.le_refl _) g1 h2 (by omega) (λ h' C kk hC => ?_) (λ h' i j C kk hi hj hC => ?_) λ p h' c hp hu k e => ?_
      · exact kas_kind (T := .type "int") h2 (λ v hv => by obtain ⟨n,t,rfl⟩ := intsAre_mem r v hv; exact .now) (by decide) (by decide) hC
      · obtain ⟨t1,a1⟩ := int_at i r hi
        obtain ⟨t2,a2⟩ := int_at j r hj
        unfold kas_ask
        rw [a1,a2]
        exact kat_lt_int hC
      · exact ⟨_,rfl,wpAny_pure ⟨_,rfl,fin p h' c hp hu k e⟩⟩
    · refine lsort_few (s := { s with heap := h1.push (seqObj "list" vs.toArray 0),toks := tk,drawn := d' }) (r := λ i => ks.getD i 0) (h0 := h1) (Kp.push _ _) (Nat.le_refl _) g1 (by omega) λ p h' c hp hu k e => ?_
      exact ⟨_,rfl,wpAny_pure ⟨_,rfl,fin p h' c hp hu k e⟩⟩
end
end FK
namespace FK
open PySem PySem.W PySem.Spec PySem.Calls PyProof.Rows L2 FL FT
set_option maxRecDepth 100000
theorem inv_draw {X : Cx} {pins : List (Addr × Obj)} {σ : L2.St} {H : Hp} {s : Shared} (I : L2.Inv X pins σ H s) (d' : Drawn) : L2.Inv X pins σ H { s with drawn := d' } := by
  exact { I with }
section
variable {X : Cx}
theorem call_setE (hc : X.calm = true) : CallR X (.type "set") (λ xs H Q => ∃ (l : Addr) (us : List V) (ns : List Int),xs = [V.ref l]∧SqL X.K H l us∧IsAll X.K H us (ns.map D.int)∧ns.length < 64 ∧
    ∀ b H',H b = none → H' = upd H b (.ext λ h => SetI X.prog X.w h b (· ∈ ns) ns.length) → Q (.ref b) H') := by
  intro pins s σ H xs us Q I r h
  obtain ⟨l,ws,ns,rfl,h1,h2,few,q⟩ := h
  obtain ⟨u,rfl,ru⟩ := vals1 r
  cases ru
  obtain ⟨its,w1,p1,_⟩ := I.list h1
  have e0 := ints_of h2
  have P : IntsAre its ns := FL.intsAre_of (by rw [← e0]; exact w1)
  have ln := intsAre_len P
  refine call_setI (ns := ns) (I.ok.hd hc) p1.isList (by simpa using P) (by unfold scanBound; simp; omega) λ h' tk g kp => ?_
  have g' : SetI X.prog X.w h' s.heap.objs.size (· ∈ ns) ns.length := by
    have e : its.toArray.size = ns.length := by simp [ln]
    rw [e] at g
    exact g.congr λ k => by
      constructor
      · rintro ⟨j,hj,rfl⟩
        rw [List.getD_eq_getElem?_getD,List.getElem?_eq_getElem hj]
        exact List.getElem_mem hj
      · intro hk
        obtain ⟨j,hj,e⟩ := List.mem_iff_getElem.mp hk
        exact ⟨j,hj,by rw [List.getD_eq_getElem?_getD,List.getElem?_eq_getElem hj]; exact e⟩
  refine ⟨.ref s.heap.objs.size,_,I.laid (a := s.heap.objs.size) (o := .ext λ h => SetI X.prog X.w h s.heap.objs.size (· ∈ ns) ns.length) (t' := tk) (λ b o z => kp b o (Heap.lt_size z) z) (Nat.le_refl _) ⟨g',?_,λ a1 a2 y1 y2 => y1.at y2⟩,rfl,q _ _ (I.hok.fresh (Nat.le_refl _)) rfl⟩
  obtain ⟨o,_,_,_,z,_⟩ := g'
  exact ⟨o,z⟩
theorem call_sortedE (hc : X.calm = true) : CallR X (.builtin "sorted") (λ xs H Q => ∃ (b : Addr) (S : Int→Prop) (n : Nat),xs = [V.ref b]∧H b = some (.ext λ h => SetI X.prog X.w h b S n)∧n < 64 ∧
    ∀ (c : Addr) (ms : List Int) (H' : Hp),H c = none → H' = upd H c (.lst (ms.map V.int)) → ms.Pairwise (· < ·) → (∀ k,k ∈ ms ↔ S k) → Q (.ref c) H') := by
  intro pins s σ H xs us Q I r h
  obtain ⟨b,S,n,rfl,h1,few,q⟩ := h
  obtain ⟨u,rfl,ru⟩ := vals1 r
  cases ru
  have g : SetI X.prog X.w s.heap b S n := (I.hok b _ h1).1
  refine sorted_setI (I.ok.hd hc) g few λ c h' cc vs ms tk d' hb kp gl io vl up mem => ?_
  have vv : ∀ {vs : List Value} {ms : List Int},IntsAre vs ms → Vals (ms.map V.int) vs := by
    intro vs ms io
    induction io with
    | nil => exact .nil
    | cons n t _ ih => exact .cons ⟨t,rfl⟩ ih
  have hn : H c = none := I.hok.fresh hb
  have sz : (ms.map V.int).length ≤ sizeLine := by
    have := intsAre_len io
    rw [sizeLine_eq,List.length_map]
    omega
  have I1 := I.laid (a := c) (o := .lst (ms.map V.int)) (t' := tk) kp hb ⟨sz,vs,cc,vv io,gl⟩
  exact ⟨.ref c,_,inv_draw I1 d',rfl,q c ms _ hn rfl up mem⟩
end
end FK
namespace FK
open PySem PySem.W PySem.Spec PySem.Calls PyProof.Rows L2 FL FT
set_option maxRecDepth 100000
theorem bo_set : bootBuiltins "set" = some (.type "set") := by decide +kernel
theorem rising_eq {l m : List Int} (hl : l.Pairwise (· < ·)) (hm : m.Pairwise (· < ·)) (e : ∀ k,k∈l↔k∈m) : l = m := by
  have nl : l.Nodup := List.nodup_iff_pairwise_ne.mpr (hl.imp λ h z => by omega)
  have nm : m.Nodup := List.nodup_iff_pairwise_ne.mpr (hm.imp λ h z => by omega)
  exact List.Perm.eq_of_pairwise (λ a b _ _ x y => by omega) hl hm ((List.perm_ext_iff_of_nodup nl nm).mpr e)
theorem ints_isAll {K : PySem.W.Frag} {H : Hp} : ∀ ms : List Int,IsAll K H (ms.map V.int) (ms.map D.int)
  | [] => .nil
  | k :: ms => .cons (.int k) (ints_isAll ms)
section
variable {X : Cx} {e : Expr} {ρ : FL.Ro} {d : D} {ns ms : List Int} {pos pos2 p p2 : Pos}
theorem evn_sortedSet (hc : X.calm = true) (hm : X.mg "sorted" = none) (hm2 : X.mg "set" = none) (h : Ev X e ρ d) (hd : lsD d = some (ns.map D.int)) (few : ns.length < 64) (up : ms.Pairwise (· < ·)) (mem : ∀ k,k∈ms↔k∈ns)
    (hg : Gl X "sorted" := by rfl) (hg2 : Gl X "set" := by rfl) (he : starEach [e] X.env = [(false,eval e X.env)] := by rfl)
    (he2 : starEach [Expr.Call (.Name "set" p2) [e] [] pos2] X.env = [(false,eval (Expr.Call (.Name "set" p2) [e] [] pos2) X.env)] := by rfl) : EvN X (.Call (.Name "sorted" p) [.Call (.Name "set" p2) [e] [] pos2] [] pos) ρ (ms.map D.int) := by
  refine PE.imp (pe_callB (call_sortedE hc) hg hm (by decide +kernel) (pa_cons (pe_callTy (call_setE hc) hg2 hm2 bo_set (ea_cons h ea_nil he) (by decide) (by decide) he rfl) pa_nil he2) (by decide) (by decide) he2 rfl) ?_
  rintro σ H Q ⟨r,q⟩
  refine ⟨r,λ vs H1 s1 h1 => ?_⟩
  obtain ⟨v,rfl,hv⟩ := one_inv h1
  obtain ⟨a,xs,rfl,hT,hA⟩ := hv.lsD_inv hd
  refine ⟨a,xs,ns,rfl,hT,hA,few,λ b H' hb e' => ?_⟩
  subst e'
  have s2 : Same H1 (upd H1 b (.ext λ h => SetI X.prog X.w h b (· ∈ ns) ns.length)) := same_new hb
  refine ⟨b,(· ∈ ns),ns.length,rfl,upd_same,few,λ c ms' H2 hcn e2 up' mem' => ?_⟩
  subst e2
  obtain rfl : ms' = ms := rising_eq up' up λ k => (mem' k).trans (mem k).symm
  have s3 := same_new (o := HO.lst (ms'.map V.int)) hcn
  exact q c (ms'.map V.int) _ ((s1.trans s2).free hcn) ((s1.trans s2).trans s3) upd_same (ints_isAll ms')
end
end FK
namespace CM
open PySem PySem.Spec L2 FL FT MG
noncomputable def PD (n : Nat) : List Int := isrt (((MD.PF n).map λ (p : Nat) => (p : Int)).foldl insC [])
theorem PD_mem {n : Nat} {k : Int} : k∈PD n↔k∈(MD.PF n).map λ (p : Nat) => (p : Int) := by
  unfold PD
  rw [(isrt_perm _).mem_iff,mem_foldC]
  simp
theorem PD_up (n : Nat) : (PD n).Pairwise (· < ·) := by
  have up := isrt_up (((MD.PF n).map λ (p : Nat) => (p : Int)).foldl insC [])
  have nd : (PD n).Nodup := (isrt_perm _).nodup_iff.mpr (foldC_nodup _ List.nodup_nil)
  rw [List.nodup_iff_pairwise_ne] at nd
  exact (up.and nd).imp λ ⟨x,y⟩ => Int.lt_iff_le_and_ne.mpr ⟨x,y⟩
theorem PF_few {n : Nat} (n0 : 0 < n) (h : n≤4000000) : (MD.PF n).length < 64 := by
  have key : ∀ m : Nat,0 < m → 2 ^ (MD.PF m).length ≤ m := by
    intro m
    induction m using Nat.strongRecOn with
    | _ m ih =>
      intro m0
      by_cases c : m < 2
      · rw [MD.PF_small c]
        show 1 ≤ m
        omega
      · have e : MD.PF m = MD.mf m :: MD.PF (m / MD.mf m) := by rw [MD.PF]; exact dif_neg c
        obtain ⟨h2,hd⟩ : 2 ≤ MD.mf m ∧ MD.mf m ∣ m := by
          have := PF_pr (MD.mf m) (by rw [e]; exact List.mem_cons_self)
          exact ⟨this.1.1,this.2⟩
        have dm : m / MD.mf m * MD.mf m = m := Nat.div_mul_cancel hd
        have q0 : 0 < m / MD.mf m := Nat.div_pos (Nat.le_of_dvd m0 hd) (by omega)
        have lt : m / MD.mf m < m := Nat.div_lt_self m0 (by omega)
        have := ih _ lt q0
        rw [e,List.length_cons,Nat.pow_succ]
        calc 2 ^ (MD.PF (m / MD.mf m)).length * 2 ≤ m / MD.mf m * MD.mf m := Nat.mul_le_mul this h2
          _ = m := dm
  refine Nat.not_le.mp λ z => ?_
  have h1 := key n n0
  have h2 := Nat.pow_le_pow_right (show 0 < 2 by decide) z
  have h3 : (4000000 : Nat) < 2 ^ 64 := by decide
  omega
def p_pd (ds es : List D) : Prop := ∃ n : Nat,ds = [nD n]∧0 < n∧n≤4000000∧es = (PD n).map D.int
end CM
namespace FL
open PySem PySem.Spec PyProof.Rows L2
def ItV (K : PySem.W.Frag) (a : Addr) (n : Nat) : It :=
  ⟨λ i H => ∃ xs x,SqL K H a xs ∧ i < n ∧ xs[n - 1 - i]? = some x,λ i H x H' => H' = H ∧ ∀ xs,SqL K H a xs → xs[n - 1 - i]? = some x,λ i _ => n ≤ i⟩
theorem turn_rev {P : Program} {w : World} {K : PySem.W.Frag} {tg : Expr} (a it : Addr) (n : Nat) : Turn P w K tg (ItV K a n) [it] it (λ i h => i≤n∧h.IsRevIter it a ((n : Int) - 1 - ((i : Nat) : Int))) where
  mem := by simp
  obj := λ i h st b hb => by
    have e : b = it := by simpa using hb
    subst e
    obtain ⟨_,o,e,c,d⟩ := st
    exact ⟨o,e,λ v z => by rw [d] at z; cases z⟩
  keep := λ i h h' st k => ⟨st.1,st.2.at λ o e => k it (by simp) o e⟩
  item := by
    intro X hP hw hK hc i pins s σ H E I hf st hg
    subst hP hw hK
    obtain ⟨xs,x,hq,hi,hx⟩ := hg
    obtain ⟨its,rv,p,hz⟩ := I.list hq
    obtain ⟨u,hu,ru⟩ := rv.get hx
    obtain ⟨f0,f1,f2,f3,f4,f5⟩ := hf it (by simp)
    obtain ⟨_,st⟩ := st
    have e1 : (n : Int) - 1 - ((i : Nat) : Int) = ((n - 1 - i : Nat) : Int) := by omega
    rw [e1] at st
    refine wpAny_pyNext_rev_item st p.isList (x := u) (by simpa using hu) λ h' st' sb => ?_
    have e2 : ((n - 1 - i : Nat) : Int) - 1 = (n : Int) - 1 - ((i + 1 : Nat) : Int) := by omega
    rw [e2] at st'
    have I1 : L2.Inv X pins σ H { s with heap := h' } := I.turned (t' := s.toks) (λ b o hb e => (sb.2 b hb).trans e) f0 f1 f3 f4 f5
    obtain ⟨o,e,c,d⟩ := id st'
    exact ⟨u,rfl,go_of (s := { s with heap := h' }) e c d (by decide) ⟨x,H,I1,ru,⟨rfl,λ ys hy => by rw [I.list_inj hy hq]; exact hx⟩,⟨by omega,st'⟩,λ b hb => (hf b hb).1⟩⟩
  done := by
    intro X hP hw hK hc i pins s σ H E I hf st hg
    subst hP hw hK
    obtain ⟨il,st⟩ := st
    have hg' : n ≤ i := hg
    obtain ⟨f0,f1,f2,f3,f4,f5⟩ := hf it (by simp)
    have e1 : (n : Int) - 1 - ((i : Nat) : Int) = -1 := by omega
    rw [e1] at st
    exact wpAny_pyNext_rev_end (I.ok.hd hc) st λ h' eb => ⟨rfl,I.turned (t' := s.toks) (λ b o hb e => eb b o hb e) f0 f1 f3 f4 f5⟩
  self := λ _ _ _ _ _ st h => wpAny_pyIter_revIter st.2 h
section
variable {X : Cx} {a tg : Expr} {ρ : Ro} {ds : List D} {pos p : Pos}
theorem wk_rev (hm : X.mg "reversed" = none) (he : EvN X a ρ ds) (hz : ∀ d∈ds,Fz d) (hg : Gl X "reversed" := by rfl) (h1 : starEach [a] X.env = [(false,eval a X.env)] := by rfl) :
    Wk X (λ _ => True) tg (.Call (.Name "reversed" p) [a] [] pos) ρ ds.reverse := by
  intro pins s σ H R I ⟨r,q⟩
  have ha : PA X [a] (λ σ H Q => tN X ρ ds σ H λ v H1 => Q [v] H1) := PA.imp (pa_cons he pa_nil h1) λ σ H Q z => by
    obtain ⟨z1,z2⟩ := z
    exact ⟨z1,λ a vs H' x1 x2 x3 x4 => z2 a vs H' x1 x2 x3 x4⟩
  refine Call_ (ld_blt (u := .type "reversed") I hg hm (by decide +kernel) (PyProof.Rows.callWith_type1 (thn (ha pos pins s σ H (λ vs H1 => ∃ l xs,vs = [V.ref l] ∧ H l = none ∧ Same H H1 ∧ H1 l = some (.lst xs) ∧ IsAll X.K H1 xs ds) I ⟨r.e,λ l xs H1 x1 x2 x3 x4 => ⟨l,xs,rfl,x1,x2,x3,x4⟩⟩) λ us s1 ⟨vs,H1,I1,r1,q1⟩ => ?_) h1 rfl))
  obtain ⟨l,xs,rfl,hl0,sm,hl,hxs⟩ := q1
  cases r1 with
  | cons ru rr =>
    cases rr
    cases ru
    obtain ⟨its,rv,pl,hsz⟩ := I1.list (.of hl : SqL X.K H1 l xs)
    refine call_reversed_list pl.isList ?_
    have en : ((its.toArray.size : Nat) : Int) - 1 = ((xs.length : Nat) : Int) - 1 - ((0 : Nat) : Int) := by
      have := rv.length
      simp
      omega
    have I2 : L2.Inv X pins σ H1 { s1 with heap := s1.heap.push (revObj l (((its.toArray.size : Nat) : Int) - 1)) } := I1.kept (t' := s1.toks) λ b o z => Heap.get?_push_of_some _ z
    have it0 : (s1.heap.push (revObj l (((its.toArray.size : Nat) : Int) - 1))).IsRevIter s1.heap.objs.size l (((xs.length : Nat) : Int) - 1 - ((0 : Nat) : Int)) := ⟨_,Heap.get?_push_size _ rfl,rfl,by rw [← en]; rfl⟩
    refine wpAny_pyIter_revIter (s := { s1 with heap := s1.heap.push (revObj l (((its.toArray.size : Nat) : Int) - 1)) }) it0 ⟨_,[s1.heap.objs.size],_,ItV X.K l xs.length,H1,rfl,I2,turn_rev l s1.heap.objs.size xs.length,⟨Nat.zero_le _,it0⟩,λ b hb => ?_,q _ H1 sm ?_⟩
    · obtain rfl : b = s1.heap.objs.size := by simpa using hb
      exact I1.fpOk (Nat.le_refl _) (I1.hok.fresh (Nat.le_refl _))
    · intro ρ' H3 σ3 g r3 _
      have nm : ¬ Mu ρ l := λ m => by obtain ⟨ys,z,_⟩ := r.mu m; rw [hl0] at z; cases z
      have hl3 : SqL X.K H3 l xs := .of (g.kept _ _ hl nm)
      have hx3 := hxs.keep (g.kt (r.mono sm)) hz
      have len := hx3.length
      refine ⟨λ i hi => by rw [List.length_reverse] at hi; show xs.length ≤ i; omega,λ i d hd => ?_⟩
      have hi : i < ds.length := by
        have := (List.getElem?_eq_some_iff.mp hd).1
        rwa [List.length_reverse] at this
      rw [List.getElem?_reverse hi] at hd
      rw [← len] at hd
      obtain ⟨y,hy,iy⟩ := hx3.get hd
      refine ⟨⟨xs,y,hl3,by omega,hy⟩,?_⟩
      rintro x H4 ⟨rfl,all⟩
      have hy' := all xs hl3
      rw [hy] at hy'
      cases hy'
      exact ⟨rfl,iy⟩
end
end FL
namespace FM
open PySem PySem.Spec PyProof.Rows L2 FL
section
variable {M : Model} {A : Around} {E : Value→Shared→Prop} {s : Shared} {name qualname : Str} {params : Arguments} {body : List Stmt} {sc : Scope} {env : Env} {mg : Str→Option Value} {c Pl : Addr} {ps : Array Value} {pos : Pos} {firstLine : Nat} {cl : List (Str × Addr)} {Q : Value→Shared→Prop}
end
section
variable {X : Cx} {pins : List (Addr × Obj)} {σ : L2.St} {H : Hp} {s : Shared} {E : Value→Shared→Prop} {M : Model} {A : Around}
end
end FM
namespace FM
open PySem PySem.Spec PyProof.Rows L2 FL
section
variable {P : Program} {w : World} {K : PySem.W.Frag} {mg : Str→Option Value} {base : Heap}
end
section
variable {P : Program} {w : World} {K : PySem.W.Frag} {mg : Str→Option Value} {base : Heap}
end
end FM
namespace FM
open PySem PySem.Spec PyProof.Rows L2 FL
section
variable {X : Cx} {Pl : Addr} {dp : Pos} {qn : Str} {e a b : Expr} {ρ : Ro} {d : D} {pos : Pos}
end
section
variable {P : Program} {w : World} {K : PySem.W.Frag} {mg : Str→Option Value} {base : Heap}
end
end FM
namespace MZ
open MP MJ MG
def pl (m n : Int) : Bool :=
  if m = 4 then decide (n % 4 = 1) else if m = 8 then decide (n % 8 = 1 ∨ n % 8 = 7) else if m = -8 then decide (n % 8 = 1 ∨ n % 8 = 3) else decide (n ^ (m.toNat / 2) % m = 1)
def OddPr (D m : Int) : Prop := ∃ p : Nat,m = (p : Int)∧Pr p∧p≠2∧(p : Int) ∣ D
def Mk2 (D m : Int) : Prop := D % 4 = 0∧((m = 4∧(-D / 4 % 8 = 0∨-D / 4 % 8 = 1∨-D / 4 % 8 = 4∨-D / 4 % 8 = 5))∨(m = 8∧(-D / 4 % 8 = 0∨-D / 4 % 8 = 6))∨(m = -8∧-D / 4 % 8 = 2))
def Mk (D m : Int) : Prop := OddPr D m∨Mk2 D m
theorem pr_odd {p : Nat} (h : Pr p) (h2 : p≠2) : p % 2 = 1 := by
  rcases Nat.mod_two_eq_zero_or_one p with z | z
  · rcases h.2 2 (Nat.dvd_of_mod_eq_zero z) with q | q
    · cases q
    · omega
  · exact z
theorem pl_pr {p : Nat} (hp : Pr p) (h2 : p≠2) (n : Int) : pl (p : Int) n = decide (n ^ (p / 2) % (p : Int) = 1) := by
  have := pr_odd hp h2
  unfold pl
  rw [if_neg (by omega),if_neg (by omega),if_neg (by omega),Int.toNat_natCast]
end MZ
namespace MY
open MP MJ MG MZ
structure PdL (n : Nat) (l : List Int) : Prop where
  up : l.Pairwise (· < ·)
  mem : ∀ k,k ∈ l ↔ ∃ p : Nat,k = (p : Int) ∧ Pr p ∧ p ∣ n
theorem PdL.pr {n : Nat} {l : List Int} (h : PdL n l) {k : Int} (hk : k∈l) : ∃ p : Nat,k = (p : Int)∧Pr p∧p ∣ n := (h.mem k).mp hk
theorem PdL.nod {n : Nat} {l : List Int} (h : PdL n l) : l.Nodup := by
  rw [List.nodup_iff_pairwise_ne]
  exact h.up.imp λ z => Int.ne_of_lt z
theorem pr_dvd_pr {p q : Nat} (hp : Pr p) (hq : Pr q) (h : q ∣ p) : q = p := by
  rcases hp.2 q h with z | z
  · have := hq.1
    omega
  · exact z
def tpS (a c : Int) (s : Int × Int) (p : Int) : Int × Int := if a % p≠0 then (s.1,s.2 * p) else if c % p≠0 then (s.1 * p,s.2) else s
def tp (a c : Int) (l : List Int) : Int × Int := l.foldl (tpS a c) (1,1)
def prodI : List Int→Int
  | [] => 1
  | x :: xs => x * prodI xs
theorem tp_pos {a c : Int} : ∀ (l : List Int),(∀ k∈l,0 < k)→∀ s : Int × Int,0 < s.1→0 < s.2→0 < (l.foldl (tpS a c) s).1∧0 < (l.foldl (tpS a c) s).2∧(l.foldl (tpS a c) s).1 * (l.foldl (tpS a c) s).2≤s.1 * s.2 * prodI l
  | [],_,s,h1,h2 => ⟨h1,h2,by show s.1 * s.2 ≤ s.1 * s.2 * 1; omega⟩
  | k :: l,h,s,h1,h2 => by
    have k0 := h k List.mem_cons_self
    have hr : ∀ k ∈ l,0 < k := λ k hk => h k (List.mem_cons_of_mem _ hk)
    have pp : ∀ l : List Int,(∀ k ∈ l,0 < k) → 0 < prodI l := by
      intro l
      induction l with
      | nil => intro _; decide
      | cons x xs ih => intro hx; exact Int.mul_pos (hx x List.mem_cons_self) (ih λ k hk => hx k (List.mem_cons_of_mem _ hk))
    have p0 := pp l hr
    rw [List.foldl_cons]
    have s0 := Int.mul_pos h1 h2
    unfold tpS
    split
    · obtain ⟨a1,a2,a3⟩ := tp_pos (a := a) (c := c) l hr (s.1,s.2 * k) h1 (Int.mul_pos h2 k0)
      refine ⟨a1,a2,Int.le_trans a3 (Int.le_of_eq ?_)⟩
      show s.1 * (s.2 * k) * prodI l = s.1 * s.2 * (k * prodI l)
      grind
    · split
      · obtain ⟨a1,a2,a3⟩ := tp_pos (a := a) (c := c) l hr (s.1 * k,s.2) (Int.mul_pos h1 k0) h2
        refine ⟨a1,a2,Int.le_trans a3 (Int.le_of_eq ?_)⟩
        show s.1 * k * s.2 * prodI l = s.1 * s.2 * (k * prodI l)
        grind
      · obtain ⟨a1,a2,a3⟩ := tp_pos (a := a) (c := c) l hr s h1 h2
        refine ⟨a1,a2,Int.le_trans a3 ?_⟩
        show s.1 * s.2 * prodI l ≤ s.1 * s.2 * (k * prodI l)
        refine Int.mul_le_mul_of_nonneg_left ?_ (Int.le_of_lt s0)
        have := Int.mul_le_mul_of_nonneg_right (show 1 ≤ k by omega) (Int.le_of_lt p0)
        omega
theorem prod_dvd {n : Nat} : ∀ {l : List Int},l.Nodup→(∀ k∈l,∃ p : Nat,k = (p : Int)∧Pr p∧p ∣ n)→∃ m : Nat,prodI l = (m : Int)∧m ∣ n∧∀ q : Nat,Pr q→q ∣ m→(q : Int)∈l
  | [],_,_ => ⟨1,rfl,Nat.one_dvd n,λ q hq h => by have := Nat.le_of_dvd Nat.one_pos h; have := hq.1; omega⟩
  | k :: l,nd,h => by
    obtain ⟨p,rfl,hp,hd⟩ := h k List.mem_cons_self
    rw [List.nodup_cons] at nd
    obtain ⟨m,e,md,mq⟩ := prod_dvd nd.2 λ k hk => h k (List.mem_cons_of_mem _ hk)
    refine ⟨p * m,by show (p : Int) * prodI l = _; rw [e]; simp,?_,λ q hq z => ?_⟩
    · have hnp : ¬ p ∣ m := λ z => nd.1 (mq p hp z)
      exact Nat.Coprime.mul_dvd_of_dvd_of_dvd (hp.cop hnp) hd md
    · rcases hq.mul z with z | z
      · rw [pr_dvd_pr hp hq z]
        exact List.mem_cons_self
      · exact List.mem_cons_of_mem _ (mq q hq z)
theorem tp_le {n : Nat} {l : List Int} (a c : Int) (hn : 0 < n) (h : PdL n l) : 0 < (tp a c l).1∧0 < (tp a c l).2∧(tp a c l).1 * (tp a c l).2≤(n : Int) := by
  obtain ⟨a1,a2,a3⟩ := tp_pos (a := a) (c := c) l (λ k hk => by obtain ⟨p,rfl,hp,_⟩ := h.pr hk; have := hp.1; omega) (1,1) (by decide) (by decide)
  refine ⟨a1,a2,Int.le_trans a3 ?_⟩
  obtain ⟨m,e,md,_⟩ := prod_dvd h.nod λ k hk => h.pr hk
  rw [e]
  have := Nat.le_of_dvd hn md
  show (1 : Int) * 1 * (m : Int) ≤ (n : Int)
  omega
def mk2L (r : Int) : List Int := (if r = 1∨r = 5∨r = 4∨r = 0 then [4] else []) ++ (if r = 6∨r = 0 then [8] else []) ++ (if r = 2 then [-8] else [])
def mkL (D : Int) (l : List Int) : List Int := (l.filter λ k => decide (k≠2)) ++ (if D % 4 = 0 then mk2L (-D / 4 % 8) else [])
theorem mem_mk2 {r m : Int} : m∈mk2L r↔(m = 4∧(r = 1∨r = 5∨r = 4∨r = 0))∨(m = 8∧(r = 6∨r = 0))∨(m = -8∧r = 2) := by
  unfold mk2L
  rw [List.mem_append,List.mem_append]
  constructor
  · rintro ((h | h) | h)
    · split at h
      · exact .inl ⟨by simpa using h,‹_›⟩
      · cases h
    · split at h
      · exact .inr (.inl ⟨by simpa using h,‹_›⟩)
      · cases h
    · split at h
      · exact .inr (.inr ⟨by simpa using h,‹_›⟩)
      · cases h
  · rintro (⟨rfl,h⟩ | ⟨rfl,h⟩ | ⟨rfl,h⟩)
    · exact .inl (.inl (by rw [if_pos h]; simp))
    · exact .inl (.inr (by rw [if_pos h]; simp))
    · exact .inr (by rw [if_pos h]; simp)
theorem mem_mk {D : Int} {n : Nat} {l : List Int} (hn : (n : Int) = -D) (h : PdL n l) {m : Int} (hm : m∈mkL D l) : Mk D m := by
  unfold mkL at hm
  rcases List.mem_append.mp hm with z | z
  · obtain ⟨z1,z2⟩ := List.mem_filter.mp z
    obtain ⟨p,rfl,hp,hd⟩ := h.pr z1
    refine .inl ⟨p,rfl,hp,λ e => by simp [e] at z2,?_⟩
    have : (p : Int) ∣ (n : Int) := Int.natCast_dvd_natCast.mpr hd
    rw [hn] at this
    exact Int.dvd_neg.mp this
  · split at z
    · refine .inr ⟨‹_›,?_⟩
      rcases mem_mk2.mp z with ⟨e,q⟩ | ⟨e,q⟩ | ⟨e,q⟩
      · exact .inl ⟨e,by omega⟩
      · exact .inr (.inl ⟨e,by omega⟩)
      · exact .inr (.inr ⟨e,by omega⟩)
    · cases z
def gn : List Bool→Nat
  | [] => 0
  | b :: r => 2 * gn r + b.toNat
theorem tp_pre {n : Nat} {l : List Int} (a c : Int) (hn : 0 < n) (nd : l.Nodup) (h : ∀ k∈l,∃ p : Nat,k = (p : Int)∧Pr p∧p ∣ n) : 0 < (tp a c l).1∧0 < (tp a c l).2∧(tp a c l).1≤(n : Int)∧(tp a c l).2≤(n : Int)∧(tp a c l).1 + (tp a c l).2≤(n : Int) + 1 := by
  obtain ⟨a1,a2,a3⟩ := tp_pos (a := a) (c := c) l (λ k hk => by obtain ⟨p,rfl,hp,_⟩ := h k hk; have := hp.1; omega) (1,1) (by decide) (by decide)
  obtain ⟨m,e,md,_⟩ := prod_dvd nd h
  rw [e] at a3
  have := Nat.le_of_dvd hn md
  change 0 < (tp a c l).1 at a1
  change 0 < (tp a c l).2 at a2
  change (tp a c l).1 * (tp a c l).2 ≤ 1 * 1 * (m : Int) at a3
  generalize (tp a c l).1 = x at *
  generalize (tp a c l).2 = y at *
  have e1 : x * 1 ≤ x * y := Int.mul_le_mul_of_nonneg_left (by omega) (by omega)
  have e2 : 1 * y ≤ x * y := Int.mul_le_mul_of_nonneg_right (by omega) (by omega)
  have e3 : 0 ≤ (x - 1) * (y - 1) := Int.mul_nonneg (by omega) (by omega)
  have e4 : (x - 1) * (y - 1) = x * y - x - y + 1 := by grind
  exact ⟨a1,a2,by omega,by omega,by omega⟩
theorem pow_le_prod : ∀ {l : List Int},(∀ k∈l,2≤k)→(2 : Int) ^ l.length≤prodI l
  | [],_ => by decide
  | k :: l,h => by
    have k2 := h k List.mem_cons_self
    have ih := pow_le_prod λ k hk => h k (List.mem_cons_of_mem _ hk)
    have p0 : (0 : Int) < 2 ^ l.length := Int.pow_pos (by decide)
    show (2 : Int) ^ (l.length + 1) ≤ k * prodI l
    rw [Int.pow_succ,Int.mul_comm]
    exact Int.mul_le_mul k2 ih (by omega) (by omega)
theorem PdL.len {n : Nat} {l : List Int} (h : PdL n l) (hn : 0 < n) : 2 ^ l.length≤n := by
  have h1 := pow_le_prod (l := l) λ k hk => by obtain ⟨p,rfl,hp,_⟩ := h.pr hk; have := hp.1; omega
  obtain ⟨m,e,md,_⟩ := prod_dvd h.nod λ k hk => h.pr hk
  rw [e] at h1
  have : m ≤ n := Nat.le_of_dvd hn md
  have h2 : ((2 ^ l.length : Nat) : Int) ≤ (m : Int) := by push_cast; exact h1
  omega
theorem mk2_len (r : Int) : (mk2L r).length≤2 := by
  unfold mk2L
  rw [List.length_append,List.length_append]
  by_cases h1 : r = 1 ∨ r = 5 ∨ r = 4 ∨ r = 0
  · by_cases h2 : r = 2
    · omega
    · rw [if_pos h1,if_neg h2]
      split <;> simp
  · rw [if_neg h1]
    split <;> split <;> simp
theorem gn_lt : ∀ bs : List Bool,gn bs < 2 ^ bs.length
  | [] => by decide
  | b :: r => by
    have := gn_lt r
    simp only [gn,List.length_cons,Nat.pow_succ]
    cases b <;> simp <;> omega
end MY
namespace CM
open PySem PySem.Spec L2 FL FT FU MG MP MZ MY
theorem PF_has {p : Nat} (hp : Pr p) : ∀ n : Nat,0 < n→p ∣ n→p∈MD.PF n := by
  intro n
  induction n using Nat.strongRecOn with
  | _ n ih =>
    intro n0 hd
    have n2 : ¬ n < 2 := λ z => by
      have := Nat.le_of_dvd n0 hd
      have := hp.1
      omega
    have e : MD.PF n = MD.mf n :: MD.PF (n / MD.mf n) := by rw [MD.PF]; exact dif_neg n2
    have s := MD.mf_spec (show 2 ≤ n by omega)
    have em : n / MD.mf n * MD.mf n = n := Nat.div_mul_cancel s.2.1
    rw [e]
    have hd' : p ∣ n / MD.mf n * MD.mf n := by rw [em]; exact hd
    rcases hp.mul hd' with z | z
    · exact List.mem_cons_of_mem _ (ih _ (MD.mf_lt n2) (Nat.div_pos (Nat.le_of_dvd n0 s.2.1) (by omega)) z)
    · rw [pr_dvd_pr (MD.mf_pr (by omega)) hp z]
      exact List.mem_cons_self
theorem PD_is {n : Nat} (n0 : 0 < n) : PdL n (PD n) := ⟨PD_up n,λ k => by
  rw [PD_mem,List.mem_map]
  constructor
  · rintro ⟨p,hp,rfl⟩
    obtain ⟨a,b⟩ := PF_pr p hp
    exact ⟨p,rfl,a,b⟩
  · rintro ⟨p,rfl,hp,hd⟩
    exact ⟨p,PF_has hp n n0 hd,rfl⟩⟩
structure BarM (i : Int) : Prop where
  neg : i < 0
  four : i % 4 = 0 ∨ i % 4 = 1
  low : -1000000 ≤ i
noncomputable def mks (i : Int) : List Int := mkL i (PD (-i).toNat)
theorem mks_mk {i m : Int} (h : BarM i) (hm : m∈mks i) : Mk i m := mem_mk (n := (-i).toNat) (by have := h.neg; omega) (PD_is (by have := h.neg; omega)) hm
theorem PD_len {n : Nat} (n0 : 0 < n) (h : n≤4000000) : (PD n).length < 22 := Nat.not_le.mp λ z => by
  have h1 := (PD_is n0).len n0
  have h2 := Nat.pow_le_pow_right (show 0 < 2 by decide) z
  omega
theorem mks_len {i : Int} (h : BarM i) : (mks i).length≤23 := by
  have h1 := h.neg
  have h2 := h.low
  have l1 := PD_len (n := (-i).toNat) (by omega) (by omega)
  have l2 : ((PD (-i).toNat).filter λ k => decide (k ≠ 2)).length ≤ (PD (-i).toNat).length := List.length_filter_le _ _
  unfold mks mkL
  rw [List.length_append]
  split
  · have := mk2_len (-i / 4 % 8)
    omega
  · simp only [List.length_nil]
    omega
noncomputable def tpl (a b c : Int) : Int × Int := tp a c (PD (-2 * (b * b - 4 * a * c)).toNat)
noncomputable def vv (a b c : Int) : Int := MJ.W a b c (tpl a b c).1 (tpl a b c).2
noncomputable def mi (a b c : Int) : List Bool := (mks (b * b - 4 * a * c)).map λ m => !pl m (vv a b c)
structure FormG (a b c : Int) : Prop where
  n : FormN a b c
  low : -1000000 ≤ b * b - 4 * a * c
theorem bar_four (a b c : Int) : (b * b - 4 * a * c) % 4 = 0∨(b * b - 4 * a * c) % 4 = 1 := by
  have e := Int.mul_emod b b 4
  have e2 : (b * b - 4 * a * c) % 4 = (b * b) % 4 := by
    have : b * b - 4 * a * c = b * b + 4 * (-(a * c)) := by grind
    rw [this,Int.add_mul_emod_self_left]
  rw [e2]
  rcases (show b % 4 = 0 ∨ b % 4 = 1 ∨ b % 4 = 2 ∨ b % 4 = 3 by omega) with h | h | h | h <;> rw [h] at e <;> omega
theorem FormG.bm {a b c : Int} (h : FormG a b c) : BarM (b * b - 4 * a * c) := ⟨h.n.bar,bar_four a b c,h.low⟩
theorem FormG.two {a b c : Int} (h : FormG a b c) : 0 < (-2 * (b * b - 4 * a * c)).toNat∧(-2 * (b * b - 4 * a * c)).toNat≤2000000∧(((-2 * (b * b - 4 * a * c)).toNat : Nat) : Int) = -2 * (b * b - 4 * a * c) := by
  have h1 := h.n.bar
  have h2 := h.low
  generalize b * b - 4 * a * c = i at *
  exact ⟨by omega,by omega,by omega⟩
theorem FormG.tp {a b c : Int} (h : FormG a b c) : 0 < (tpl a b c).1∧0 < (tpl a b c).2∧(tpl a b c).1≤2000000∧(tpl a b c).2≤2000000∧(tpl a b c).1 + (tpl a b c).2≤2000001 := by
  obtain ⟨t0,t1,t2⟩ := h.two
  have p := PD_is t0
  obtain ⟨a1,a2,a3,a4,a5⟩ := tp_pre a c t0 p.nod λ k hk => p.pr hk
  exact ⟨a1,a2,by unfold tpl; omega,by unfold tpl; omega,by unfold tpl; omega⟩
theorem mi_len (a b c : Int) : (mi a b c).length = (mks (b * b - 4 * a * c)).length := by unfold mi; rw [List.length_map]
theorem inI {r : Int} {ns : List Int} : inD (.int r) (ns.map D.int) = decide (r∈ns) := by
  cases q : inD (.int r) (ns.map D.int) with
  | true =>
    have := inD_iff.mp q
    obtain ⟨k,hk,e⟩ := List.mem_map.mp this
    cases e
    exact (decide_eq_true hk).symm
  | false =>
    refine (decide_eq_false λ z => ?_).symm
    have : inD (.int r) (ns.map D.int) = true := inD_iff.mpr (List.mem_map.mpr ⟨r,z,rfl⟩)
    rw [q] at this
    cases this
theorem cm_is (ns : List Int) (r : Int) : ∀ z∈ns.map D.int,Cm 0 z (.int r) := λ z hz => by
  obtain ⟨k,_,rfl⟩ := List.mem_map.mp hz
  exact .int _ _
def sgD (b : Bool) : D := .int (if b then -1 else 1)
theorem fz_sg (l : List Bool) : ∀ d∈l.map sgD,Fz d := λ d hd => by
  obtain ⟨k,_,rfl⟩ := List.mem_map.mp hd
  exact .int _
def p_mbop (ds es : List D) : Prop := ∃ q : Int,ds = [.int q]∧es = (mk2L (q % 8)).map D.int
def p_marks (ds es : List D) : Prop := ∃ i : Int,ds = [.int i]∧BarM i∧es = (mks i).map D.int
def p_plus (ds : List D) (d : D) : Prop := ∃ i m n : Int,ds = [.int m,.int n]∧BarM i∧Mk i m∧d = .bl (pl m n)
def p_tell (ds : List D) (d : D) : Prop := ∃ a b c : Int,ds = [formD a b c]∧FormG a b c∧d = .tup [.int (tpl a b c).1,.int (tpl a b c).2]
def p_signs (ds es : List D) : Prop := ∃ a b c : Int,ds = [formD a b c]∧FormG a b c∧es = (mi a b c).map sgD
def p_genus (ds : List D) (d : D) : Prop := ∃ a b c : Int,ds = [formD a b c]∧FormG a b c∧Int.gcd (Int.gcd a b) c = 1∧d = .int ((gn (mi a b c) : Nat) : Int)
theorem mk_pr {i m : Int} (h : BarM i) (hm : Mk i m) (h4 : m≠4) (h8 : m≠8) (h9 : m≠-8) : ∃ p : Nat,m = (p : Int)∧Pr p∧p≠2∧p≤1000000 := by
  rcases hm with ⟨p,rfl,hp,p2,hd⟩ | ⟨_,z⟩
  · refine ⟨p,rfl,hp,p2,?_⟩
    have h1 := h.neg
    have h2 := h.low
    have := Int.le_of_dvd (by omega) (Int.dvd_neg.mpr hd)
    omega
  · rcases z with ⟨e,_⟩ | ⟨e,_⟩ | ⟨e,_⟩
    · exact absurd e h4
    · exact absurd e h8
    · exact absurd e h9
end CM
namespace MG
section
variable {G : Type} [AbG G]
open AbG
end
end MG
namespace MZ
open MP MJ MG
end MZ
namespace MZ
open MP MJ MG
end MZ
namespace MZ
end MZ
namespace MZ
open MP MJ MG
end MZ
namespace CM
open PySem PySem.Spec L2 FL FT FU MG MP MZ MY
theorem QJ.g {f : Q} {i : Int} (h : QJ f) (hi : BarL i) (e : f.b * f.b - 4 * f.a * f.c = i) : FormG f.a f.b f.c := ⟨h.n,by rw [e]; have := hi.low; omega⟩
theorem qD_eq {f g : Q} (h : qD f = qD g) : f = g := by
  obtain ⟨a,b,c⟩ := f
  obtain ⟨a',b',c'⟩ := g
  simp only [D.tup.injEq,List.cons.injEq,D.int.injEq,and_true] at h
  obtain ⟨rfl,rfl,rfl⟩ := h
  rfl
end CM
namespace FL
open PySem PySem.Spec PyProof.Rows L2
abbrev sI (i : Int) : Str := Str.ofString (toString i)
section
variable {X : Cx} {a b : Expr} {ρ : Ro} {pos p1 p2 : Pos} {i : Int} {x y : Str} {d1 d2 d : D}
theorem ev_strI {p : Pos} (hm : X.mg "str" = none) (ha : Ev X a ρ (.int i)) (hz : i.natAbs.log2 < 1920) (hg : Gl X "str" := by rfl) (he : starEach [a] X.env = [(false,eval a X.env)] := by rfl) : Ev X (.Call (.Name "str" p) [a] [] pos) ρ (.str (sI i)) :=
  PE.imp (pe_callTy call_str_int hg hm bo_str (ea_cons ha ea_nil he) (by decide) (by decide) he rfl) λ σ H Q ⟨r,q⟩ => ⟨r,λ vs H1 s1 h1 => by
    obtain ⟨v,rfl,hv⟩ := one_inv h1
    exact ⟨i,by rw [hv.int_inv],hz,q _ H1 s1 (.str _)⟩⟩
theorem ev_catS (ha : Ev X a ρ (.str x)) (hb : Ev X b ρ (.str y)) (hz : x.length + y.length≤sizeLine) : Ev X (.BinOp a .Add b pos) ρ (.str (x ++ y)) :=
  ev_op op_add_str ha hb λ _ _ H _ h1 h2 q => ⟨x,y,h1.str_inv,h2.str_inv,hz,q _ H (Same.refl H) (.str _)⟩
theorem dec_S {x y : Str} : decide (V.str x = V.str y) = decide (x = y) := by
  by_cases h : x = y
  · subst h; simp
  · rw [decide_eq_false h,decide_eq_false (λ z => h (V.str.inj z))]
theorem rNeS_of : ∀ v1 v2 H Q,Is X.K H v1 (.str x)→Is X.K H v2 (.str y)→(∀ v H',Same H H'→Is X.K H' v (.bl (!decide (x = y)))→Q v H')→rNe v1 v2 H Q := λ v1 v2 H Q h1 h2 q => by
  cases h1.str_inv; cases h2.str_inv
  exact ⟨rfl,by rw [dec_S]; exact q _ H (Same.refl H) (.bl _)⟩
theorem et_neS (ha : Ev X a ρ (.str x)) (hb : Ev X b ρ (.str y)) : Et X (.Compare a [.NotEq] [b] pos) ρ (!decide (x = y)) := et_cmp op_ne ha hb (nomark _) rNeS_of
theorem ev_rjust (ha : Ev X a ρ (.str x)) (hb : Ev X b ρ (.int i)) (hp : PadOk i = true) (hbase : attributeBase a "rjust" X.env (eval a X.env) = eval a X.env := by rfl) (hs : starEach [b] X.env = [(false,eval b X.env)] := by rfl) (hline : (p1.endLine == p2.line) = true := by rfl) :
    Ev X (.Call (.Attribute a "rjust" p1) [b] [] p2) ρ (.str (Txt.rjust x i)) := by
  intro pins s σ H Q I ⟨r,q⟩
  refine Call_method1 hbase hs hline (thn (ha pins s σ H (λ v H1 => v = V.str x ∧ Same H H1) I ⟨r,λ v H1 s1 h1 => ⟨h1.str_inv,s1⟩⟩) λ u s1 hu => ?_)
  obtain ⟨v,H1,I1,rv,rfl,sm⟩ := hu
  obtain ⟨t,rfl⟩ := rv
  refine SB.rjust (thn (hb pins s1 σ H1 (λ v H2 => v = V.int i ∧ Same H1 H2) I1 ⟨r.mono sm,λ v H2 s2 h2 => ⟨h2.int_inv,s2⟩⟩) λ u2 s2 hu => ?_)
  obtain ⟨v2,H2,I2,rv2,rfl,sm2⟩ := hu
  obtain ⟨t2,rfl⟩ := rv2
  exact ⟨i,t2,rfl,hp,λ t' k => ⟨.str _,H2,I2.tok _,⟨_,rfl⟩,q _ H2 (sm.trans sm2) (.str _)⟩⟩
theorem ev_zfill (ha : Ev X a ρ (.str x)) (hb : Ev X b ρ (.int i)) (hp : PadOk i = true) (hbase : attributeBase a "zfill" X.env (eval a X.env) = eval a X.env := by rfl) (hs : starEach [b] X.env = [(false,eval b X.env)] := by rfl) (hline : (p1.endLine == p2.line) = true := by rfl) :
    Ev X (.Call (.Attribute a "zfill" p1) [b] [] p2) ρ (.str (Txt.zfill x i)) := by
  intro pins s σ H Q I ⟨r,q⟩
  refine Call_method1 hbase hs hline (thn (ha pins s σ H (λ v H1 => v = V.str x ∧ Same H H1) I ⟨r,λ v H1 s1 h1 => ⟨h1.str_inv,s1⟩⟩) λ u s1 hu => ?_)
  obtain ⟨v,H1,I1,rv,rfl,sm⟩ := hu
  obtain ⟨t,rfl⟩ := rv
  refine SB.zfill (thn (hb pins s1 σ H1 (λ v H2 => v = V.int i ∧ Same H1 H2) I1 ⟨r.mono sm,λ v H2 s2 h2 => ⟨h2.int_inv,s2⟩⟩) λ u2 s2 hu => ?_)
  obtain ⟨v2,H2,I2,rv2,rfl,sm2⟩ := hu
  obtain ⟨t2,rfl⟩ := rv2
  exact ⟨i,t2,rfl,hp,λ t' k => ⟨.str _,H2,I2.tok _,⟨_,rfl⟩,q _ H2 (sm.trans sm2) (.str _)⟩⟩
theorem vals_strs {K : PySem.W.Frag} {H : Hp} : ∀ {xs : List Str} {vs : List V} {us : List Value},IsAll K H vs (xs.map D.str)→Vals vs us→∃ l : List (Str × Tok),us = strValues l∧l.map (·.1) = xs
  | [],_,_,h,r => by
    cases h
    cases r
    exact ⟨[],rfl,rfl⟩
  | x :: xs,_,_,h,r => by
    cases h with
    | cons h1 h2 =>
      cases r with
      | cons r1 r2 =>
        obtain ⟨l,e1,e2⟩ := vals_strs h2 r2
        cases h1.str_inv
        obtain ⟨t,rfl⟩ := r1
        exact ⟨(x,t) :: l,by rw [e1]; rfl,by rw [List.map_cons,e2]⟩
theorem ev_join {xs : List Str} (ha : Ev X a ρ (.str x)) (hb : EvN X b ρ (xs.map D.str)) (hp : JoinOk x xs = true) (hbase : attributeBase a "join" X.env (eval a X.env) = eval a X.env := by rfl) (hs : starEach [b] X.env = [(false,eval b X.env)] := by rfl) (hline : (p1.endLine == p2.line) = true := by rfl) :
    Ev X (.Call (.Attribute a "join" p1) [b] [] p2) ρ (.str (Txt.join x xs)) := by
  intro pins s σ H Q I ⟨r,q⟩
  refine Call_method1 hbase hs hline (thn (ha pins s σ H (λ v H1 => v = V.str x ∧ Same H H1) I ⟨r,λ v H1 s1 h1 => ⟨h1.str_inv,s1⟩⟩) λ u s1 hu => ?_)
  obtain ⟨v,H1,I1,rv,rfl,sm⟩ := hu
  obtain ⟨t,rfl⟩ := rv
  refine SB.join (thn (hb pins s1 σ H1 (λ v H2 => ∃ l vs,v = V.ref l ∧ Same H1 H2 ∧ H2 l = some (.lst vs) ∧ IsAll X.K H2 vs (xs.map D.str)) I1 ⟨r.mono sm,λ l vs H2 _ s2 h2 h3 => ⟨l,vs,rfl,s2,h2,h3⟩⟩) λ u2 s2 hu => ?_)
  obtain ⟨v2,H2,I2,rv2,l,vs,rfl,sm2,hl,hA⟩ := hu
  obtain rfl : u2 = Value.ref l := rv2
  obtain ⟨its,rvs,pl,hz⟩ := I2.list (.of hl : SqL X.K H2 l vs)
  obtain ⟨ts,rfl,e2⟩ := vals_strs hA rvs
  exact ⟨l,ts,rfl,pl.isList,xs,e2,hp,λ t' k => ⟨.str _,H2,I2.tok _,⟨_,rfl⟩,q _ H2 (sm.trans sm2) (.str _)⟩⟩
end
def pad (c j : Nat) (x : Str) : Str := ⟨(List.replicate j c ++ x.cps.toList).toArray⟩
theorem pad_zero (c : Nat) (x : Str) : pad c 0 x = x := by unfold pad; simp
theorem pad_len (c j : Nat) (x : Str) : (pad c j x).length = j + x.length := by
  unfold pad
  simp [Str.length]
theorem str_ext {x y : Str} (h : x.cps.toList = y.cps.toList) : x = y := by
  obtain ⟨⟨a⟩⟩ := x
  obtain ⟨⟨b⟩⟩ := y
  simp at h
  subst h
  rfl
theorem pad_cons {z : Str} {c : Nat} (hz : z.cps.toList = [c]) (j : Nat) (x : Str) : z ++ pad c j x = pad c (j + 1) x := by
  refine str_ext ?_
  show (z.cps ++ (pad c j x).cps).toList = _
  rw [Array.toList_append,hz]
  unfold pad
  simp [List.replicate_succ]
theorem rjust_pad (x : Str) (n : Nat) : Txt.rjust x (n : Int) = pad 32 (n - x.length) x := by
  unfold Txt.rjust
  split
  · rename_i h
    have : n - x.length = 0 := by omega
    rw [this,pad_zero]
  · refine str_ext ?_
    unfold Builtin.Str.padded pad
    simp
end FL
namespace FL
open PySem PySem.Spec PyProof.Rows L2
structure FunD (K : PySem.W.Frag) (x qual : Str) (st : Stmt) (f : Addr) (fd : FuncData) (dv : Value) : Prop where
  ex : ∃ (oc : Value) (od : Option Addr) (dA : Addr) (kV doc pm : Value) (an : Option Addr) (cdv ct : Value) (osl : Array (Option Value)),
    fd = PySem.W.fnOf x qual (defArgs st) (defBody st) (defScope st) (.ref dA) kV doc pm an cdv ct ∧ K.lookup f = some ⟨oc,od,.func fd,osl⟩ ∧ PySem.W.codeIn K cdv qual = true
  kp : PySem.W.keepIn K (.ref f) = true
def FnLD (P : Program) (w : World) (K : PySem.W.Frag) (mg : Str→Option Value) (base : Heap) (k : Nat) (x : Str) (i : Int) (Pf : List D→List D→Prop) : Prop :=
  ∃ f fd ps dv,FnOk P w K mg base CX0 k f fd ps (SpL K Pf) ∧ mg x = some (.ref f) ∧ PySem.W.keepIn K (.ref f) = true ∧ Binds K fd ps [] ∧ Binds K fd ps [dv] ∧ RelV (.int i) dv
section
variable {P : Program} {w : World} {K : PySem.W.Frag} {mg : Str→Option Value} {base : Heap}
theorem FnLD.l {k : Nat} {x : Str} {i : Int} {Pf : List D→List D→Prop} (h : FnLD P w K mg base k x i Pf) : FnL P w K mg base k x Pf := by
  obtain ⟨f,fd,ps,dv,a1,a2,a3,a4,_,_⟩ := h
  exact ⟨f,fd,ps,a1,a2,a3,a4⟩
theorem fnld_mk {x qual : Str} {st : Stmt} {f : Addr} {fd : FuncData} {dv : Value} {i : Int} {N ps : List Str} {k : Nat} {Pf : List D→List D→Prop} (F : FunD K x qual st f fd dv) (S : FnScope N ps (defScope st)) (hm : mg x = some (.ref f)) (hb : Binds K fd ps []) (hb2 : Binds K fd ps [dv]) (hv : RelV (.int i) dv)
    (hl : ∀ ds es,Pf ds es → ds.length = ps.length ∧ ∀ d ∈ ds,ownA d = none)
    (hbody : ∀ (cdv : Value) (A : Around) (outer : List Env) (s : Shared) (H : Hp) (E : XK),Room k (A.deeper (envOfC qual (defScope st) s.heap.objs.size f cdv)) → ∀ ds es,Pf ds es →
      Do (cxD P w K mg base N qual st f cdv A outer s H E) (defBody st) (ini N ds) { nx := λ _ => False,rt := λ d' => ∃ l,d' = .lst l es }) : FnLD P w K mg base (k + 1) x i Pf := by
  refine ⟨f,fd,ps,dv,?_,hm,F.kp,hb,hb2,hv⟩
  obtain ⟨oc,od,dA,kV,doc,pm,an,cdv,ct,osl,rfl,lk,hcd⟩ := F.ex
  refine fn_of lk hcd S (λ vs H Q E h => ?_) λ A outer s H vs Q E hr h => ?_
  · obtain ⟨ds,es,h1,h2,_⟩ := h
    rw [h1.length]
    exact (hl ds es h2).1
  · obtain ⟨ds,es,h1,h2,q⟩ := h
    refine ⟨_,PSs.nox (hbody cdv A outer s H E hr ds es h2),?_⟩
    refine ⟨relS_start (X := cxD P w K mg base N qual st f cdv A outer s H E) h1 (hl ds es h2).2,λ _ _ _ _ _ z => z.elim,λ v H' d' sm hv fr z => ?_,λ _ _ _ _ _ z => z.elim,λ _ _ _ _ _ z => z.elim⟩
    obtain ⟨l,z⟩ : ∃ l,d' = .lst l es := z
    subst z
    obtain ⟨rfl,us,e1,e2⟩ := hv.lst_inv
    exact q l us H' (fr l rfl) sm e1 e2
end
section
variable {X : Cx} {e : Expr} {es : List Expr} {ρ : Ro} {ds fs : List D} {pos p : Pos}
theorem evn_callD {k : Nat} {x : Str} {i : Int} {Pf : List D→List D→Prop} (C : FnLD X.prog X.w X.K X.mg X.base k x i Pf) (hr : Room k X.A) (ha : EvA X (e :: es) ρ ds) (hp : Pf (ds ++ [.int i]) fs) (hg : Gl X x := by rfl) (hdb : (x == ("__debug__" : Str)) = false := by decide)
    (he : starEach (e :: es) X.env = (false,eval e X.env) :: starEach es X.env := by rfl) (hpl : (backTo pos (starEach es X.env)).any (·.1) = false := by rfl) : EvN X (.Call (.Name x p) (e :: es) [] pos) ρ fs := by
  obtain ⟨f,fd,ps,dv,F,hm,hk,_,hb,hv⟩ := C
  refine PE.imp (pe_call F hr hg hm hk hb (.cons hv .nil) pass0 ha hdb he hpl) ?_
  rintro σ H Q ⟨r,q⟩
  exact ⟨r,λ vs H1 s1 h1 => ⟨ds ++ [.int i],fs,h1.append (.cons (.int i) .nil),hp,λ v us H' hv s' e' h' => q v us H' (s1.free hv) (s1.trans s') e' h'⟩⟩
end
end FL
namespace CM
open PySem PySem.Spec L2 FL FT FU MG MP MZ MY
theorem sI_len {i : Int} (h : i.natAbs < 4096) : (sI i).length≤5 := by
  by_cases h0 : 0 ≤ i
  · exact Nat.le_trans (PyProof.Rows.toString_length_le h0 (k := 4) (by decide) (by omega)) (by decide)
  · obtain ⟨m,rfl⟩ : ∃ m : Nat,i = Int.negSucc m := by
      cases i with
      | ofNat n => exact absurd (Int.natCast_nonneg n) h0
      | negSucc m => exact ⟨m,rfl⟩
    have e : toString (Int.negSucc m) = "-" ++ toString ((m + 1 : Nat) : Int) := rfl
    have l := PyProof.Rows.toString_length_le (v := ((m + 1 : Nat) : Int)) (Int.natCast_nonneg _) (k := 4) (by decide) (by simp at h; omega)
    unfold sI
    rw [e,ofString_length,String.length_append]
    rw [ofString_length] at l
    have : ("-" : String).length = 1 := rfl
    omega
theorem log_small {i : Int} (h : i.natAbs < 4096) : i.natAbs.log2 < 1920 := by
  by_cases z : i.natAbs = 0
  · rw [z]; decide
  · have := (Nat.log2_lt z (k := 12)).mpr (by omega)
    omega
theorem padOk {w : Int} (h0 : 0≤w) (h1 : w≤100) : PadOk w = true := by
  have : ∀ n : Nat,n ≤ 100 → PadOk (n : Int) = true := by decide
  have := this w.toNat (by omega)
  rwa [Int.toNat_of_nonneg h0] at this
theorem rj_len {i w : Int} (h : i.natAbs < 4096) (h0 : 0≤w) (h1 : w≤100) : (Txt.rjust (sI i) w).length≤105 := by
  obtain ⟨n,rfl⟩ : ∃ n : Nat,w = (n : Int) := ⟨w.toNat,by omega⟩
  rw [rjust_pad,pad_len]
  have := sI_len h
  omega
abbrev emp : Str := Str.ofString ""
theorem emp_len : emp.length = 0 := rfl
noncomputable def rowS (n : Int) (cs : List Int) (w : Int) : Str := Txt.zfill (sI n) 3 ++ Txt.join emp (cs.map λ c => Txt.rjust (sI c) w)
theorem zf_pad : ∀ n : Nat,n < 64→(Txt.zfill (sI ((n + 1 : Nat) : Int)) 3 = pad 48 (3 - (sI ((n + 1 : Nat) : Int)).length) (sI ((n + 1 : Nat) : Int)))∧(sI ((n + 1 : Nat) : Int)).length≤3 := by decide +kernel
theorem zf_len {n : Nat} (h : n < 64) : (Txt.zfill (sI ((n + 1 : Nat) : Int)) 3).length = 3 := by
  obtain ⟨h1,h2⟩ := zf_pad n h
  rw [h1,pad_len]
  omega
theorem joinOk5 {cs : List Int} {w : Int} (hl : cs.length≤5) (hc : ∀ c∈cs,c.natAbs < 4096) (h0 : 0≤w) (h1 : w≤100) : JoinOk emp (cs.map λ c => Txt.rjust (sI c) w) = true := by
  unfold JoinOk Builtin.Str.tooLong
  rw [StrLaws.joinTotal,emp_len]
  have s : ∀ cs : List Int,(∀ c ∈ cs,c.natAbs < 4096) → ((cs.map λ c => Txt.rjust (sI c) w).map (·.length)).sum ≤ 105 * cs.length := by
    intro cs
    induction cs with
    | nil => intro _; exact Nat.zero_le _
    | cons c cs ih =>
      intro h
      have h1 := rj_len (h c List.mem_cons_self) h0 h1
      have h2 := ih λ c hc => h c (List.mem_cons_of_mem _ hc)
      simp only [List.map_cons,List.sum_cons,List.length_cons] at h2 ⊢
      omega
  have := s cs hc
  rw [sizeLine_eq]
  simp only [Nat.mul_zero,Nat.add_zero,Bool.not_eq_true',decide_eq_false_iff_not]
  omega
noncomputable def cellsOf {i : Int} (hi : BarL i) (y : C i) : List Int := [y.1.a,y.1.b,y.1.c,((od hi y : Nat) : Int),((gn (mi y.1.a y.1.b y.1.c) : Nat) : Int)]
theorem cls_small' {i : Int} (hi : BarL i) (y : C i) : y.1.a.natAbs < 4096∧y.1.b.natAbs < 4096∧y.1.c.natAbs < 4096 := by
  obtain ⟨h1,h2,h3⟩ := cls_sz hi y
  have k : ∀ {z : Int},Bd z 11 → z.natAbs < 4096 := λ h => by
    have := intBits_le_iff.mp h.lt
    omega
  exact ⟨k h1,k h2,k h3⟩
theorem mi_small {i : Int} (hi : BarL i) (lo : -1225≤i) (y : C i) : gn (mi y.1.a y.1.b y.1.c) < 4096 := by
  have e : y.1.b * y.1.b - 4 * y.1.a * y.1.c = i := y.2.ok.bar
  have n0 := hi.d.neg
  have l := (PD_is (n := (-i).toNat) (by omega)).len (by omega)
  have l2 : (PD (-i).toNat).length ≤ 10 := Nat.not_lt.mp λ z => by
    have := Nat.pow_le_pow_right (show 0 < 2 by decide) (show 11 ≤ (PD (-i).toNat).length by omega)
    omega
  have ml : (mi y.1.a y.1.b y.1.c).length ≤ 12 := by
    rw [mi_len,e]
    have l3 : ((PD (-i).toNat).filter λ k => decide (k ≠ 2)).length ≤ (PD (-i).toNat).length := List.length_filter_le _ _
    unfold mks mkL
    rw [List.length_append]
    split
    · have := mk2_len (-i / 4 % 8)
      omega
    · simp only [List.length_nil]
      omega
  have g := gn_lt (mi y.1.a y.1.b y.1.c)
  have := Nat.pow_le_pow_right (show 0 < 2 by decide) ml
  omega
theorem cells_small {i : Int} (hi : BarL i) (lo : -1225≤i) (y : C i) : ∀ c∈cellsOf hi y,c.natAbs < 4096 := λ c hc => by
  obtain ⟨h1,h2,h3⟩ := cls_small' hi y
  have h4 := od_le hi y
  have h5 := mi_small hi lo y
  unfold cellsOf at hc
  simp only [List.mem_cons,List.not_mem_nil,or_false] at hc
  rcases hc with rfl | rfl | rfl | rfl | rfl
  · exact h1
  · exact h2
  · exact h3
  · omega
  · omega
def p_rowS (ds : List D) (d : D) : Prop := ∃ (n : Nat) (cs : List Int) (w : Int),ds = [.int ((n + 1 : Nat) : Int),.fl (cs.map D.int),.int w]∧n < 64∧cs.length≤5∧(∀ c∈cs,c.natAbs < 4096)∧0≤w∧w≤100∧d = .str (rowS ((n + 1 : Nat) : Int) cs w)
noncomputable def rowsS {i : Int} (hi : BarL i) (w : Int) : List Str := (clsC hi).zipIdx.map λ p => rowS ((p.2 + 1 : Nat) : Int) (cellsOf hi p.1) w
def p_table (ds es : List D) : Prop := ∃ (i : Int) (hi : BarL i) (w : Int),ds = [.int i,.int w]∧-1225≤i∧0≤w∧w≤100∧es = (rowsS hi w).map D.str
def p_right (ds : List D) (d : D) : Prop := ∃ i w : Int,ds = [.int i,.int w]∧i.natAbs < 4096∧0≤w∧w≤100∧d = .str (Txt.rjust (sI i) w)
theorem join_five (z r1 r2 r3 r4 r5 : Str) : z ++ Txt.join emp [r1,r2,r3,r4,r5] = z ++ r1 ++ r2 ++ r3 ++ r4 ++ r5 := by
  have e : Txt.join emp [r1,r2,r3,r4,r5] = Str.join emp [r1,r2,r3,r4,r5] := StrLaws.glued_eq_join _ _
  have j2 : ∀ (x y : Str) (r : List Str),Str.join emp (x :: y :: r) = x ++ emp ++ Str.join emp (y :: r) := λ _ _ _ => rfl
  have j1 : ∀ x : Str,Str.join emp [x] = x := λ _ => rfl
  rw [e,j2,j2,j2,j2,j1]
  refine str_ext ?_
  have k : ∀ x y : Str,(x ++ y).cps.toList = x.cps.toList ++ y.cps.toList := λ x y => by
    show (x.cps ++ y.cps).toList = _
    rw [Array.toList_append]
  have ke : emp.cps.toList = [] := by decide
  simp only [k,ke,List.append_nil,List.append_assoc]
theorem row_five (z : Str) (a b c d e w : Int) : z ++ Txt.join emp ([a,b,c,d,e].map λ c => Txt.rjust (sI c) w) = z ++ Txt.rjust (sI a) w ++ Txt.rjust (sI b) w ++ Txt.rjust (sI c) w ++ Txt.rjust (sI d) w ++ Txt.rjust (sI e) w := join_five z _ _ _ _ _
theorem join_len5 {cs : List Int} {w : Int} (hl : cs.length≤5) (hc : ∀ c∈cs,c.natAbs < 4096) (h0 : 0≤w) (h1 : w≤100) : (Txt.join emp (cs.map λ c => Txt.rjust (sI c) w)).length≤525 := by
  have e : Txt.join emp (cs.map λ c => Txt.rjust (sI c) w) = Str.join emp (cs.map λ c => Txt.rjust (sI c) w) := StrLaws.glued_eq_join _ _
  rw [e]
  refine Nat.le_trans (StrLaws.join_length_le _ _) ?_
  rw [emp_len]
  have s : ∀ cs : List Int,(∀ c ∈ cs,c.natAbs < 4096) → ((cs.map λ c => Txt.rjust (sI c) w).map (·.length)).sum ≤ 105 * cs.length := by
    intro cs
    induction cs with
    | nil => intro _; exact Nat.zero_le _
    | cons c cs ih =>
      intro h
      have h1 := rj_len (h c List.mem_cons_self) h0 h1
      have h2 := ih λ c hc => h c (List.mem_cons_of_mem _ hc)
      simp only [List.map_cons,List.sum_cons,List.length_cons] at h2 ⊢
      omega
  have := s cs hc
  omega
theorem app_len (x y : Str) : (x ++ y).length = x.length + y.length := Str.length_append x y
def slen (ρ : Ro) (k : Nat) : Nat := match ρ[k]? with
  | some (some (.str x)) => x.length
  | _ => 0
theorem lenS {x : Str} (h : x.length≤100000) : lenD (.str x) = some x.length := if_pos (by omega)
theorem fitL {n : Nat} (h : n≤100000) : n≤sizeLine := by rw [sizeLine_eq]; omega
theorem rows_get {i : Int} (hi : BarL i) (w : Int) {t : Nat} {y : C i} (h : (clsC hi)[t]? = some y) : (rowsS hi w)[t]? = some (rowS ((t + 1 : Nat) : Int) (cellsOf hi y) w) := by
  unfold rowsS
  rw [List.getElem?_map,List.getElem?_zipIdx,h]
  simp
theorem rows_take {i : Int} (hi : BarL i) (w : Int) {t : Nat} {y : C i} (h : (clsC hi)[t]? = some y) : (rowsS hi w).take (t + 1) = (rowsS hi w).take t ++ [rowS ((t + 1 : Nat) : Int) (cellsOf hi y) w] := by
  have g := rows_get hi w h
  have hl := (List.getElem?_eq_some_iff.mp g).1
  rw [List.take_succ_eq_append_getElem hl,(List.getElem?_eq_some_iff.mp g).2]
theorem rows_len {i : Int} (hi : BarL i) (w : Int) : (rowsS hi w).length = (clsC hi).length := by unfold rowsS; rw [List.length_map,List.length_zipIdx]
theorem fz_strs (l : List Str) : ∀ d∈l.map D.str,Fz d := λ d hd => by
  obtain ⟨x,_,rfl⟩ := List.mem_map.mp hd
  exact .str _
theorem fz_wayD {i : Int} (hi : BarL i) (l : List (C i)) : ∀ d∈l.map (wayD hi),Fz d := λ d hd => by
  obtain ⟨y,_,rfl⟩ := List.mem_map.mp hd
  exact .fl (fzR hi y)
end CM
namespace K21
open PySem PySem.Spec L2 FL FT FU CM MG
def top (i : Nat) : Stmt := PySem.Challenge.pw_formturn_k21_table.main.body.getD i (.Pass ⟨0,0,0,0⟩)
abbrev s_is_whole : Stmt := top 11
abbrev s_is_whole_tuple : Stmt := top 12
abbrev s_is_bar : Stmt := top 13
abbrev s_require_bar : Stmt := top 14
abbrev s_require_bar_from : Stmt := top 15
abbrev s_require_whole : Stmt := top 16
abbrev s_common_divisor : Stmt := top 17
abbrev s_divisor_with_shares : Stmt := top 18
abbrev s_prime_factors : Stmt := top 19
abbrev s_prime_divisors : Stmt := top 20
abbrev s_power_by : Stmt := top 21
abbrev s_leaves_square : Stmt := top 22
abbrev s_bar_of_numbers : Stmt := top 24
abbrev s_is_form : Stmt := top 25
abbrev s_require_form : Stmt := top 26
abbrev s_bar_of : Stmt := top 27
abbrev s_worth : Stmt := top 28
abbrev s_is_bare : Stmt := top 29
abbrev s_is_turning : Stmt := top 31
abbrev s_require_turning : Stmt := top 32
abbrev s_sent : Stmt := top 33
abbrev s_way_back : Stmt := top 34
abbrev s_is_least : Stmt := top 37
abbrev s_stepped : Stmt := top 38
abbrev s_behind_step : Stmt := top 39
abbrev s_swapped : Stmt := top 40
abbrev s_behind_swap : Stmt := top 41
abbrev s_step_to_middle : Stmt := top 42
abbrev s_least_of : Stmt := top 43
abbrev s_require_bare : Stmt := top 45
abbrev s_require_same_bar : Stmt := top 46
abbrev s_joint_divisor : Stmt := top 47
abbrev s_joint_middle : Stmt := top 48
abbrev s_joint_rows : Stmt := top 49
abbrev s_joined_whole : Stmt := top 50
abbrev s_joined : Stmt := top 51
abbrev s_neutral : Stmt := top 52
abbrev s_least_forms_from : Stmt := top 54
abbrev s_least_forms : Stmt := top 55
abbrev s_classes : Stmt := top 56
abbrev s_marks_beside_odd_primes : Stmt := top 58
abbrev s_marks_of : Stmt := top 59
abbrev s_is_plus_at : Stmt := top 60
abbrev s_telling_place : Stmt := top 61
abbrev s_signs_of : Stmt := top 62
abbrev s_genus_of : Stmt := top 63
abbrev s_round_of_class : Stmt := top 65
abbrev s_round_of : Stmt := top 66
abbrev s_every_so_many : Stmt := top 67
abbrev s_rounds : Stmt := top 68
abbrev s_row_written : Stmt := top 70
abbrev s_table : Stmt := top 71
abbrev s_law_cell_at : Stmt := top 74
abbrev s_law_right : Stmt := top 78
abbrev s_law : Stmt := top 79
theorem sc_is_whole : FnScope ["value"] ["value"] (defScope s_is_whole) := ⟨rfl,rfl,rfl,by decide +kernel,rfl,by decide +kernel,by decide +kernel⟩
theorem sc_is_whole_tuple : FnScope ["value", "length"] ["value", "length"] (defScope s_is_whole_tuple) := ⟨rfl,rfl,rfl,by decide +kernel,rfl,by decide +kernel,by decide +kernel⟩
theorem sc_is_bar : FnScope ["value"] ["value"] (defScope s_is_bar) := ⟨rfl,rfl,rfl,by decide +kernel,rfl,by decide +kernel,by decide +kernel⟩
theorem sc_require_bar : FnScope ["value"] ["value"] (defScope s_require_bar) := ⟨rfl,rfl,rfl,by decide +kernel,rfl,by decide +kernel,by decide +kernel⟩
theorem sc_require_bar_from : FnScope ["value", "lowest"] ["value", "lowest"] (defScope s_require_bar_from) := ⟨rfl,rfl,rfl,by decide +kernel,rfl,by decide +kernel,by decide +kernel⟩
theorem sc_require_whole : FnScope ["value"] ["value"] (defScope s_require_whole) := ⟨rfl,rfl,rfl,by decide +kernel,rfl,by decide +kernel,by decide +kernel⟩
theorem sc_common_divisor : FnScope ["one", "other", "greater", "lesser", "rest"] ["one", "other"] (defScope s_common_divisor) := ⟨rfl,rfl,rfl,by decide +kernel,rfl,by decide +kernel,by decide +kernel⟩
theorem sc_divisor_with_shares : FnScope ["one", "other", "divisor", "share", "rest", "rest_share", "times", "after", "after_share"] ["one", "other"] (defScope s_divisor_with_shares) := ⟨rfl,rfl,rfl,by decide +kernel,rfl,by decide +kernel,by decide +kernel⟩
theorem sc_prime_factors : FnScope ["number", "rest", "found", "prime"] ["number"] (defScope s_prime_factors) := ⟨rfl,rfl,rfl,by decide +kernel,rfl,by decide +kernel,by decide +kernel⟩
theorem sc_prime_divisors : FnScope ["number"] ["number"] (defScope s_prime_divisors) := ⟨rfl,rfl,rfl,by decide +kernel,rfl,by decide +kernel,by decide +kernel⟩
theorem sc_power_by : FnScope ["base", "exponent", "divisor", "found"] ["base", "exponent", "divisor"] (defScope s_power_by) := ⟨rfl,rfl,rfl,by decide +kernel,rfl,by decide +kernel,by decide +kernel⟩
theorem sc_leaves_square : FnScope ["number", "prime"] ["number", "prime"] (defScope s_leaves_square) := ⟨rfl,rfl,rfl,by decide +kernel,rfl,by decide +kernel,by decide +kernel⟩
theorem sc_bar_of_numbers : FnScope ["a", "b", "c"] ["a", "b", "c"] (defScope s_bar_of_numbers) := ⟨rfl,rfl,rfl,by decide +kernel,rfl,by decide +kernel,by decide +kernel⟩
theorem sc_is_form : FnScope ["value"] ["value"] (defScope s_is_form) := ⟨rfl,rfl,rfl,by decide +kernel,rfl,by decide +kernel,by decide +kernel⟩
theorem sc_require_form : FnScope ["value"] ["value"] (defScope s_require_form) := ⟨rfl,rfl,rfl,by decide +kernel,rfl,by decide +kernel,by decide +kernel⟩
theorem sc_bar_of : FnScope ["form"] ["form"] (defScope s_bar_of) := ⟨rfl,rfl,rfl,by decide +kernel,rfl,by decide +kernel,by decide +kernel⟩
theorem sc_worth : FnScope ["form", "place", "x", "y"] ["form", "place"] (defScope s_worth) := ⟨rfl,rfl,rfl,by decide +kernel,rfl,by decide +kernel,by decide +kernel⟩
theorem sc_is_bare : FnScope ["form"] ["form"] (defScope s_is_bare) := ⟨rfl,rfl,rfl,by decide +kernel,rfl,by decide +kernel,by decide +kernel⟩
theorem sc_is_turning : FnScope ["value"] ["value"] (defScope s_is_turning) := ⟨rfl,rfl,rfl,by decide +kernel,rfl,by decide +kernel,by decide +kernel⟩
theorem sc_require_turning : FnScope ["value"] ["value"] (defScope s_require_turning) := ⟨rfl,rfl,rfl,by decide +kernel,rfl,by decide +kernel,by decide +kernel⟩
theorem sc_sent : FnScope ["turning", "place", "x", "y"] ["turning", "place"] (defScope s_sent) := ⟨rfl,rfl,rfl,by decide +kernel,rfl,by decide +kernel,by decide +kernel⟩
theorem sc_way_back : FnScope ["turning"] ["turning"] (defScope s_way_back) := ⟨rfl,rfl,rfl,by decide +kernel,rfl,by decide +kernel,by decide +kernel⟩
theorem sc_is_least : FnScope ["form", "a", "b", "c"] ["form"] (defScope s_is_least) := ⟨rfl,rfl,rfl,by decide +kernel,rfl,by decide +kernel,by decide +kernel⟩
theorem sc_stepped : FnScope ["form", "step", "a", "b"] ["form", "step"] (defScope s_stepped) := ⟨rfl,rfl,rfl,by decide +kernel,rfl,by decide +kernel,by decide +kernel⟩
theorem sc_behind_step : FnScope ["turning", "step", "p", "r"] ["turning", "step"] (defScope s_behind_step) := ⟨rfl,rfl,rfl,by decide +kernel,rfl,by decide +kernel,by decide +kernel⟩
theorem sc_swapped : FnScope ["form"] ["form"] (defScope s_swapped) := ⟨rfl,rfl,rfl,by decide +kernel,rfl,by decide +kernel,by decide +kernel⟩
theorem sc_behind_swap : FnScope ["turning"] ["turning"] (defScope s_behind_swap) := ⟨rfl,rfl,rfl,by decide +kernel,rfl,by decide +kernel,by decide +kernel⟩
theorem sc_step_to_middle : FnScope ["form"] ["form"] (defScope s_step_to_middle) := ⟨rfl,rfl,rfl,by decide +kernel,rfl,by decide +kernel,by decide +kernel⟩
theorem sc_least_of : FnScope ["form", "step", "found", "turning"] ["form"] (defScope s_least_of) := ⟨rfl,rfl,rfl,by decide +kernel,rfl,by decide +kernel,by decide +kernel⟩
theorem sc_require_bare : FnScope ["form"] ["form"] (defScope s_require_bare) := ⟨rfl,rfl,rfl,by decide +kernel,rfl,by decide +kernel,by decide +kernel⟩
theorem sc_require_same_bar : FnScope ["one", "other"] ["one", "other"] (defScope s_require_same_bar) := ⟨rfl,rfl,rfl,by decide +kernel,rfl,by decide +kernel,by decide +kernel⟩
theorem sc_joint_divisor : FnScope ["one", "other", "first", "second"] ["one", "other"] (defScope s_joint_divisor) := ⟨rfl,rfl,rfl,by decide +kernel,rfl,by decide +kernel,by decide +kernel⟩
theorem sc_joint_middle : FnScope ["one", "other", "shares", "half", "total"] ["one", "other", "shares"] (defScope s_joint_middle) := ⟨rfl,rfl,rfl,by decide +kernel,rfl,by decide +kernel,by decide +kernel⟩
theorem sc_joint_rows : FnScope ["one", "other", "divisor", "middle", "a", "b", "d", "e", "last"] ["one", "other", "divisor", "middle"] (defScope s_joint_rows) := ⟨rfl,rfl,rfl,by decide +kernel,rfl,by decide +kernel,by decide +kernel⟩
theorem sc_joined_whole : FnScope ["one", "other", "bar", "shares", "divisor", "first", "middle", "least", "back", "pairs"] ["one", "other"] (defScope s_joined_whole) := ⟨rfl,rfl,rfl,by decide +kernel,rfl,by decide +kernel,by decide +kernel⟩
theorem sc_joined : FnScope ["one", "other"] ["one", "other"] (defScope s_joined) := ⟨rfl,rfl,rfl,by decide +kernel,rfl,by decide +kernel,by decide +kernel⟩
theorem sc_neutral : FnScope ["bar", "middle"] ["bar"] (defScope s_neutral) := ⟨rfl,rfl,rfl,by decide +kernel,rfl,by decide +kernel,by decide +kernel⟩
theorem sc_least_forms_from : FnScope ["bar", "a", "found", "b", "form"] ["bar", "a"] (defScope s_least_forms_from) := ⟨rfl,rfl,rfl,by decide +kernel,rfl,by decide +kernel,by decide +kernel⟩
theorem sc_least_forms : FnScope ["bar", "found", "a"] ["bar"] (defScope s_least_forms) := ⟨rfl,rfl,rfl,by decide +kernel,rfl,by decide +kernel,by decide +kernel⟩
theorem sc_classes : FnScope ["bar"] ["bar"] (defScope s_classes) := ⟨rfl,rfl,rfl,by decide +kernel,rfl,by decide +kernel,by decide +kernel⟩
theorem sc_marks_beside_odd_primes : FnScope ["quarter", "rest", "found"] ["quarter"] (defScope s_marks_beside_odd_primes) := ⟨rfl,rfl,rfl,by decide +kernel,rfl,by decide +kernel,by decide +kernel⟩
theorem sc_marks_of : FnScope ["bar", "found"] ["bar"] (defScope s_marks_of) := ⟨rfl,rfl,rfl,by decide +kernel,rfl,by decide +kernel,by decide +kernel⟩
theorem sc_is_plus_at : FnScope ["mark", "number"] ["mark", "number"] (defScope s_is_plus_at) := ⟨rfl,rfl,rfl,by decide +kernel,rfl,by decide +kernel,by decide +kernel⟩
theorem sc_telling_place : FnScope ["form", "x", "y", "prime"] ["form"] (defScope s_telling_place) := ⟨rfl,rfl,rfl,by decide +kernel,rfl,by decide +kernel,by decide +kernel⟩
theorem sc_signs_of : FnScope ["form", "number"] ["form"] (defScope s_signs_of) := ⟨rfl,rfl,rfl,by decide +kernel,rfl,by decide +kernel,by decide +kernel⟩
theorem sc_genus_of : FnScope ["form", "found", "sign"] ["form"] (defScope s_genus_of) := ⟨rfl,rfl,rfl,by decide +kernel,rfl,by decide +kernel,by decide +kernel⟩
theorem sc_round_of_class : FnScope ["form", "last", "found"] ["form"] (defScope s_round_of_class) := ⟨rfl,rfl,rfl,by decide +kernel,rfl,by decide +kernel,by decide +kernel⟩
theorem sc_round_of : FnScope ["form"] ["form"] (defScope s_round_of) := ⟨rfl,rfl,rfl,by decide +kernel,rfl,by decide +kernel,by decide +kernel⟩
theorem sc_every_so_many : FnScope ["way", "many", "length", "turns"] ["way", "many"] (defScope s_every_so_many) := ⟨rfl,rfl,rfl,by decide +kernel,rfl,by decide +kernel,by decide +kernel⟩
theorem sc_rounds : FnScope ["bar", "found", "form", "way", "many", "one"] ["bar"] (defScope s_rounds) := ⟨rfl,rfl,rfl,by decide +kernel,rfl,by decide +kernel,by decide +kernel⟩
theorem sc_row_written : FnScope ["number", "cells", "width"] ["number", "cells", "width"] (defScope s_row_written) := ⟨rfl,rfl,rfl,by decide +kernel,rfl,by decide +kernel,by decide +kernel⟩
theorem sc_table : FnScope ["bar", "width", "ways", "found", "number", "form", "cells"] ["bar", "width"] (defScope s_table) := ⟨rfl,rfl,rfl,by decide +kernel,rfl,by decide +kernel,by decide +kernel⟩
theorem sc_law_cell_at : FnScope ["_law_script", "_law_k"] ["_law_script", "_law_k"] (defScope s_law_cell_at) := ⟨rfl,rfl,rfl,by decide +kernel,rfl,by decide +kernel,by decide +kernel⟩
theorem sc_law_right : FnScope ["_law_number", "_law_width", "_law_text"] ["_law_number", "_law_width"] (defScope s_law_right) := ⟨rfl,rfl,rfl,by decide +kernel,rfl,by decide +kernel,by decide +kernel⟩
theorem sc_law : FnScope ["_law_script", "_law_low", "_law_a", "_law_b", "_law_c", "_law_bar", "_law_width", "_law_found", "_law_rows", "_law_k", "_law_due", "_law_number"] ["_law_script"] (defScope s_law) := ⟨rfl,rfl,rfl,by decide +kernel,rfl,by decide +kernel,by decide +kernel⟩
section
variable {P : Program} {w : World} {K : PySem.W.Frag} {mg : Str→Option Value} {base : Heap}
theorem ok_is_whole {f : Addr} {fd : FuncData} (T : Tx mg) (F : Fun K "is_whole" "is_whole" s_is_whole f fd) (hm : mg "is_whole" = some (.ref f)) (hb : Binds K fd ["value"] []) : Fn P w K mg base 1 "is_whole" p_is_whole := by
  refine fn_mk F sc_is_whole hm hb (λ ds d h => ?_) (λ cdv A outer s H E hr ds d h => ?_)
  · obtain ⟨i,rfl,rfl⟩ := h
    exact ⟨rfl,by simp⟩
  · obtain ⟨i,rfl,rfl⟩ := h
    exact do_ret (ev_andT (ev_isi T.isi (ev_v 0) T.int bo_int rfl kit_s) (ev_one (ev_notF (ev_isi T.isi (ev_v 0) T.bool bo_bool rfl kit_int_bool)))) rfl
theorem ok_is_whole_tuple {f : Addr} {fd : FuncData} (T : Tx mg) (G1 : Fn P w K mg base 1 "is_whole" p_is_whole) (F : Fun K "is_whole_tuple" "is_whole_tuple" s_is_whole_tuple f fd) (hm : mg "is_whole_tuple" = some (.ref f)) (hb : Binds K fd ["value", "length"] []) :
    Fn P w K mg base 2 "is_whole_tuple" p_is_whole_tuple := by
  refine fn_mk F sc_is_whole_tuple hm hb (λ ds d h => ?_) (λ cdv A outer s H E hr ds d h => ?_)
  · obtain ⟨ns,rfl,_,rfl⟩ := h
    exact ⟨rfl,by simp⟩
  · obtain ⟨ns,rfl,hl,rfl⟩ := h
    have e1 : lenD (.tup (ns.map D.int)) = some ns.length := by simp [lenD]
    refine do_ifF (et_w (ew_orF (et_notT (et_val (ev_isi T.isi (ev_v 0) T.tuple bo_tuple rfl kit_s))) (ew_or1 (Et.ff (et_ne (ev_len T.len (ev_v 0) e1) (ev_v 1)) rfl)))) ?_
    · have hall : ((ns.map λ _ => true).map D.bl) = (((ns.map D.int).filter λ _ => true).map λ _ => D.bl true) := by
        rw [List.filter_eq_self.mpr (λ _ _ => rfl)]
        simp
      refine do_ret (ev_all (bs := ns.map λ _ => true) rfl T.all ?_) ?_
      · rw [hall]
        refine (evn_comp (ys := []) (js := []) (cl := []) (λ _ => true) (λ _ => .bl true) rfl (src_tup (ev_v 0)) (by simp; omega) (λ _ _ _ => .bl true) (λ C s₀ H₀ fp d hd => ets_nil) (λ C s₀ H₀ fp d hd _ => ?_) rfl (by decide) rfl (by decide) rfl (by decide) (λ y c h => by cases h) (no_free (by decide)) rfl (λ i j y h => by cases h)).ev
        · obtain ⟨z,_,rfl⟩ := List.mem_map.mp hd
          exact ev_call G1 hr (ea_cons (ev_v 0) ea_nil) ⟨z,rfl,rfl⟩
      · show D.bl _ = D.bl _
        congr 1
        simp
theorem ok_is_bar {f : Addr} {fd : FuncData} (G1 : Fn P w K mg base 1 "is_whole" p_is_whole) (F : Fun K "is_bar" "is_bar" s_is_bar f fd) (hm : mg "is_bar" = some (.ref f)) (hb : Binds K fd ["value"] []) : Fn P w K mg base 2 "is_bar" p_is_bar := by
  refine fn_mk F sc_is_bar hm hb (λ ds d h => ?_) (λ cdv A outer s H E hr ds d h => ?_)
  · obtain ⟨i,rfl,_⟩ := h
    exact ⟨rfl,by simp⟩
  · obtain ⟨i,rfl,hi,h4,rfl⟩ := h
    refine do_ret (ev_andT (ev_call G1 hr (ea_cons (ev_v 0) ea_nil) ⟨i,rfl,rfl⟩) (ev_andT (Ev.tt (ev_lt (ev_v 0) ev_int) hi) (ev_one (Ev.to (ev_in (n := 0) (ds := [.int 0,.int 1]) hr (ev_mod (ev_v 0) ev_int (by decide)) (ev_tup (ea_cons ev_int (ea_cons ev_int ea_nil))) (.inr rfl) ?_) ?_)))) rfl
    · intro z hz
      simp only [List.mem_cons,List.not_mem_nil,or_false] at hz
      rcases hz with rfl | rfl <;> exact .int _ _
    · congr 1
      rw [inD_iff]
      rcases h4 with h | h <;> rw [h] <;> simp
theorem ok_require_bar {f : Addr} {fd : FuncData} (G1 : Fn P w K mg base 2 "is_bar" p_is_bar) (F : Fun K "require_bar" "require_bar" s_require_bar f fd) (hm : mg "require_bar" = some (.ref f)) (hb : Binds K fd ["value"] []) : Fn P w K mg base 3 "require_bar" p_require_bar := by
  refine fn_mk F sc_require_bar hm hb (λ ds d h => ?_) (λ cdv A outer s H E hr ds d h => ?_)
  · obtain ⟨i,rfl,_⟩ := h
    exact ⟨rfl,by simp⟩
  · obtain ⟨i,rfl,hi,h4,rfl⟩ := h
    exact do_ifF (et_notT (et_val (ev_call G1 hr (ea_cons (ev_v 0) ea_nil) ⟨i,rfl,hi,h4,rfl⟩))) (do_nil rfl)
theorem ok_require_bar_from {f : Addr} {fd : FuncData} (G1 : Fn P w K mg base 3 "require_bar" p_require_bar) (F : Fun K "require_bar_from" "require_bar_from" s_require_bar_from f fd) (hm : mg "require_bar_from" = some (.ref f)) (hb : Binds K fd ["value", "lowest"] []) : Fn P w K mg base 4 "require_bar_from" p_require_bar_from := by
  refine fn_mk F sc_require_bar_from hm hb (λ ds d h => ?_) (λ cdv A outer s H E hr ds d h => ?_)
  · obtain ⟨i,l,rfl,_⟩ := h
    exact ⟨rfl,by simp⟩
  · obtain ⟨i,l,rfl,hi,h4,hl,rfl⟩ := h
    refine do_expr (ev_call G1 hr (ea_cons (ev_v 0) ea_nil) ⟨i,rfl,hi,h4,rfl⟩) ?_
    exact do_ifF (Et.ff' (et_lt (ev_v 0) (ev_v 1)) (by omega)) (do_nil rfl)
theorem ok_require_whole {f : Addr} {fd : FuncData} (G1 : Fn P w K mg base 1 "is_whole" p_is_whole) (F : Fun K "require_whole" "require_whole" s_require_whole f fd) (hm : mg "require_whole" = some (.ref f)) (hb : Binds K fd ["value"] []) : Fn P w K mg base 2 "require_whole" p_require_whole := by
  refine fn_mk F sc_require_whole hm hb (λ ds d h => ?_) (λ cdv A outer s H E hr ds d h => ?_)
  · obtain ⟨i,rfl,_⟩ := h
    exact ⟨rfl,by simp⟩
  · obtain ⟨i,rfl,rfl⟩ := h
    exact do_ifF (et_notT (et_val (ev_call G1 hr (ea_cons (ev_v 0) ea_nil) ⟨i,rfl,rfl⟩))) (do_nil rfl)
theorem ok_common_divisor {f : Addr} {fd : FuncData} (T : Tx mg) (F : Fun K "common_divisor" "common_divisor" s_common_divisor f fd) (hm : mg "common_divisor" = some (.ref f)) (hb : Binds K fd ["one", "other"] []) :
    Fn P w K mg base 1 "common_divisor" p_common_divisor := by
  refine fn_mk F sc_common_divisor hm hb (λ ds d h => ?_) (λ cdv A outer s H E hr ds d h => ?_)
  · obtain ⟨a,b,rfl,rfl⟩ := h
    exact ⟨rfl,by simp⟩
  · obtain ⟨a,b,rfl,rfl⟩ := h
    have nd := sc_common_divisor.nd
    refine do_set 2 (ev_abs T.abs (ev_v 0)) (.int _) (do_set 3 (ev_abs T.abs (ev_v 1)) (.int _) ?_ nd) nd
    refine do_while (λ ρ => ∃ g l r,ρ = [some (.int a),some (.int b),some (.int g),some (.int l),r] ∧ 0 ≤ g ∧ 0 ≤ l ∧ Int.gcd g l = Int.gcd a b)
      (λ ρ => ∃ g r,ρ = [some (.int a),some (.int b),some (.int g),some (.int 0),r] ∧ 0 ≤ g ∧ Int.gcd g 0 = Int.gcd a b)
      (λ ρ => (intAt ρ 3).natAbs) PassesOwn.never ⟨(a.natAbs : Int),(b.natAbs : Int),none,rfl,by omega,by omega,M.gcd_abs a b⟩ ?_ ?_
    · rintro ρ ⟨g,l,r,rfl,hg,hl,e⟩
      refine ⟨_,et_ne (ev_v 3) ev_int,λ hk => ?_,λ hk => ?_⟩
      · have hl0 : l ≠ 0 := by simpa using hk
        have hp : 0 < l := by omega
        have h1 := Int.emod_nonneg g hl0
        have h2 := Int.emod_lt_of_pos g hp
        refine do_set 4 (ev_mod (ev_v 2) (ev_v 3) hp) (.int _) (do_set 2 (ev_v 3) (.int _) (do_set 3 (ev_v 4) (.int _) (do_nil ⟨⟨l,g % l,_,rfl,hl,h1,?_⟩,?_⟩) nd) nd) nd
        · rw [M.emod_gcd]
          exact e
        · show (g % l).natAbs < l.natAbs
          omega
      · have hl0 : l = 0 := by simpa using hk
        subst hl0
        exact ⟨g,r,rfl,hg,e⟩
    · rintro ρ ⟨g,r,rfl,hg,e⟩
      refine do_ret (ev_v 2) ?_
      show D.int g = D.int _
      rw [← e,Int.gcd_zero_right]
      congr 1
      omega
theorem ok_divisor_with_shares {f : Addr} {fd : FuncData} (F : Fun K "divisor_with_shares" "divisor_with_shares" s_divisor_with_shares f fd) (hm : mg "divisor_with_shares" = some (.ref f)) (hb : Binds K fd ["one", "other"] []) : FnR P w K mg base 1 "divisor_with_shares" pre_dws post_dws := by
  refine fnr_mk F sc_divisor_with_shares hm hb (λ ds h => ?_) (λ cdv A outer s H E hr ds h => ?_)
  · obtain ⟨a,b,rfl,_⟩ := h
    exact ⟨rfl,by simp⟩
  · obtain ⟨one,other,rfl,s1,s2⟩ := h
    have nd := sc_divisor_with_shares.nd
    refine do_set 2 (ev_v 0) (.int _) ?_ nd
    refine do_set 3 ev_int (.int _) ?_ nd
    refine do_set 4 (ev_v 1) (.int _) ?_ nd
    refine do_set 5 ev_int (.int _) ?_ nd
    refine do_while (λ ρ => ∃ dv sh rs rsh t6 t7 t8,ρ = [some (.int one),some (.int other),some (.int dv),some (.int sh),some (.int rs),some (.int rsh),t6,t7,t8] ∧ ME.EG one other dv sh rs rsh)
      (λ ρ => ∃ dv sh rsh t6 t7 t8,ρ = [some (.int one),some (.int other),some (.int dv),some (.int sh),some (.int 0),some (.int rsh),t6,t7,t8] ∧ ME.EG one other dv sh 0 rsh)
      (λ ρ => (intAt ρ 4).natAbs) PassesOwn.never ⟨_,_,_,_,_,_,_,rfl,ME.EG.start one other⟩ ?_ ?_
    · rintro ρ ⟨dv,sh,rs,rsh,t6,t7,t8,rfl,g⟩
      refine ⟨_,et_ne (ev_v 4) ev_int,λ hk => ?_,λ hk => ?_⟩
      · have hr0 : rs ≠ 0 := by simpa using hk
        obtain ⟨bd,br,bs,bq⟩ := eg_bd g s1 s2
        obtain ⟨g2,lt⟩ := g.step hr0
        have bt := times_bd hr0 bd
        refine do_set 6 (ev_divN (ev_v 2) (ev_v 4) hr0 br) (.int _) ?_ nd
        refine do_set 7 (ev_sub (ev_v 2) (ev_mul (ev_v 6) (ev_v 4) bt br)) (.int _) ?_ nd
        refine do_set 8 (ev_sub (ev_v 3) (ev_mul (ev_v 6) (ev_v 5) bt bq)) (.int _) ?_ nd
        refine do_set 2 (ev_v 4) (.int _) ?_ nd
        refine do_set 3 (ev_v 5) (.int _) ?_ nd
        refine do_set 4 (ev_v 7) (.int _) ?_ nd
        refine do_set 5 (ev_v 8) (.int _) (do_nil ⟨⟨_,_,_,_,_,_,_,rfl,g2⟩,?_⟩) nd
        exact lt
      · have hr0 : rs = 0 := by simpa using hk
        subst hr0
        exact ⟨dv,sh,rsh,t6,t7,t8,rfl,g⟩
    · rintro ρ ⟨dv,sh,rsh,t6,t7,t8,rfl,g⟩
      obtain ⟨bd,_,bs,_⟩ := eg_bd g s1 s2
      obtain ⟨V,e1,e2⟩ := g.fin
      refine do_if (λ ρ => ∃ gg u v : Int,ρ = [some (.int one),some (.int other),some (.int gg),some (.int u),some (.int 0),some (.int rsh),t6,t7,t8] ∧ gg = (Int.gcd one other : Nat) ∧ gg = u * one + v * other ∧ Bd u 1461)
        (et_lt (ev_v 2) ev_int) (λ hk => ?_) (λ hk => ?_) ?_
      · simp only [decide_eq_true_eq] at hk
        refine do_set 2 (ev_neg (ev_v 2)) (.int _) ?_ nd
        refine do_set 3 (ev_neg (ev_v 3)) (.int _) (do_nil ⟨-dv,-sh,-V,rfl,by omega,?_,⟨intBits_neg_le bs.lt⟩⟩) nd
        rw [e1]
        grind
      · simp only [decide_eq_false_iff_not] at hk
        exact do_nil ⟨dv,sh,V,rfl,by omega,e1,bs⟩
      · rintro ρ ⟨gg,u,v,rfl,hg,hl,bu⟩
        have bgg : Bd gg 1461 := by
          rw [hg]
          by_cases z : other = 0
          · subst z
            have : ((Int.gcd one 0 : Nat) : Int) = one.natAbs := by simp
            rw [this]
            exact (s1.le (by simp)).up _ (by decide)
          · have := Int.le_of_dvd (Int.natAbs_pos.mpr z |> Int.ofNat_lt.mpr) (Int.dvd_natAbs.mpr (Int.gcd_dvd_right one other))
            exact (s2.le (by omega)).up _ (by decide)
        by_cases z : other = 0
        · refine do_ret (ev_tup (ea_cons (ev_v 2) (ea_cons (ev_v 3) (ea_cons (ev_ifF (Et.ff (et_ne (ev_v 1) ev_int) z) ev_int) ea_nil)))) ?_
          intro x y e
          cases e
          exact ⟨gg,u,0,rfl,hg,by rw [hl,z]; omega,bu,.lit⟩
        · have ev : (gg - u * one).fdiv other = v := by
            have : gg - u * one = v * other := by omega
            rw [this]
            exact Int.mul_fdiv_cancel v z
          refine do_ret (ev_tup (ea_cons (ev_v 2) (ea_cons (ev_v 3) (ea_cons (ev_ifT (Et.to (et_ne (ev_v 1) ev_int) (by simpa using z)) (ev_divN (ev_sub (ev_v 2) (ev_mul (ev_v 3) (ev_v 0) bu s1)) (ev_v 1) z s2)) ea_nil)))) ?_
          intro x y e
          cases e
          refine ⟨gg,u,v,by rw [ev],hg,hl,bu,?_⟩
          have k : Bd (v * other) 2925 := by
            have : v * other = gg - u * one := by omega
            rw [this]
            exact Bd.sub bgg (Bd.mul bu s1 2921 (by decide)) _ (by decide)
          refine k.le ?_
          rw [Int.natAbs_mul]
          exact Nat.le_mul_of_pos_right _ (by omega)
set_option maxHeartbeats 4000000 in
theorem ok_prime_factors {f : Addr} {fd : FuncData} (F : Fun K "prime_factors" "prime_factors" s_prime_factors f fd) (hm : mg "prime_factors" = some (.ref f)) (hb : Binds K fd ["number"] []) : FnL P w K mg base 1 "prime_factors" p_pf := by
  refine fnl_mk F sc_prime_factors hm hb (λ ds es h => ?_) (λ cdv A outer s H E hr ds es h => ?_)
  · obtain ⟨p,rfl,_⟩ := h
    exact ⟨rfl,by simp⟩
  · obtain ⟨n,rfl,n0,n1,rfl⟩ := h
    have nd := sc_prime_factors.nd
    refine do_set 1 (ev_v 0) (.int _) ?_ nd
    refine do_setN 2 (evn_list ea_nil) (λ d hd => by cases hd) (λ l _ => ?_) nd
    refine do_set 3 ev_int (.int _) ?_ nd
    refine do_while (λ ρ => ∃ (k r : Nat) (fs : List Nat),ρ = [some (nD n),some (nD r),some (.lst l (fs.map nD)),some (nD k)] ∧ 2 ≤ k ∧ k ≤ n + 1 ∧ 0 < r ∧ 2 ^ fs.length * r ≤ n ∧ MD.PF n = fs ++ MD.PF r ∧ ∀ d,2 ≤ d → d ∣ r → k ≤ d)
      (λ ρ => ∃ (k r : Nat) (fs : List Nat),ρ = [some (nD n),some (nD r),some (.lst l (fs.map nD)),some (nD k)] ∧ 0 < r ∧ 2 ^ fs.length * r ≤ n ∧ MD.PF n = fs ++ MD.PF r ∧ (∀ d,2 ≤ d → d ∣ r → k ≤ d) ∧ r < k * k) (λ ρ => (n + 2 - intAt ρ 3).toNat) PassesOwn.never ⟨2,n,[],rfl,by decide,by omega,n0,by simp,rfl,λ d h _ => h⟩ ?_ ?_
    · rintro ρ ⟨k,r,fs,rfl,k2,kn,r0,hl,e,hd⟩
      have rn : r ≤ n := Nat.le_trans (Nat.le_mul_of_pos_left r (Nat.pow_pos (by decide))) hl
      have bk : Bd (k : Int) 22 := .of_lt (by omega)
      refine ⟨_,et_le (ev_mul (ev_v 3) (ev_v 3) bk bk) (ev_v 1),λ hk => ?_,λ hk => ?_⟩
      · have hk' : k * k ≤ r := by
          have : (k : Int) * (k : Int) ≤ (r : Int) := by simpa using hk
          exact_mod_cast this
        have kr : k ≤ r := Nat.le_trans (Nat.le_mul_self k) hk'
        refine do_while (λ ρ => ∃ (r : Nat) (fs : List Nat),ρ = [some (nD n),some (nD r),some (.lst l (fs.map nD)),some (nD k)] ∧ 0 < r ∧ 2 ^ fs.length * r ≤ n ∧ MD.PF n = fs ++ MD.PF r ∧ ∀ d,2 ≤ d → d ∣ r → k ≤ d)
          (λ ρ => ∃ (r : Nat) (fs : List Nat),ρ = [some (nD n),some (nD r),some (.lst l (fs.map nD)),some (nD k)] ∧ 0 < r ∧ 2 ^ fs.length * r ≤ n ∧ MD.PF n = fs ++ MD.PF r ∧ (∀ d,2 ≤ d → d ∣ r → k ≤ d) ∧ ¬ k ∣ r) (λ ρ => (intAt ρ 1).toNat) PassesOwn.never ⟨r,fs,rfl,r0,hl,e,hd⟩ ?_ ?_
        · rintro ρ ⟨r,fs,rfl,r0,hl,e,hd⟩
          refine ⟨_,et_eq (ev_mod (ev_v 1) (ev_v 3) (by omega)) ev_int,λ hk => ?_,λ hk => ?_⟩
          · have hk' : r % k = 0 := by
              have : (r : Int) % (k : Int) = 0 := by simpa using hk
              exact_mod_cast this
            obtain ⟨m,rfl⟩ := Nat.dvd_of_mod_eq_zero hk'
            have m0 : 0 < m := Nat.pos_of_mul_pos_left r0
            have fl : fs.length < 22 := pow_small (Nat.le_trans (Nat.le_mul_of_pos_right _ r0) hl) n1
            have e2 : MD.PF (k * m) = k :: MD.PF m := MD.PF_cons k2 m0 hd
            have em : ((k * m : Nat) : Int) / (k : Int) = (m : Int) := by
              rw [Int.natCast_mul]
              exact Int.mul_ediv_cancel_left _ (by omega)
            refine do_append 2 rfl (ev_v 3) (.int _) (by rw [List.length_map]; omega) (others_of rfl) ?_
            refine do_set 1 (d := nD m) (Ev.to (ev_div (ev_v 1) (ev_v 3) (by omega) bk) (congrArg D.int em)) (.int _) (do_nil ⟨⟨m,fs ++ [k],?_,m0,?_,?_,λ d d2 dm => hd d d2 (Nat.dvd_trans dm (Nat.dvd_mul_left m k))⟩,?_⟩) nd
            · rw [List.map_append]
              rfl
            · rw [List.length_append,List.length_singleton,Nat.pow_succ,Nat.mul_assoc]
              exact Nat.le_trans (Nat.mul_le_mul_left _ (Nat.mul_le_mul_right m k2)) hl
            · rw [e,e2,List.append_assoc]
              rfl
            · show ((m : Nat) : Int).toNat < ((k * m : Nat) : Int).toNat
              have := Nat.mul_le_mul_right m k2
              omega
          · have hk' : ¬ r % k = 0 := λ z => by
              have : ¬ (r : Int) % (k : Int) = 0 := by simpa using hk
              exact this (by exact_mod_cast z)
            exact ⟨r,fs,rfl,r0,hl,e,hd,λ z => hk' (Nat.mod_eq_zero_of_dvd z)⟩
        · rintro ρ ⟨r',fs',rfl,r0',hl',e',hd',hn⟩
          refine do_aug 3 rfl ev_int (do_nil ⟨⟨k + 1,r',fs',rfl,by omega,by omega,r0',hl',e',λ d d2 dr => ?_⟩,?_⟩) nd
          · have h1 := hd' d d2 dr
            by_cases z : d = k
            · subst z
              exact absurd dr hn
            · omega
          · show ((n : Int) + 2 - ((k : Int) + 1)).toNat < ((n : Int) + 2 - (k : Int)).toNat
            omega
      · have hk' : r < k * k := by
          have : ¬ (k : Int) * (k : Int) ≤ (r : Int) := by simpa using hk
          exact Nat.not_le.mp λ z => this (by exact_mod_cast z)
        exact ⟨k,r,fs,rfl,r0,hl,e,hd,hk'⟩
    · rintro ρ ⟨k,r,fs,rfl,r0,hl,e,hd,hk⟩
      have fl : fs.length < 22 := pow_small (Nat.le_trans (Nat.le_mul_of_pos_right _ r0) hl) n1
      refine do_if (λ ρ => ρ = [some (nD n),some (nD r),some (.lst l ((MD.PF n).map nD)),some (nD k)]) (et_gt (ev_v 1) ev_int) (λ hk => ?_) (λ hk => ?_) ?_
      · have h1 : 1 < r := by
          have : (1 : Int) < (r : Int) := by simpa using hk
          omega
        refine do_append 2 rfl (ev_v 1) (.int _) (by rw [List.length_map]; omega) (others_of rfl) (do_nil ?_)
        rw [e,PF_last h1 hd (by assumption),List.map_append]
        rfl
      · have h1 : r = 1 := by
          have : ¬ (1 : Int) < (r : Int) := by simpa using hk
          omega
        refine do_nil ?_
        rw [e,h1,MD.PF_small (show 1 < 2 by decide),List.append_nil]
      · rintro ρ rfl
        exact do_ret (ev_v 2) ⟨l,rfl⟩ (λ a z => by cases z; exact ⟨2,_,rfl,rfl⟩)
theorem ok_prime_divisors {f : Addr} {fd : FuncData} (T : Tx mg) (Gp : FnL P w K mg base 1 "prime_factors" p_pf) (F : Fun K "prime_divisors" "prime_divisors" s_prime_divisors f fd) (hm : mg "prime_divisors" = some (.ref f)) (hb : Binds K fd ["number"] []) : FnL P w K mg base 2 "prime_divisors" p_pd := by
  refine fnl_mk F sc_prime_divisors hm hb (λ ds es h => ?_) (λ cdv A outer s H E hr ds es h => ?_)
  · obtain ⟨p,rfl,_⟩ := h
    exact ⟨rfl,by simp⟩
  · obtain ⟨n,rfl,n0,n1,rfl⟩ := h
    have e : (MD.PF n).map nD = ((MD.PF n).map λ (p : Nat) => (p : Int)).map D.int := by rw [List.map_map]; rfl
    exact do_retL (FK.evn_sortedSet rfl T.sorted T.set (EvN.ev (evn_call Gp hr (ea_cons (ev_v 0) ea_nil) ⟨n,rfl,n0,n1,rfl⟩)) (congrArg some e) (by rw [List.length_map]; exact PF_few n0 n1) (PD_up n) λ k => PD_mem) λ l => ⟨l,rfl⟩
set_option maxHeartbeats 1000000 in
theorem ok_power_by {f : Addr} {fd : FuncData} (F : Fun K "power_by" "power_by" s_power_by f fd) (hm : mg "power_by" = some (.ref f)) (hb : Binds K fd ["base", "exponent", "divisor"] []) : Fn P w K mg base 1 "power_by" p_power := by
  refine fn_mk F sc_power_by hm hb (λ ds d h => ?_) (λ cdv A outer s H E hr ds d h => ?_)
  · obtain ⟨b,p,e,rfl,_⟩ := h
    exact ⟨rfl,by simp⟩
  · obtain ⟨b,p,e,rfl,p2,pl,b0,b1,rfl⟩ := h
    have nd := sc_power_by.nd
    refine do_set 3 ev_int (.int _) ?_ nd
    refine do_while (λ ρ => ∃ (g t : Int) (n : Nat),ρ = [some (.int t),some (.int (n : Int)),some (.int p),some (.int g)] ∧ 0 ≤ g ∧ g < p ∧ 0 ≤ t ∧ t < p ∧ MP.Sm p (g * t ^ n) (b ^ e))
      (λ ρ => ∃ (g : Int) (u v : Option D),ρ = [u,v,some (.int p),some (.int g)] ∧ 0 ≤ g ∧ g < p ∧ MP.Sm p g (b ^ e)) (λ ρ => (intAt ρ 1).natAbs) PassesOwn.never ⟨1,b,e,rfl,by omega,by omega,b0,b1,by rw [Int.one_mul]; exact MP.Sm.refl _ _⟩ ?_ ?_
    · rintro ρ ⟨g,t,n,rfl,g0,g1,t0,t1,hs⟩
      have bg : Bd g 22 := .of_lt (by omega)
      have bt : Bd t 22 := .of_lt (by omega)
      refine ⟨_,et_gt (ev_v 1) ev_int,λ hk => ?_,λ hk => ?_⟩
      · have n0 : 0 < n := by simpa using hk
        have hs2 := (MP.Sm.symm (pow_half p g t n)).trans hs
        refine do_if (λ ρ => ρ = [some (.int t),some (.int (n : Int)),some (.int p),some (.int (if n % 2 = 1 then g * t % p else g))]) (et_eq (ev_mod (ev_v 1) ev_int (by decide)) ev_int) (λ hk => ?_) (λ hk => ?_) ?_
        · have h1 : n % 2 = 1 := by simp only [decide_eq_true_eq] at hk; omega
          rw [if_pos h1]
          exact do_set 3 (ev_mod (ev_mul (ev_v 3) (ev_v 0) bg bt) (ev_v 2) (by omega)) (.int _) (do_nil rfl) nd
        · have h1 : ¬ n % 2 = 1 := by simp only [decide_eq_false_iff_not] at hk; omega
          rw [if_neg h1]
          exact do_nil rfl
        · rintro ρ rfl
          have g2 : 0 ≤ (if n % 2 = 1 then g * t % p else g) ∧ (if n % 2 = 1 then g * t % p else g) < p := by
            split
            · exact ⟨Int.emod_nonneg _ (by omega),Int.emod_lt_of_pos _ (by omega)⟩
            · exact ⟨g0,g1⟩
          generalize (if n % 2 = 1 then g * t % p else g) = g' at *
          refine do_set 0 (ev_mod (ev_mul (ev_v 0) (ev_v 0) bt bt) (ev_v 2) (by omega)) (.int _) ?_ nd
          refine do_set 1 (d := .int ((n / 2 : Nat) : Int)) (Ev.to (ev_div (ev_v 1) ev_int (by decide) bd_2) (congrArg D.int (by omega))) (.int _) (do_nil ⟨⟨g',t * t % p,n / 2,rfl,g2.1,g2.2,Int.emod_nonneg _ (by omega),Int.emod_lt_of_pos _ (by omega),hs2⟩,?_⟩) nd
          show (((n / 2 : Nat) : Int)).natAbs < ((n : Int)).natAbs
          omega
      · have n0 : n = 0 := by simp only [decide_eq_false_iff_not] at hk; omega
        subst n0
        refine ⟨g,_,_,rfl,g0,g1,?_⟩
        rw [Int.pow_zero,Int.mul_one] at hs
        exact hs
    · rintro ρ ⟨g,u,v,rfl,g0,g1,hs⟩
      refine do_ret (ev_v 3) ?_
      show D.int _ = D.int _
      congr 1
      have e := hs.emod
      rw [Int.emod_eq_of_lt g0 g1] at e
      exact e
theorem ok_leaves_square {f : Addr} {fd : FuncData} (G1 : Fn P w K mg base 1 "power_by" p_power) (F : Fun K "leaves_square" "leaves_square" s_leaves_square f fd) (hm : mg "leaves_square" = some (.ref f)) (hb : Binds K fd ["number", "prime"] []) : Fn P w K mg base 2 "leaves_square" p_leaves := by
  refine fn_mk F sc_leaves_square hm hb (λ ds d h => ?_) (λ cdv A outer s H E hr ds d h => ?_)
  · obtain ⟨i,p,rfl,_⟩ := h
    exact ⟨rfl,by simp⟩
  · obtain ⟨i,p,rfl,p3,po,pl,rfl⟩ := h
    have e1 : ((p : Int) - 1) / 2 = ((p / 2 : Nat) : Int) := by omega
    have e2 : (i % (p : Int)) ^ (p / 2) % (p : Int) = i ^ (p / 2) % (p : Int) := ((MP.Sm.mod (p : Int) i).pow _).emod
    refine do_ret (ev_eq (Ev.to (ev_call G1 hr (ea_cons (ev_mod (ev_v 0) (ev_v 1) (by omega)) (ea_cons (Ev.to (ev_div (ev_sub (ev_v 1) ev_int) ev_int (by decide) bd_2) (congrArg D.int e1)) (ea_cons (ev_v 1) ea_nil))) ⟨i % (p : Int),p,p / 2,rfl,by omega,by omega,Int.emod_nonneg _ (by omega),Int.emod_lt_of_pos _ (by omega),rfl⟩) (congrArg D.int e2)) ev_int) rfl
theorem ok_bar_of_numbers {f : Addr} {fd : FuncData} (F : Fun K "bar_of_numbers" "bar_of_numbers" s_bar_of_numbers f fd) (hm : mg "bar_of_numbers" = some (.ref f)) (hb : Binds K fd ["a", "b", "c"] []) :
    Fn P w K mg base 1 "bar_of_numbers" p_bar_of_numbers := by
  refine fn_mk F sc_bar_of_numbers hm hb (λ ds d h => ?_) (λ cdv A outer s H E hr ds d h => ?_)
  · obtain ⟨a,b,c,rfl,_,_,_,rfl⟩ := h
    exact ⟨rfl,by simp⟩
  · obtain ⟨a,b,c,rfl,ha,hb,hc,rfl⟩ := h
    exact do_ret (ev_sub (ev_mul (ev_v 1) (ev_v 1) inferInstance inferInstance) (ev_mul (ev_mul ev_int (ev_v 0) inferInstance inferInstance) (ev_v 2) inferInstance inferInstance)) rfl
theorem ok_is_form {f : Addr} {fd : FuncData} (G1 : Fn P w K mg base 2 "is_whole_tuple" p_is_whole_tuple) (G2 : Fn P w K mg base 1 "bar_of_numbers" p_bar_of_numbers) (F : Fun K "is_form" "is_form" s_is_form f fd) (hm : mg "is_form" = some (.ref f)) (hb : Binds K fd ["value"] []) :
    Fn P w K mg base 3 "is_form" p_is_form := by
  refine fn_mk F sc_is_form hm hb (λ ds d h => ?_) (λ cdv A outer s H E hr ds d h => ?_)
  · obtain ⟨a,b,c,rfl,_,rfl⟩ := h
    exact ⟨rfl,by simp⟩
  · obtain ⟨a,b,c,rfl,hf,rfl⟩ := h
    refine do_ifF (et_notT (et_val (ev_call G1 hr (ea_cons (ev_v 0) (ea_cons ev_int ea_nil)) ⟨[a,b,c],rfl,by simp,rfl⟩))) ?_
    refine do_ret (ev_andT (Ev.tt (ev_gt (ev_ix (ev_v 0) ev_int rfl) ev_int) hf.pos) (ev_one (Ev.tt (ev_lt (ev_call G2 (hr.mono (by decide)) (ea_cons (ev_ix (ev_v 0) ev_int rfl) (ea_cons (ev_ix (ev_v 0) ev_int rfl) (ea_cons (ev_ix (ev_v 0) ev_int rfl) ea_nil)))
      ⟨a,b,c,rfl,hf.sa,hf.sb,hf.sc,rfl⟩) ev_int) hf.bar))) rfl
theorem ok_require_form {f : Addr} {fd : FuncData} (G1 : Fn P w K mg base 3 "is_form" p_is_form) (F : Fun K "require_form" "require_form" s_require_form f fd) (hm : mg "require_form" = some (.ref f)) (hb : Binds K fd ["value"] []) :
    Fn P w K mg base 4 "require_form" p_require_form := by
  refine fn_mk F sc_require_form hm hb (λ ds d h => ?_) (λ cdv A outer s H E hr ds d h => ?_)
  · obtain ⟨a,b,c,rfl,_,rfl⟩ := h
    exact ⟨rfl,by simp⟩
  · obtain ⟨a,b,c,rfl,hf,rfl⟩ := h
    exact do_ifF (et_notT (et_val (ev_call G1 hr (ea_cons (ev_v 0) ea_nil) ⟨a,b,c,rfl,hf,rfl⟩))) (do_nil rfl)
theorem ok_bar_of {f : Addr} {fd : FuncData} (G1 : Fn P w K mg base 4 "require_form" p_require_form) (G2 : Fn P w K mg base 1 "bar_of_numbers" p_bar_of_numbers) (F : Fun K "bar_of" "bar_of" s_bar_of f fd) (hm : mg "bar_of" = some (.ref f)) (hb : Binds K fd ["form"] []) :
    Fn P w K mg base 5 "bar_of" p_bar_of := by
  refine fn_mk F sc_bar_of hm hb (λ ds d h => ?_) (λ cdv A outer s H E hr ds d h => ?_)
  · obtain ⟨a,b,c,rfl,_,rfl⟩ := h
    exact ⟨rfl,by simp⟩
  · obtain ⟨a,b,c,rfl,hf,rfl⟩ := h
    refine do_expr (ev_call G1 hr (ea_cons (ev_v 0) ea_nil) ⟨a,b,c,rfl,hf,rfl⟩) ?_
    exact do_ret (ev_call G2 (hr.mono (by decide)) (ea_cons (ev_ix (ev_v 0) ev_int rfl) (ea_cons (ev_ix (ev_v 0) ev_int rfl) (ea_cons (ev_ix (ev_v 0) ev_int rfl) ea_nil))) ⟨a,b,c,rfl,hf.sa,hf.sb,hf.sc,rfl⟩) rfl
theorem ok_worth {f : Addr} {fd : FuncData} (G1 : Fn P w K mg base 4 "require_form" p_require_form) (F : Fun K "worth" "worth" s_worth f fd) (hm : mg "worth" = some (.ref f)) (hb : Binds K fd ["form", "place"] []) :
    Fn P w K mg base 5 "worth" p_worth := by
  refine fn_mk F sc_worth hm hb (λ ds d h => ?_) (λ cdv A outer s H E hr ds d h => ?_)
  · obtain ⟨a,b,c,x,y,rfl,_,_,_,rfl⟩ := h
    exact ⟨rfl,by simp⟩
  · obtain ⟨a,b,c,x,y,rfl,hf,hx,hy,rfl⟩ := h
    have nd := sc_worth.nd
    have ha := hf.sa
    have hb := hf.sb
    have hc := hf.sc
    refine do_expr (ev_call G1 hr (ea_cons (ev_v 0) ea_nil) ⟨a,b,c,rfl,hf,rfl⟩) ?_
    refine do_set 2 (ev_ix (ev_v 1) ev_int rfl) (.int x) (do_set 3 (ev_ix (ev_v 1) ev_int rfl) (.int y) ?_ nd) nd
    exact do_ret (ev_add (ev_add (ev_mul (ev_mul (ev_ix (ev_v 0) ev_int rfl) (ev_v 2) inferInstance inferInstance) (ev_v 2) inferInstance inferInstance) (ev_mul (ev_mul (ev_ix (ev_v 0) ev_int rfl) (ev_v 2) inferInstance inferInstance) (ev_v 3) inferInstance inferInstance))
      (ev_mul (ev_mul (ev_ix (ev_v 0) ev_int rfl) (ev_v 3) inferInstance inferInstance) (ev_v 3) inferInstance inferInstance)) rfl
theorem ok_is_bare {f : Addr} {fd : FuncData} (G1 : Fn P w K mg base 4 "require_form" p_require_form) (G2 : Fn P w K mg base 1 "common_divisor" p_common_divisor) (F : Fun K "is_bare" "is_bare" s_is_bare f fd) (hm : mg "is_bare" = some (.ref f)) (hb : Binds K fd ["form"] []) :
    Fn P w K mg base 5 "is_bare" p_is_bare := by
  refine fn_mk F sc_is_bare hm hb (λ ds d h => ?_) (λ cdv A outer s H E hr ds d h => ?_)
  · obtain ⟨a,b,c,rfl,_,rfl⟩ := h
    exact ⟨rfl,by simp⟩
  · obtain ⟨a,b,c,rfl,hf,rfl⟩ := h
    refine do_expr (ev_call G1 hr (ea_cons (ev_v 0) ea_nil) ⟨a,b,c,rfl,hf,rfl⟩) ?_
    have hr1 := hr.mono (show 1 ≤ 4 by decide)
    exact do_ret (ev_eq (ev_call G2 hr1 (ea_cons (ev_call G2 hr1 (ea_cons (ev_ix (ev_v 0) ev_int rfl) (ea_cons (ev_ix (ev_v 0) ev_int rfl) ea_nil)) ⟨a,b,rfl,rfl⟩) (ea_cons (ev_ix (ev_v 0) ev_int rfl) ea_nil)) ⟨_,c,rfl,rfl⟩) ev_int) rfl
theorem ok_is_turning {f : Addr} {fd : FuncData} (G1 : Fn P w K mg base 2 "is_whole_tuple" p_is_whole_tuple) (F : Fun K "is_turning" "is_turning" s_is_turning f fd) (hm : mg "is_turning" = some (.ref f)) (hb : Binds K fd ["value"] []) : Fn P w K mg base 3 "is_turning" p_is_turning := by
  refine fn_mk F sc_is_turning hm hb (λ ds d h => ?_) (λ cdv A outer s H E hr ds d h => ?_)
  · obtain ⟨p,q,r,s,rfl,_,rfl⟩ := h
    exact ⟨rfl,by simp⟩
  · obtain ⟨p,q,r,s',rfl,ht,rfl⟩ := h
    refine do_ifF (et_notT (et_val (ev_call G1 hr (ea_cons (ev_v 0) (ea_cons ev_int ea_nil)) ⟨[p,q,r,s'],rfl,by simp,rfl⟩))) ?_
    exact do_ret (Ev.tt (ev_eq (ev_sub (ev_mul (ev_ix (ev_v 0) ev_int rfl) (ev_ix (ev_v 0) ev_int rfl) ht.sp ht.ss) (ev_mul (ev_ix (ev_v 0) ev_int rfl) (ev_ix (ev_v 0) ev_int rfl) ht.sq ht.sr)) ev_int) ht.det) rfl
theorem ok_require_turning {f : Addr} {fd : FuncData} (G1 : Fn P w K mg base 3 "is_turning" p_is_turning) (F : Fun K "require_turning" "require_turning" s_require_turning f fd) (hm : mg "require_turning" = some (.ref f)) (hb : Binds K fd ["value"] []) : Fn P w K mg base 4 "require_turning" p_require_turning := by
  refine fn_mk F sc_require_turning hm hb (λ ds d h => ?_) (λ cdv A outer s H E hr ds d h => ?_)
  · obtain ⟨p,q,r,s,rfl,_,rfl⟩ := h
    exact ⟨rfl,by simp⟩
  · obtain ⟨p,q,r,s',rfl,ht,rfl⟩ := h
    exact do_ifF (et_notT (et_val (ev_call G1 hr (ea_cons (ev_v 0) ea_nil) ⟨p,q,r,s',rfl,ht,rfl⟩))) (do_nil rfl)
theorem ok_sent {f : Addr} {fd : FuncData} (F : Fun K "sent" "sent" s_sent f fd) (hm : mg "sent" = some (.ref f)) (hb : Binds K fd ["turning", "place"] []) : Fn P w K mg base 1 "sent" p_law_sent := by
  refine fn_mk F sc_sent hm hb (λ ds d h => ?_) (λ cdv A outer s H E hr ds d h => ?_)
  · obtain ⟨p,q,r,s,x,y,rfl,_,_,_,_,_,_,rfl⟩ := h
    exact ⟨rfl,by simp⟩
  · obtain ⟨p,q,r,s',x,y,rfl,hp,hq,hr',hs,hx,hy,rfl⟩ := h
    have nd := sc_sent.nd
    refine do_set 2 (ev_ix (ev_v 1) ev_int rfl) (.int _) ?_ nd
    refine do_set 3 (ev_ix (ev_v 1) ev_int rfl) (.int _) ?_ nd
    exact do_ret (ev_tup (ea_cons (ev_add (ev_mul (ev_ix (ev_v 0) ev_int rfl) (ev_v 2) hp hx) (ev_mul (ev_ix (ev_v 0) ev_int rfl) (ev_v 3) hq hy)) (ea_cons (ev_add (ev_mul (ev_ix (ev_v 0) ev_int rfl) (ev_v 2) hr' hx) (ev_mul (ev_ix (ev_v 0) ev_int rfl) (ev_v 3) hs hy)) ea_nil))) rfl
theorem ok_way_back {f : Addr} {fd : FuncData} (G1 : Fn P w K mg base 4 "require_turning" p_require_turning) (F : Fun K "way_back" "way_back" s_way_back f fd) (hm : mg "way_back" = some (.ref f)) (hb : Binds K fd ["turning"] []) : Fn P w K mg base 5 "way_back" p_way_back := by
  refine fn_mk F sc_way_back hm hb (λ ds d h => ?_) (λ cdv A outer s H E hr ds d h => ?_)
  · obtain ⟨p,q,r,s,rfl,_,rfl⟩ := h
    exact ⟨rfl,by simp⟩
  · obtain ⟨p,q,r,s',rfl,h1,rfl⟩ := h
    refine do_expr (ev_call G1 hr (ea_cons (ev_v 0) ea_nil) ⟨p,q,r,s',rfl,h1,rfl⟩) ?_
    exact do_ret (ev_tup (ea_cons (ev_ix (ev_v 0) ev_int rfl) (ea_cons (ev_neg (ev_ix (ev_v 0) ev_int rfl)) (ea_cons (ev_neg (ev_ix (ev_v 0) ev_int rfl)) (ea_cons (ev_ix (ev_v 0) ev_int rfl) ea_nil))))) rfl
theorem ok_is_least {f : Addr} {fd : FuncData} (G1 : Fn P w K mg base 4 "require_form" p_require_form) (F : Fun K "is_least" "is_least" s_is_least f fd) (hm : mg "is_least" = some (.ref f)) (hb : Binds K fd ["form"] []) : Fn P w K mg base 5 "is_least" p_is_least := by
  refine fn_mk F sc_is_least hm hb (λ ds d h => ?_) (λ cdv A outer s H E hr ds d h => ?_)
  · obtain ⟨a,b,c,rfl,_,rfl⟩ := h
    exact ⟨rfl,by simp⟩
  · obtain ⟨a,b,c,rfl,hf,rfl⟩ := h
    have nd := sc_is_least.nd
    refine do_expr (ev_call G1 hr (ea_cons (ev_v 0) ea_nil) ⟨a,b,c,rfl,hf,rfl⟩) ?_
    refine do_set 1 (ev_ix (ev_v 0) ev_int rfl) (.int _) ?_ nd
    refine do_set 2 (ev_ix (ev_v 0) ev_int rfl) (.int _) ?_ nd
    refine do_set 3 (ev_ix (ev_v 0) ev_int rfl) (.int _) ?_ nd
    refine do_ret (ev_and (ev_chain3 op_lt op_le op_le (ev_neg (ev_v 1)) (ev_v 2) (ev_v 1) (ev_v 3)) λ _ => (ev_one (ev_or (ev_ge (ev_v 2) ev_int) λ _ => (ev_one (ev_lt (ev_v 1) (ev_v 3)))))) ?_
    show D.bl _ = D.bl _
    congr 1
    rw [Bool.eq_iff_iff,MT.leastB_iff]
    simp only [Bool.or_eq_true,Bool.and_eq_true,decide_eq_true_eq]
    constructor
    · rintro ⟨⟨h1,h2,h3⟩,h4⟩
      exact ⟨h1,h2,h3,λ z => by omega⟩
    · intro L
      have h1 := L.lo
      have h2 := L.hi
      have h3 := L.ac
      have h4 := L.eq
      omega
theorem ok_stepped {f : Addr} {fd : FuncData} (F : Fun K "stepped" "stepped" s_stepped f fd) (hm : mg "stepped" = some (.ref f)) (hb : Binds K fd ["form", "step"] []) : Fn P w K mg base 1 "stepped" p_stepped := by
  refine fn_mk F sc_stepped hm hb (λ ds d h => ?_) (λ cdv A outer s H E hr ds d h => ?_)
  · obtain ⟨a,b,c,k,rfl,_,_,_,rfl⟩ := h
    exact ⟨rfl,by simp⟩
  · obtain ⟨a,b,c,k,rfl,ha,hb,hk,rfl⟩ := h
    have nd := sc_stepped.nd
    refine do_set 2 (ev_ix (ev_v 0) ev_int rfl) (.int _) ?_ nd
    refine do_set 3 (ev_ix (ev_v 0) ev_int rfl) (.int _) ?_ nd
    exact do_ret (ev_tup (ea_cons (ev_v 2) (ea_cons (ev_add (ev_v 3) (ev_mul (ev_mul ev_int (ev_v 2) inferInstance inferInstance) (ev_v 1) inferInstance inferInstance)) (ea_cons (ev_add (ev_ix (ev_v 0) ev_int rfl) (ev_mul (ev_v 1) (ev_add (ev_v 3) (ev_mul (ev_v 2) (ev_v 1) inferInstance inferInstance)) inferInstance inferInstance)) ea_nil)))) rfl
theorem ok_behind_step {f : Addr} {fd : FuncData} (F : Fun K "behind_step" "behind_step" s_behind_step f fd) (hm : mg "behind_step" = some (.ref f)) (hb : Binds K fd ["turning", "step"] []) : Fn P w K mg base 1 "behind_step" p_behind_step := by
  refine fn_mk F sc_behind_step hm hb (λ ds d h => ?_) (λ cdv A outer s H E hr ds d h => ?_)
  · obtain ⟨p,q,r,s,k,rfl,_,_,_,rfl⟩ := h
    exact ⟨rfl,by simp⟩
  · obtain ⟨p,q,r,s',k,rfl,hp,hr',hk,rfl⟩ := h
    have nd := sc_behind_step.nd
    refine do_set 2 (ev_ixK (ev_v 0) ev_int rfl) (.int _) ?_ nd
    refine do_set 3 (ev_ixK (ev_v 0) ev_int rfl) (.int _) ?_ nd
    exact do_ret (ev_tup (ea_cons (ev_v 2) (ea_cons (ev_add (ev_ixK (ev_v 0) ev_int rfl) (ev_mul (ev_v 2) (ev_v 1) inferInstance inferInstance)) (ea_cons (ev_v 3) (ea_cons (ev_add (ev_ixK (ev_v 0) ev_int rfl) (ev_mul (ev_v 3) (ev_v 1) inferInstance inferInstance)) ea_nil))))) rfl
theorem ok_swapped {f : Addr} {fd : FuncData} (F : Fun K "swapped" "swapped" s_swapped f fd) (hm : mg "swapped" = some (.ref f)) (hb : Binds K fd ["form"] []) : Fn P w K mg base 1 "swapped" p_swapped := by
  refine fn_mk F sc_swapped hm hb (λ ds d h => ?_) (λ cdv A outer s H E hr ds d h => ?_)
  · obtain ⟨a,b,c,rfl,rfl⟩ := h
    exact ⟨rfl,by simp⟩
  · obtain ⟨a,b,c,rfl,rfl⟩ := h
    exact do_ret (ev_tup (ea_cons (ev_ix (ev_v 0) ev_int rfl) (ea_cons (ev_neg (ev_ix (ev_v 0) ev_int rfl)) (ea_cons (ev_ix (ev_v 0) ev_int rfl) ea_nil)))) rfl
theorem ok_behind_swap {f : Addr} {fd : FuncData} (F : Fun K "behind_swap" "behind_swap" s_behind_swap f fd) (hm : mg "behind_swap" = some (.ref f)) (hb : Binds K fd ["turning"] []) : Fn P w K mg base 1 "behind_swap" p_behind_swap := by
  refine fn_mk F sc_behind_swap hm hb (λ ds d h => ?_) (λ cdv A outer s H E hr ds d h => ?_)
  · obtain ⟨p,q,r,s,rfl,rfl⟩ := h
    exact ⟨rfl,by simp⟩
  · obtain ⟨p,q,r,s',rfl,rfl⟩ := h
    exact do_ret (ev_tup (ea_cons (ev_ix (ev_v 0) ev_int rfl) (ea_cons (ev_neg (ev_ix (ev_v 0) ev_int rfl)) (ea_cons (ev_ix (ev_v 0) ev_int rfl) (ea_cons (ev_neg (ev_ix (ev_v 0) ev_int rfl)) ea_nil))))) rfl
theorem ok_step_to_middle {f : Addr} {fd : FuncData} (F : Fun K "step_to_middle" "step_to_middle" s_step_to_middle f fd) (hm : mg "step_to_middle" = some (.ref f)) (hb : Binds K fd ["form"] []) : Fn P w K mg base 1 "step_to_middle" p_step_to_middle := by
  refine fn_mk F sc_step_to_middle hm hb (λ ds d h => ?_) (λ cdv A outer s H E hr ds d h => ?_)
  · obtain ⟨a,b,c,rfl,_,_,rfl⟩ := h
    exact ⟨rfl,by simp⟩
  · obtain ⟨a,b,c,rfl,pos,ha,rfl⟩ := h
    exact do_ret (ev_div (ev_sub (ev_ix (ev_v 0) ev_int rfl) (ev_ix (ev_v 0) ev_int rfl)) (ev_mul ev_int (ev_ix (ev_v 0) ev_int rfl) inferInstance inferInstance) (by omega) inferInstance) rfl
theorem ok_least_of {f : Addr} {fd : FuncData} (G1 : Fn P w K mg base 4 "require_form" p_require_form) (G2 : Fn P w K mg base 1 "step_to_middle" p_step_to_middle) (G3 : Fn P w K mg base 1 "stepped" p_stepped) (G4 : Fn P w K mg base 1 "behind_step" p_behind_step) (G5 : Fn P w K mg base 1 "swapped" p_swapped) (G6 : Fn P w K mg base 1 "behind_swap" p_behind_swap)
    (C1 : Con K mg "NO_TURN" (.kt [.int 1,.int 0,.int 0,.int 1])) (F : Fun K "least_of" "least_of" s_least_of f fd) (hm : mg "least_of" = some (.ref f)) (hb : Binds K fd ["form"] []) : FnR P w K mg base 5 "least_of" pre_form post_least_of := by
  refine fnr_mk F sc_least_of hm hb (λ ds h => ?_) (λ cdv A outer s H E hr ds h => ?_)
  · obtain ⟨a,b,c,rfl,_⟩ := h
    exact ⟨rfl,by simp⟩
  · obtain ⟨a,b,c,rfl,fS⟩ := h
    have nd := sc_least_of.nd
    have hr1 := hr.mono (show 1 ≤ 4 by decide)
    refine do_expr (ev_call G1 hr (ea_cons (ev_v 0) ea_nil) ⟨a,b,c,rfl,fS.n,rfl⟩) ?_
    have L0 : Leads a b c 1 0 0 1 a b c := by
      refine ⟨by omega,?_,?_,?_⟩ <;> (try unfold MT.Wo) <;> grind
    refine do_set 1 (ev_call G2 hr1 (ea_cons (ev_v 0) ea_nil) ⟨a,b,c,rfl,fS.pos,fS.sa.up _ (by decide),rfl⟩) (.int _) ?_ nd
    obtain ⟨lo,hi,f1,kb⟩ := shift_S fS
    have L1 := L0.stepK ((a - b) / (2 * a))
    generalize (a - b) / (2 * a) = k0 at *
    refine do_set 2 (ev_call G3 hr1 (ea_cons (ev_v 0) (ea_cons (ev_v 1) ea_nil)) ⟨a,b,c,k0,rfl,fS.n.sa,fS.n.sb,kb.up _ (by decide),rfl⟩) (fz3 _ _ _) ?_ nd
    refine do_set 3 (ev_call G4 hr1 (ea_cons (ev_con C1) (ea_cons (ev_v 1) ea_nil)) ⟨1,0,0,1,k0,rfl,.lit,.lit,kb.up _ (by decide),rfl⟩) (fz_ints [_,_,_,_]) ?_ nd
    refine do_while (λ ρ => ∃ x y z p q r s' u,ρ = [some (formD a b c),u,some (formD x y z),some (turD p q r s')] ∧ FormS x y z ∧ Leads a b c p q r s' x y z ∧ -x < y ∧ y ≤ x)
      (λ ρ => ∃ x y z p q r s' u,ρ = [some (formD a b c),u,some (formD x y z),some (turD p q r s')] ∧ FormS x y z ∧ Leads a b c p q r s' x y z ∧ MT.Least x y z)
      (λ ρ => meas2 ρ 2) PassesOwn.never ⟨_,_,_,_,_,_,_,_,rfl,f1,L1,lo,hi⟩ ?_ ?_
    · rintro ρ ⟨x,y,z,p,q,r,s',u,rfl,g,ld,hlo,hhi⟩
      refine ⟨_,et_w (ew_or (et_gt (ev_ix (ev_v 2) ev_int rfl) (ev_ix (ev_v 2) ev_int rfl)) λ _ => ew_or1 (et_w (ew_and (et_eq (ev_ix (ev_v 2) ev_int rfl) (ev_ix (ev_v 2) ev_int rfl)) λ _ => ew_and1 (et_lt (ev_ix (ev_v 2) ev_int rfl) ev_int)))),λ hk => ?_,λ hk => ?_⟩
      · simp only [Bool.or_eq_true,Bool.and_eq_true,decide_eq_true_eq] at hk
        obtain ⟨_,g1⟩ := swap_ok g g.zpos
        have L2 := ld.swapK
        have tN := ld.turn fS g
        have tN2 := L2.turn fS g1
        refine do_set 2 (ev_call G5 hr1 (ea_cons (ev_v 2) ea_nil) ⟨x,y,z,rfl,rfl⟩) (fz3 _ _ _) ?_ nd
        refine do_set 3 (ev_call G6 hr1 (ea_cons (ev_v 3) ea_nil) ⟨p,q,r,s',rfl,rfl⟩) (fz_ints [_,_,_,_]) ?_ nd
        refine do_set 1 (ev_call G2 hr1 (ea_cons (ev_v 2) ea_nil) ⟨z,-y,x,rfl,g1.pos,g1.sa.up _ (by decide),rfl⟩) (.int _) ?_ nd
        obtain ⟨lo',hi',g2,kb'⟩ := shift_S g1
        have L3 := L2.stepK ((z - -y) / (2 * z))
        have hm : meas2At z (-y + 2 * z * ((z - -y) / (2 * z))) < meas2At x y := meas2_lt g.zpos hlo hk
        generalize (z - -y) / (2 * z) = k at *
        refine do_set 2 (ev_call G3 hr1 (ea_cons (ev_v 2) (ea_cons (ev_v 1) ea_nil)) ⟨z,-y,x,k,rfl,g1.n.sa,g1.n.sb,kb'.up _ (by decide),rfl⟩) (fz3 _ _ _) ?_ nd
        refine do_set 3 (ev_call G4 hr1 (ea_cons (ev_ktOf (ev_v 3)) (ea_cons (ev_v 1) ea_nil)) ⟨q,-p,s',-r,k,rfl,tN2.sp.up _ (by decide),tN2.sr.up _ (by decide),kb'.up _ (by decide),rfl⟩) (fz_ints [_,_,_,_]) (do_nil ⟨⟨_,_,_,_,_,_,_,_,rfl,g2,L3,lo',hi'⟩,hm⟩) nd
      · simp only [Bool.or_eq_false_iff,Bool.and_eq_false_iff,decide_eq_false_iff_not] at hk
        exact ⟨x,y,z,p,q,r,s',u,rfl,g,ld,hlo,hhi,by omega,λ e => by omega⟩
    · rintro ρ ⟨x,y,z,p,q,r,s',u,rfl,g,ld,L⟩
      refine do_ret (ev_tup (ea_cons (ev_v 2) (ea_cons (ev_v 3) ea_nil))) ?_
      intro a2 b2 c2 e
      cases e
      exact ⟨x,y,z,p,q,r,s',rfl,L,g,ld.turn fS g,ld⟩
theorem ok_require_bare {f : Addr} {fd : FuncData} (G1 : Fn P w K mg base 5 "is_bare" p_is_bare) (F : Fun K "require_bare" "require_bare" s_require_bare f fd) (hm : mg "require_bare" = some (.ref f)) (hb : Binds K fd ["form"] []) : Fn P w K mg base 6 "require_bare" p_require_bare := by
  refine fn_mk F sc_require_bare hm hb (λ ds d h => ?_) (λ cdv A outer s H E hr ds d h => ?_)
  · obtain ⟨a,b,c,rfl,_⟩ := h
    exact ⟨rfl,by simp⟩
  · obtain ⟨a,b,c,rfl,f1,hg,rfl⟩ := h
    exact do_ifF (et_notT (et_val (Ev.to (ev_call G1 hr (ea_cons (ev_v 0) ea_nil) ⟨a,b,c,rfl,f1,rfl⟩) (by rw [hg]; rfl)))) (do_nil rfl)
theorem ok_require_same_bar {f : Addr} {fd : FuncData} (G1 : Fn P w K mg base 5 "bar_of" p_bar_of) (F : Fun K "require_same_bar" "require_same_bar" s_require_same_bar f fd) (hm : mg "require_same_bar" = some (.ref f)) (hb : Binds K fd ["one", "other"] []) : Fn P w K mg base 6 "require_same_bar" p_require_same_bar := by
  refine fn_mk F sc_require_same_bar hm hb (λ ds d h => ?_) (λ cdv A outer s H E hr ds d h => ?_)
  · obtain ⟨a,b,c,x,y,z,rfl,_⟩ := h
    exact ⟨rfl,by simp⟩
  · obtain ⟨a,b,c,x,y,z,rfl,f1,f2,hD,rfl⟩ := h
    exact do_ifF (Et.ff (et_ne (ev_call G1 hr (ea_cons (ev_v 0) ea_nil) ⟨a,b,c,rfl,f1,rfl⟩) (ev_call G1 hr (ea_cons (ev_v 1) ea_nil) ⟨x,y,z,rfl,f2,rfl⟩)) hD) (do_nil rfl)
theorem ok_joint_divisor {f : Addr} {fd : FuncData} (G1 : FnR P w K mg base 1 "divisor_with_shares" pre_dws post_dws) (F : Fun K "joint_divisor" "joint_divisor" s_joint_divisor f fd) (hm : mg "joint_divisor" = some (.ref f)) (hb : Binds K fd ["one", "other"] []) : FnR P w K mg base 2 "joint_divisor" pre_joined post_joint_divisor := by
  refine fnr_mk F sc_joint_divisor hm hb (λ ds h => ?_) (λ cdv A outer s H E hr ds h => ?_)
  · obtain ⟨a,b,c,d,e,f,rfl,_⟩ := h
    exact ⟨rfl,by simp⟩
  · obtain ⟨a,b,c,d,e,f,rfl,fJ,gJ,hD⟩ := h
    have nd := sc_joint_divisor.nd
    refine do_setR 2 (evr_call G1 hr (ea_cons (ev_ix (ev_v 0) ev_int rfl) (ea_cons (ev_ix (ev_v 1) ev_int rfl) ea_nil)) ⟨a,d,rfl,fJ.sa.up _ (by decide),gJ.sa.up _ (by decide)⟩) (λ d hd => fz_dws rfl hd) (λ r hr' => ?_) nd
    obtain ⟨g1,u1,v1,rfl,eg1,l1,bu1,bv1⟩ := hr' a d rfl
    have pa := fJ.pos
    have d1 : g1 ∣ a := by rw [eg1]; exact Int.gcd_dvd_left a d
    have d2 : g1 ∣ d := by rw [eg1]; exact Int.gcd_dvd_right a d
    have p1 : 0 < g1 := by
      have := Int.gcd_pos_of_ne_zero_left d (show a ≠ 0 by omega)
      omega
    have bg1 : Bd g1 1450 := fJ.sa.le (by have := Int.le_of_dvd pa d1; omega)
    have bh : Bd ((b + e) / 2) 1451 := (Bd.add fJ.sb gJ.sb 1451 (by decide)).div (by decide)
    refine do_setR 3 (evr_call G1 hr (ea_cons (ev_ix (ev_v 2) ev_int rfl) (ea_cons (ev_div (ev_add (ev_ix (ev_v 0) ev_int rfl) (ev_ix (ev_v 1) ev_int rfl)) ev_int (by decide) bd_2) ea_nil)) ⟨g1,(b + e) / 2,rfl,bg1.up _ (by decide),bh.up _ (by decide)⟩) (λ d hd => fz_dws rfl hd) (λ r hr' => ?_) nd
    obtain ⟨g2,u2,w2,rfl,eg2,l2,bu2,bw2⟩ := hr' g1 ((b + e) / 2) rfl
    have d3 : g2 ∣ g1 := by rw [eg2]; exact Int.gcd_dvd_left _ _
    have d4 : g2 ∣ (b + e) / 2 := by rw [eg2]; exact Int.gcd_dvd_right _ _
    have p2 : 0 < g2 := by
      have := Int.gcd_pos_of_ne_zero_left ((b + e) / 2) (show g1 ≠ 0 by omega)
      omega
    refine do_ret (ev_tup (ea_cons (ev_ix (ev_v 3) ev_int rfl) (ea_cons (ev_mul (ev_ix (ev_v 3) ev_int rfl) (ev_ix (ev_v 2) ev_int rfl) bu2 bu1) (ea_cons (ev_mul (ev_ix (ev_v 3) ev_int rfl) (ev_ix (ev_v 2) ev_int rfl) bu2 bv1) (ea_cons (ev_ix (ev_v 3) ev_int rfl) ea_nil))))) ?_
    intro a0 b0 c0 d0 e0 f0 q
    cases q
    refine ⟨g2,u2 * u1,u2 * v1,w2,rfl,p2,Int.dvd_trans d3 d1,Int.dvd_trans d3 d2,d4,?_,bg1.le (by have := Int.le_of_dvd p1 d3; omega),Bd.mul bu2 bu1 _ (by decide),Bd.mul bu2 bv1 _ (by decide),bw2⟩
    generalize (b + e) / 2 = h at *
    rw [l2,l1]
    grind
theorem ok_joint_middle {f : Addr} {fd : FuncData} (G1 : Fn P w K mg base 5 "bar_of" p_bar_of) (F : Fun K "joint_middle" "joint_middle" s_joint_middle f fd) (hm : mg "joint_middle" = some (.ref f)) (hb : Binds K fd ["one", "other", "shares"] []) : Fn P w K mg base 6 "joint_middle" p_joint_middle := by
  refine fn_mk F sc_joint_middle hm hb (λ ds r h => ?_) (λ cdv A outer s H E hr ds r h => ?_)
  · obtain ⟨a,b,c,d,e,f,g,u,v,w',rfl,_⟩ := h
    exact ⟨rfl,by simp⟩
  · obtain ⟨a,b,c,d,e,f,g,u,v,w',rfl,fJ,gJ,hg,bg,bu,bv,bw,rfl⟩ := h
    have nd := sc_joint_middle.nd
    have sa := fJ.sa
    have sb := fJ.sb
    have sd := fJ.sd
    have ta := gJ.sa
    have tb := gJ.sb
    refine do_set 3 (ev_div (ev_add (ev_mul (ev_ix (ev_v 0) ev_int rfl) (ev_ix (ev_v 1) ev_int rfl) sb tb) (ev_call G1 hr (ea_cons (ev_v 0) ea_nil) ⟨a,b,c,rfl,fJ.n,rfl⟩)) ev_int (by decide) bd_2) (.int _) ?_ nd
    have bhalf : Bd ((b * e + (b * b - 4 * a * c)) / 2) 2901 := (Bd.add (Bd.mul sb tb 2900 (by decide)) sd 2901 (by decide)).div (by decide)
    refine do_set 4 (ev_add (ev_add (ev_mul (ev_mul (ev_ix (ev_v 2) ev_int rfl) (ev_ix (ev_v 0) ev_int rfl) bu sa) (ev_ix (ev_v 1) ev_int rfl) (Bd.mul bu sa 4372 (by decide)) tb) (ev_mul (ev_mul (ev_ix (ev_v 2) ev_int rfl) (ev_ix (ev_v 1) ev_int rfl) bv ta) (ev_ix (ev_v 0) ev_int rfl) (Bd.mul bv ta 5836 (by decide)) sb)) (ev_mul (ev_ix (ev_v 2) ev_int rfl) (ev_v 3) bw bhalf)) (.int _) ?_ nd
    exact do_ret (ev_div (ev_v 4) (ev_ix (ev_v 2) ev_int rfl) hg bg) rfl
set_option maxHeartbeats 4000000 in
theorem ok_joint_rows {f : Addr} {fd : FuncData} (G1 : Fn P w K mg base 5 "bar_of" p_bar_of) (F : Fun K "joint_rows" "joint_rows" s_joint_rows f fd) (hm : mg "joint_rows" = some (.ref f)) (hb : Binds K fd ["one", "other", "divisor", "middle"] []) : FnL P w K mg base 6 "joint_rows" p_joint_rows := by
  refine fnl_mk F sc_joint_rows hm hb (λ ds es h => ?_) (λ cdv A outer s H E hr ds es h => ?_)
  · obtain ⟨a,b,c,d,e,f,g,m,rfl,_⟩ := h
    exact ⟨rfl,by simp⟩
  · obtain ⟨a,b,c,d,e,f,g,m,rfl,fJ,gJ,hg,bg,bm,rfl⟩ := h
    have nd := sc_joint_rows.nd
    have sa := fJ.sa
    have sb := fJ.sb
    have sd := fJ.sd
    have ta := gJ.sa
    have tb := gJ.sb
    have pa := fJ.pos
    have pd := gJ.pos
    have pad : 0 < 4 * a * d := Int.mul_pos (by omega) pd
    refine do_set 4 (ev_ix (ev_v 0) ev_int rfl) (.int _) ?_ nd
    refine do_set 5 (ev_ix (ev_v 0) ev_int rfl) (.int _) ?_ nd
    refine do_set 6 (ev_ix (ev_v 1) ev_int rfl) (.int _) ?_ nd
    refine do_set 7 (ev_ix (ev_v 1) ev_int rfl) (.int _) ?_ nd
    have bbe : Bd (b + e) 1451 := Bd.add sb tb _ (by decide)
    refine do_set 8 (ev_sub (ev_add (ev_mul (ev_v 5) (ev_v 7) sb tb) (ev_call G1 hr (ea_cons (ev_v 0) ea_nil) ⟨a,b,c,rfl,fJ.n,rfl⟩)) (ev_mul (ev_v 3) (ev_add (ev_v 5) (ev_v 7)) bm bbe)) (.int _) ?_ nd
    have blast : Bd (b * e + (b * b - 4 * a * c) - m * (b + e)) 4353 := Bd.sub (Bd.add (Bd.mul sb tb 2900 (by decide)) sd 2901 (by decide)) (Bd.mul bm bbe 4352 (by decide)) _ (by decide)
    exact do_retL (evn_list (ea_cons (ev_tup (ea_cons (ev_v 2) (ea_cons ev_int ea_nil)))
      (ea_cons (ev_tup (ea_cons (ev_div (ev_mul (ev_v 2) (ev_sub (ev_v 7) (ev_v 3)) bg (Bd.sub tb bm 2902 (by decide))) (ev_mul ev_int (ev_v 6) bd_2 ta) (by omega) (Bd.mul bd_2 ta 1460 (by decide))) (ea_cons (ev_div (ev_v 4) (ev_v 2) hg bg) ea_nil)))
      (ea_cons (ev_tup (ea_cons (ev_div (ev_mul (ev_v 2) (ev_sub (ev_v 5) (ev_v 3)) bg (Bd.sub sb bm 2902 (by decide))) (ev_mul ev_int (ev_v 4) bd_2 sa) (by omega) (Bd.mul bd_2 sa 1460 (by decide))) (ea_cons (ev_div (ev_v 6) (ev_v 2) hg bg) ea_nil)))
      (ea_cons (ev_tup (ea_cons (ev_div (ev_mul (ev_v 2) (ev_v 8) bg blast) (ev_mul (ev_mul ev_int (ev_v 4) bd_4 sa) (ev_v 6) (Bd.mul bd_4 sa 1460 (by decide)) ta) pad (Bd.mul (Bd.mul bd_4 sa 1460 (by decide)) ta 2910 (by decide))) (ea_cons (ev_div (ev_add (ev_v 5) (ev_v 7)) (ev_mul ev_int (ev_v 2) bd_2 bg) (by omega) (Bd.mul bd_2 bg 1460 (by decide))) ea_nil))) ea_nil))))) λ l => ⟨l,rfl⟩
set_option maxHeartbeats 8000000 in
theorem ok_joined_whole {f : Addr} {fd : FuncData} (T : Tx mg) (Gb : Fn P w K mg base 5 "bar_of" p_bar_of) (Gd : FnR P w K mg base 2 "joint_divisor" pre_joined post_joint_divisor) (Gm : Fn P w K mg base 6 "joint_middle" p_joint_middle) (Gr : FnL P w K mg base 6 "joint_rows" p_joint_rows)
    (Gl : FnR P w K mg base 5 "least_of" pre_form post_least_of) (Gw : Fn P w K mg base 5 "way_back" p_way_back) (Gs : Fn P w K mg base 1 "sent" p_law_sent) (F : Fun K "joined_whole" "joined_whole" s_joined_whole f fd) (hm : mg "joined_whole" = some (.ref f)) (hb : Binds K fd ["one", "other"] []) : FnR P w K mg base 7 "joined_whole" pre_joined post_joined := by
  refine fnr_mk F sc_joined_whole hm hb (λ ds h => ?_) (λ cdv A outer s H E hr ds h => ?_)
  · obtain ⟨a,b,c,d,e,f,rfl,_⟩ := h
    exact ⟨rfl,by simp⟩
  · obtain ⟨a,b,c,d,e,f,rfl,fJ,gJ,hD⟩ := h
    have nd := sc_joined_whole.nd
    have hr5 := hr.mono (show 5 ≤ 6 by decide)
    have hr2 := hr.mono (show 2 ≤ 6 by decide)
    have hr1 := hr.mono (show 1 ≤ 6 by decide)
    refine do_set 2 (ev_call Gb hr5 (ea_cons (ev_v 0) ea_nil) ⟨a,b,c,rfl,fJ.n,rfl⟩) (.int _) ?_ nd
    refine do_setR 3 (evr_call Gd hr2 (ea_cons (ev_v 0) (ea_cons (ev_v 1) ea_nil)) ⟨a,b,c,d,e,f,rfl,fJ,gJ,hD⟩) (λ r hr' => fz_jd rfl hr') (λ r hr' => ?_) nd
    obtain ⟨g,u,v,w',rfl,hg,ga,gd,gh,hs,bg,bu,bv,bw⟩ := hr' a b c d e f rfl
    have sag : Bd (a / g) 1450 := fJ.sa.div hg
    have sdg : Bd (d / g) 1450 := gJ.sa.div hg
    have sfi : Bd (a / g * (d / g)) 2900 := Bd.mul sag sdg _ (by decide)
    refine do_set 4 (ev_ix (ev_v 3) ev_int rfl) (.int _) ?_ nd
    refine do_set 5 (ev_mul (ev_div (ev_ix (ev_v 0) ev_int rfl) (ev_v 4) hg bg) (ev_div (ev_ix (ev_v 1) ev_int rfl) (ev_v 4) hg bg) sag sdg) (.int _) ?_ nd
    obtain ⟨f0,m0,m1,hbar,cm⟩ := MJ.joint fJ.pos gJ.pos hD hg ga gd gh hs _ _ _ rfl rfl rfl
    refine do_set 6 (ev_mod (ev_call Gm hr (ea_cons (ev_v 0) (ea_cons (ev_v 1) (ea_cons (ev_v 3) ea_nil))) ⟨a,b,c,d,e,f,g,u,v,w',rfl,fJ,gJ,hg,bg,bu,bv,bw,rfl⟩) (ev_mul ev_int (ev_v 5) bd_2 sfi) (by omega)) (.int _) ?_ nd
    generalize hfi : a / g * (d / g) = first at *
    generalize hmi : (u * a * e + v * d * b + w' * ((b * e + (b * b - 4 * a * c)) / 2)) / g % (2 * first) = m at *
    have sm : Bd m 2901 := by
      refine .of_lt ?_
      have h1 := intBits_le_iff.mp sfi.lt
      have e : 2 ^ 2901 = 2 ^ 2900 * 2 := Nat.pow_succ _ _
      rw [e]
      generalize 2 ^ 2900 = N at *
      omega
    have fS : FormS first m ((m * m - (b * b - 4 * a * c)) / (4 * first)) := joint_S f0 m0 m1 hbar fJ.bar sfi fJ.sd
    refine do_setR 7 (evr_call Gl hr5 (ea_cons (ev_tup (ea_cons (ev_v 5) (ea_cons (ev_v 6) (ea_cons (ev_div (ev_sub (ev_mul (ev_v 6) (ev_v 6) sm sm) (ev_v 2)) (ev_mul ev_int (ev_v 5) bd_4 sfi) (by omega) (Bd.mul bd_4 sfi 2903 (by decide))) ea_nil)))) ea_nil) ⟨first,m,_,rfl,fS⟩) (λ d hd => fz_post rfl hd) (λ r hr' => ?_) nd
    generalize (m * m - (b * b - 4 * a * c)) / (4 * first) = C at *
    obtain ⟨a',b',c',p,q,r,s',rfl,L,fS',tN,ld⟩ := hr' _ _ _ rfl
    refine do_set 8 (ev_call Gw hr5 (ea_cons (ev_ix (ev_v 7) ev_int rfl) ea_nil) ⟨p,q,r,s',rfl,tN,rfl⟩) (fz_ints [_,_,_,_]) ?_ nd
    have tB := tN.back
    have up : ∀ {z : Int},Bd z 7000 → Bd z 8000 := λ h => h.up _ (by decide)
    have b1 : Bd (g * (e - m) / (2 * d)) 5900 := ((Bd.mul bg (Bd.sub gJ.sb sm 2902 (by decide)) 4352 (by decide)).div (by have := gJ.pos; omega)).up _ (by decide)
    have b2 : Bd (g * (b - m) / (2 * a)) 5900 := ((Bd.mul bg (Bd.sub fJ.sb sm 2902 (by decide)) 4352 (by decide)).div (by have := fJ.pos; omega)).up _ (by decide)
    have bbe : Bd (b + e) 1451 := Bd.add fJ.sb gJ.sb _ (by decide)
    have b3 : Bd (g * (b * e + (b * b - 4 * a * c) - m * (b + e)) / (4 * a * d)) 5900 :=
      ((Bd.mul bg (Bd.sub (Bd.add (Bd.mul fJ.sb gJ.sb 2900 (by decide)) fJ.sd 2901 (by decide)) (Bd.mul sm bbe 4352 (by decide)) 4353 (by decide)) 5803 (by decide)).div (by have := fJ.pos; exact Int.mul_pos (by omega) gJ.pos)).up _ (by decide)
    have b4 : Bd ((b + e) / (2 * g)) 5900 := (bbe.div (by omega)).up _ (by decide)
    have b0 : Bd g 5900 := bg.up _ (by decide)
    have ba : Bd (a / g) 5900 := sag.up _ (by decide)
    have bd : Bd (d / g) 5900 := sdg.up _ (by decide)
    have bz : Bd 0 5900 := .lit
    have row : ∀ x y : Int,Bd x 5900 → Bd y 5900 → Bd (s' * x + -q * y) 13000 ∧ Bd (-r * x + p * y) 13000 := λ x y hx hy =>
      ⟨Bd.add (Bd.mul tB.sp hx 12900 (by decide)) (Bd.mul tB.sq hy 12900 (by decide)) _ (by decide),Bd.add (Bd.mul tB.sr hx 12900 (by decide)) (Bd.mul tB.ss hy 12900 (by decide)) _ (by decide)⟩
    generalize h1 : g * (e - m) / (2 * d) = X1 at *
    generalize h2 : g * (b - m) / (2 * a) = X2 at *
    generalize h3 : g * (b * e + (b * b - 4 * a * c) - m * (b + e)) / (4 * a * d) = X3 at *
    generalize h4 : (b + e) / (2 * g) = Y3 at *
    generalize h5 : a / g = Y1 at *
    generalize h6 : d / g = Y2 at *
    have mem : ∀ z ∈ [plD g 0,plD X1 Y1,plD X2 Y2,plD X3 Y3],∃ x y : Int,z = plD x y ∧ Bd x 5900 ∧ Bd y 5900 := by
      intro z hz
      simp only [List.mem_cons,List.not_mem_nil,or_false] at hz
      rcases hz with rfl | rfl | rfl | rfl
      · exact ⟨_,_,rfl,b0,bz⟩
      · exact ⟨_,_,rfl,b1,ba⟩
      · exact ⟨_,_,rfl,b2,bd⟩
      · exact ⟨_,_,rfl,b3,b4⟩
    have pairs : ∀ z ∈ [plD (s' * g + -q * 0) (-r * g + p * 0),plD (s' * X1 + -q * Y1) (-r * X1 + p * Y1),plD (s' * X2 + -q * Y2) (-r * X2 + p * Y2),plD (s' * X3 + -q * Y3) (-r * X3 + p * Y3)],∃ x y : Int,z = plD x y := by
      intro z hz
      simp only [List.mem_cons,List.not_mem_nil,or_false] at hz
      rcases hz with rfl | rfl | rfl | rfl <;> exact ⟨_,_,rfl⟩
    refine do_setC (ds := [plD g 0,plD X1 Y1,plD X2 Y2,plD X3 Y3]) 9 [("back",s.heap.objs.size + 1)] ["back"] [8] (λ _ => true) (λ z => plD (s' * (plOf z).1 + -q * (plOf z).2) (-r * (plOf z).1 + p * (plOf z).2))
        (src_ls (EvN.ev (evn_call Gr hr (ea_cons (ev_v 0) (ea_cons (ev_v 1) (ea_cons (ev_v 4) (ea_cons (ev_v 6) ea_nil)))) ⟨a,b,c,d,e,f,g,m,rfl,fJ,gJ,hg,bg,sm,by rw [h1,h2,h3,h4,h5,h6]⟩)) rfl) (by simp) (λ _ _ _ => fz2 _ _) (λ _ _ _ _ _ _ => ets_nil) (λ C s₀ H₀ fp z hz _ => ?_) (λ l _ => ?_) nd
    · obtain ⟨x,y,rfl,hx,hy⟩ := mem z hz
      exact ev_call Gs hr1 (ea_cons (ev_v 1) (ea_cons (ev_v 0) ea_nil)) ⟨s',-q,-r,p,x,y,rfl,up tB.sp,up tB.sq,up tB.sr,up tB.ss,hx.up _ (by decide),hy.up _ (by decide),rfl⟩
    · refine do_ret (d := .tup [formD a' b' c',turD (s' * g + -q * 0) (s' * X1 + -q * Y1) (s' * X2 + -q * Y2) (s' * X3 + -q * Y3),turD (-r * g + p * 0) (-r * X1 + p * Y1) (-r * X2 + p * Y2) (-r * X3 + p * Y3)])
        (ev_tup (ea_cons (ev_ix (ev_v 7) ev_int rfl) (ea_cons (ev_tupleOf T.tuple (EvN.ev (evn_map0 (λ z => .int (plOf z).1) (src_ls (ev_v 9) rfl) (by simp) (λ _ _ => .int _) (λ C s₀ H₀ fp z hz => ?_))) rfl) (ea_cons (ev_tupleOf T.tuple (EvN.ev (evn_map0 (λ z => .int (plOf z).2) (src_ls (ev_v 9) rfl) (by simp) (λ _ _ => .int _) (λ C s₀ H₀ fp z hz => ?_))) rfl) ea_nil)))) ?_
      · obtain ⟨x,y,rfl⟩ := pairs z hz
        exact ev_ix (ev_v 0) ev_int rfl
      · obtain ⟨x,y,rfl⟩ := pairs z hz
        exact ev_ix (ev_v 0) ev_int rfl
      · intro a0 b0' c0 d0 e0 f0' q0
        cases q0
        have hb2 := ld.bar
        refine ⟨a',b',c',_,_,_,_,_,_,_,_,rfl,L,fS',by rw [hb2]; exact hbar,cm.target ld.led,(row _ _ b0 bz).1,(row _ _ b1 ba).1,(row _ _ b2 bd).1,(row _ _ b3 b4).1,(row _ _ b0 bz).2,(row _ _ b1 ba).2,(row _ _ b2 bd).2,(row _ _ b3 b4).2⟩
theorem ok_joined {f : Addr} {fd : FuncData} (G1 : Fn P w K mg base 4 "require_form" p_require_form) (G2 : Fn P w K mg base 6 "require_same_bar" p_require_same_bar) (G3 : Fn P w K mg base 6 "require_bare" p_require_bare) (G4 : FnR P w K mg base 7 "joined_whole" pre_joined post_joined)
    (F : Fun K "joined" "joined" s_joined f fd) (hm : mg "joined" = some (.ref f)) (hb : Binds K fd ["one", "other"] []) : FnR P w K mg base 8 "joined" pre_joined post_joined := by
  refine fnr_mk F sc_joined hm hb (λ ds h => ?_) (λ cdv A outer s H E hr ds h => ?_)
  · obtain ⟨a,b,c,d,e,f,rfl,_⟩ := h
    exact ⟨rfl,by simp⟩
  · obtain ⟨a,b,c,d,e,f,rfl,fJ,gJ,hD⟩ := h
    have hr4 := hr.mono (show 4 ≤ 7 by decide)
    have hr6 := hr.mono (show 6 ≤ 7 by decide)
    refine do_expr (ev_call G1 hr4 (ea_cons (ev_v 0) ea_nil) ⟨a,b,c,rfl,fJ.n,rfl⟩) ?_
    refine do_expr (ev_call G1 hr4 (ea_cons (ev_v 1) ea_nil) ⟨d,e,f,rfl,gJ.n,rfl⟩) ?_
    refine do_expr (ev_call G2 hr6 (ea_cons (ev_v 0) (ea_cons (ev_v 1) ea_nil)) ⟨a,b,c,d,e,f,rfl,fJ.n,gJ.n,hD,rfl⟩) ?_
    refine do_expr (ev_call G3 hr6 (ea_cons (ev_v 0) ea_nil) ⟨a,b,c,rfl,fJ.n,fJ.bare,rfl⟩) ?_
    refine do_expr (ev_call G3 hr6 (ea_cons (ev_v 1) ea_nil) ⟨d,e,f,rfl,gJ.n,gJ.bare,rfl⟩) ?_
    exact do_retR (evr_call G4 hr (ea_cons (ev_v 0) (ea_cons (ev_v 1) ea_nil)) ⟨a,b,c,d,e,f,rfl,fJ,gJ,hD⟩) (λ d hd => fz_joined rfl hd) (λ d hd => hd)
theorem ok_neutral {f : Addr} {fd : FuncData} (G1 : Fn P w K mg base 3 "require_bar" p_require_bar) (F : Fun K "neutral" "neutral" s_neutral f fd) (hm : mg "neutral" = some (.ref f)) (hb : Binds K fd ["bar"] []) : Fn P w K mg base 4 "neutral" p_neutral := by
  refine fn_mk F sc_neutral hm hb (λ ds d h => ?_) (λ cdv A outer s H E hr ds d h => ?_)
  · obtain ⟨i,rfl,_⟩ := h
    exact ⟨rfl,by simp⟩
  · obtain ⟨i,rfl,hi,h4,rfl⟩ := h
    have nd := sc_neutral.nd
    refine do_expr (ev_call G1 hr (ea_cons (ev_v 0) ea_nil) ⟨i,rfl,hi,h4,rfl⟩) ?_
    refine do_set 1 (ev_mod (ev_v 0) ev_int (by decide)) (.int _) ?_ nd
    exact do_ret (ev_tup (ea_cons ev_int (ea_cons (ev_v 1) (ea_cons (ev_div (ev_sub (ev_v 1) (ev_v 0)) ev_int (by decide) bd_4) ea_nil)))) rfl
set_option maxHeartbeats 4000000 in
theorem ok_least_forms_from {f : Addr} {fd : FuncData} (T : Tx mg) (G1 : Fn P w K mg base 5 "is_least" p_is_least) (F : Fun K "least_forms_from" "least_forms_from" s_least_forms_from f fd) (hm : mg "least_forms_from" = some (.ref f)) (hb : Binds K fd ["bar", "a"] []) : FnL P w K mg base 6 "least_forms_from" p_lff := by
  refine fnl_mk F sc_least_forms_from hm hb (λ ds es h => ?_) (λ cdv A outer s H E hr ds es h => ?_)
  · obtain ⟨i,a,rfl,_⟩ := h
    exact ⟨rfl,by simp⟩
  · obtain ⟨i,a,rfl,hi,a0,a1,rfl⟩ := h
    have nd := sc_least_forms_from.nd
    have i0 := hi.d.neg
    have i1 := hi.low
    have ba : Bd a 6 := .of_lt (by omega)
    refine do_setN 2 (evn_list ea_nil) (λ d hd => by cases hd) (λ l _ => ?_) nd
    refine do_for 3 (λ t ρ => ∃ u v,ρ = [some (.int i),some (.int a),some (.lst l ((lfN i a t).map qD)),u,v] ∧ t ≤ (2 * a + 1).toNat) (λ ρ => ∃ u v,ρ = [some (.int i),some (.int a),some (.lst l ((lfA i a).map qD)),u,v]) PassesOwn.never rfl
      (wk_range2 T.range (ev_neg (ev_v 1)) (ev_add (ev_v 1) ev_int) (by omega) (by omega) (by omega) (by omega)) (λ d hd => ?_) (λ _ _ _ => trivial) ⟨none,none,rfl,Nat.zero_le _⟩ ?_ ?_ ?_ nd
    · obtain ⟨z,_,rfl⟩ := List.mem_map.mp hd
      exact .int _
    · rintro t d ρ hdt ⟨u,v,rfl,htl⟩
      have tl : t < (a + 1 - -a).toNat := by
        have := (List.getElem?_eq_some_iff.mp hdt).1
        simpa using this
      rw [List.getElem?_map,List.getElem?_range tl] at hdt
      obtain rfl : d = D.int (-a + (t : Int)) := (Option.some.inj hdt).symm
      have e := lfN_succ i a t
      have ll := lf_len (i := i) (a := a) t
      have hb1 : -a ≤ -a + (t : Int) := by omega
      have hb2 : -a + (t : Int) ≤ a := by omega
      generalize hbb : -a + (t : Int) = b at *
      have bb : Bd b 6 := .of_lt (by omega)
      have bi : Bd i 12 := .of_lt (by omega)
      refine do_if (λ ρ => ∃ v,ρ = [some (.int i),some (.int a),some (.lst l ((lfN i a (t + 1)).map qD)),some (.int b),v]) (et_eq (ev_mod (ev_sub (ev_mul (ev_v 3) (ev_v 3) bb bb) (ev_v 0)) (ev_mul ev_int (ev_v 1) bd_4 ba) (by omega)) ev_int) (λ hk => ?_) (λ hk => ?_) ?_
      · have hk' : (b * b - i) % (4 * a) = 0 := by simpa using hk
        have hC : 4 * a * ((b * b - i) / (4 * a)) = b * b - i := Int.mul_ediv_cancel' (Int.dvd_of_emod_eq_zero hk')
        have bC : Bd ((b * b - i) / (4 * a)) 14 := (Bd.sub (Bd.mul bb bb 12 (by decide)) bi 14 (by decide)).div (by omega)
        refine do_set 4 (ev_tup (ea_cons (ev_v 1) (ea_cons (ev_v 3) (ea_cons (ev_div (ev_sub (ev_mul (ev_v 3) (ev_v 3) bb bb) (ev_v 0)) (ev_mul ev_int (ev_v 1) bd_4 ba) (by omega) (Bd.mul bd_4 ba 9 (by decide))) ea_nil)))) (fz3 _ _ _) ?_ nd
        have fN : FormN a b ((b * b - i) / (4 * a)) := ⟨a0,by omega,ba.up _ (by decide),bb.up _ (by decide),bC.up _ (by decide)⟩
        refine do_if (λ ρ => ∃ v,ρ = [some (.int i),some (.int a),some (.lst l ((lfN i a (t + 1)).map qD)),some (.int b),v]) (et_val (ev_call G1 hr (ea_cons (ev_v 4) ea_nil) ⟨a,b,_,rfl,fN,rfl⟩)) (λ hL => ?_) (λ hL => ?_) (λ ρ h => do_nil h)
        · have hc : lfC i a b = true := by
            unfold lfC
            rw [hL,hk']
            rfl
          rw [if_pos hc] at e
          refine do_append 2 rfl (ev_v 4) (fz3 _ _ _) (by rw [List.length_map]; omega) (others_of rfl) (do_nil ⟨some (formD a b ((b * b - i) / (4 * a))),?_⟩)
          rw [e,List.map_append]
          rfl
        · have hc : ¬ lfC i a b = true := by
            unfold lfC
            rw [hL]
            simp
          rw [if_neg hc,List.append_nil] at e
          rw [e]
          exact do_nil ⟨_,rfl⟩
      · have hk' : ¬ (b * b - i) % (4 * a) = 0 := by simpa using hk
        have hc : ¬ lfC i a b = true := by
          unfold lfC
          simp [hk']
        rw [if_neg hc,List.append_nil] at e
        rw [e]
        exact do_nil ⟨_,rfl⟩
      · rintro ρ ⟨v,rfl⟩
        exact do_nil ⟨_,_,rfl,by omega⟩
    · rintro ρ ⟨u,v,rfl,_⟩
      rw [List.length_map,List.length_range]
      refine ⟨u,v,?_⟩
      unfold lfA
      have : (a + 1 - -a).toNat = (2 * a + 1).toNat := by congr 1; omega
      rw [this]
    · rintro ρ ⟨u,v,rfl⟩
      exact do_ret (ev_v 2) ⟨l,rfl⟩ (λ a z => by cases z; exact ⟨2,_,rfl,rfl⟩)
set_option maxHeartbeats 4000000 in
theorem ok_least_forms {f : Addr} {fd : FuncData} (G1 : Fn P w K mg base 4 "require_bar_from" p_require_bar_from) (G2 : FnL P w K mg base 6 "least_forms_from" p_lff) (C1 : Con K mg "LOWEST_LISTED_BAR" (.int (-4000))) (F : Fun K "least_forms" "least_forms" s_least_forms f fd) (hm : mg "least_forms" = some (.ref f)) (hb : Binds K fd ["bar"] []) : FnL P w K mg base 7 "least_forms" p_least_forms := by
  refine fnl_mk F sc_least_forms hm hb (λ ds es h => ?_) (λ cdv A outer s H E hr ds es h => ?_)
  · obtain ⟨i,rfl,_⟩ := h
    exact ⟨rfl,by simp⟩
  · obtain ⟨i,rfl,hi,rfl⟩ := h
    have nd := sc_least_forms.nd
    have hr4 := hr.mono (show 4 ≤ 6 by decide)
    have i0 := hi.d.neg
    have i1 := hi.low
    refine do_expr (ev_call G1 hr4 (ea_cons (ev_v 0) (ea_cons (ev_con C1) ea_nil)) ⟨i,-4000,rfl,i0,hi.d.four,i1,rfl⟩) ?_
    refine do_setN 1 (evn_list ea_nil) (λ d hd => by cases hd) (λ l _ => ?_) nd
    refine do_set 2 ev_int (.int _) ?_ nd
    refine do_while (λ ρ => ∃ n : Nat,ρ = [some (.int i),some (.lst l ((lfs i n).map qD)),some (.int ((n : Int) + 1))] ∧ n ≤ 37) (λ ρ => ∃ u,ρ = [some (.int i),some (.lst l ((LF i).map qD)),u]) (λ ρ => (100 - intAt ρ 2).toNat) PassesOwn.never ⟨0,rfl,by decide⟩ ?_ ?_
    · rintro ρ ⟨n,rfl,hn⟩
      have bn : Bd ((n : Int) + 1) 6 := .of_lt (by omega)
      refine ⟨_,et_le (ev_mul (ev_mul ev_int (ev_v 2) bd_3 bn) (ev_v 2) (Bd.mul bd_3 bn 8 (by decide)) bn) (ev_neg (ev_v 0)),λ hk => ?_,λ hk => ?_⟩
      · have hk' : 3 * ((n : Int) + 1) * ((n : Int) + 1) ≤ -i := by simpa using hk
        have n36 : n ≤ 36 := by
          refine Nat.not_lt.mp λ z => ?_
          have := sq_mono (a := 38) (b := (n : Int) + 1) (by decide) (by omega)
          have e : 3 * ((n : Int) + 1) * ((n : Int) + 1) = 3 * (((n : Int) + 1) * ((n : Int) + 1)) := by grind
          omega
        have ll := lfs_len (i := i) n (by omega)
        have l2 : (lfA i ((n : Int) + 1)).length ≤ (2 * ((n : Int) + 1) + 1).toNat := lf_len _
        refine do_extend 1 rfl (evn_call G2 hr (ea_cons (ev_v 0) (ea_cons (ev_v 2) ea_nil)) ⟨i,(n : Int) + 1,rfl,hi,by omega,by omega,rfl⟩) (fzQs _) (by rw [List.length_map,List.length_map]; omega) (others_of rfl) ?_
        refine do_aug 2 rfl ev_int (do_nil ⟨⟨n + 1,?_,by omega⟩,?_⟩) nd
        · rw [lfs_succ,List.map_append]
          rfl
        · show (100 - ((n : Int) + 1 + 1)).toNat < (100 - ((n : Int) + 1)).toNat
          omega
      · have hk' : ¬ 3 * ((n : Int) + 1) * ((n : Int) + 1) ≤ -i := by simpa using hk
        have e : 3 * ((n : Int) + 1) * ((n : Int) + 1) = 3 * (((n : Int) + 1) * ((n : Int) + 1)) := by grind
        rw [lfs_end (by omega) (by omega)]
        exact ⟨_,rfl⟩
    · rintro ρ ⟨u,rfl⟩
      exact do_ret (ev_v 1) ⟨l,rfl⟩ (λ a z => by cases z; exact ⟨1,_,rfl,rfl⟩)
set_option maxHeartbeats 4000000 in
theorem ok_classes {f : Addr} {fd : FuncData} (G1 : FnL P w K mg base 7 "least_forms" p_least_forms) (G2 : Fn P w K mg base 5 "is_bare" p_is_bare) (F : Fun K "classes" "classes" s_classes f fd) (hm : mg "classes" = some (.ref f)) (hb : Binds K fd ["bar"] []) : FnL P w K mg base 8 "classes" p_classes := by
  refine fnl_mk F sc_classes hm hb (λ ds es h => ?_) (λ cdv A outer s H E hr ds es h => ?_)
  · obtain ⟨i,rfl,_⟩ := h
    exact ⟨rfl,by simp⟩
  · obtain ⟨i,rfl,hi,rfl⟩ := h
    have hr5 := hr.mono (show 5 ≤ 7 by decide)
    have ll := lfs_len (i := i) 40 (by decide)
    have e : (clsL i).map qD = (((LF i).map qD).filter λ d => bareB (qOf d)).map λ d => d := by
      unfold clsL
      rw [List.map_id',List.filter_map]
      rfl
    rw [e]
    refine do_retL (evn_compC [] [] [] (λ d => bareB (qOf d)) (λ d => d) (src_ls (EvN.ev (evn_call G1 hr (ea_cons (ev_v 0) ea_nil) ⟨i,rfl,hi,rfl⟩)) rfl) (by rw [List.length_map]; unfold LF; omega) (λ d hd _ => fzQs _ d hd) (λ C s₀ H₀ fp d hd => ?_) (λ C s₀ H₀ fp d hd _ => ev_v 0)) λ l => ⟨l,rfl⟩
    obtain ⟨q,hq,rfl⟩ := List.mem_map.mp hd
    have S := lf_small hi hq
    refine ets_one (Et.to (et_val (ev_call G2 hr5 (ea_cons (ev_v 0) ea_nil) ⟨q.a,q.b,q.c,rfl,S.n,rfl⟩)) ?_)
    rfl
theorem ok_marks_beside_odd_primes {f : Addr} {fd : FuncData} (F : Fun K "marks_beside_odd_primes" "marks_beside_odd_primes" s_marks_beside_odd_primes f fd) (hm : mg "marks_beside_odd_primes" = some (.ref f)) (hb : Binds K fd ["quarter"] []) : FnL P w K mg base 1 "marks_beside_odd_primes" p_mbop := by
  refine fnl_mk F sc_marks_beside_odd_primes hm hb (λ ds es h => ?_) (λ cdv A outer s H E hr ds es h => ?_)
  · obtain ⟨q,rfl,_⟩ := h
    exact ⟨rfl,by simp⟩
  · obtain ⟨q,rfl,rfl⟩ := h
    have nd := sc_marks_beside_odd_primes.nd
    refine do_set 1 (ev_mod (ev_v 0) ev_int (by decide)) (.int _) ?_ nd
    refine do_setN 2 (evn_list ea_nil) (λ d hd => by cases hd) (λ l _ => ?_) nd
    generalize q % 8 = r
    refine do_if (λ ρ => ρ = [some (.int q),some (.int r),some (.lst l ((if r = 1 ∨ r = 5 ∨ r = 4 ∨ r = 0 then [(4 : Int)] else []).map D.int))]) (et_in (n := 0) (ds := ([1,5,4,0] : List Int).map D.int) hr (ev_v 1) (ev_tup (ea_cons ev_int (ea_cons ev_int (ea_cons ev_int (ea_cons ev_int ea_nil))))) (.inr rfl) (cm_is _ _)) (λ hk => ?_) (λ hk => ?_) ?_
    · rw [inI] at hk
      have hk' : r = 1 ∨ r = 5 ∨ r = 4 ∨ r = 0 := by simpa using hk
      refine do_append 2 rfl ev_int (.int _) (by decide) (others_of rfl) (do_nil ?_)
      rw [if_pos hk']
      rfl
    · rw [inI] at hk
      have hk' : ¬ (r = 1 ∨ r = 5 ∨ r = 4 ∨ r = 0) := by simpa using hk
      refine do_nil ?_
      rw [if_neg hk']
      rfl
    · rintro ρ rfl
      have l1 : ((if r = 1 ∨ r = 5 ∨ r = 4 ∨ r = 0 then [(4 : Int)] else []).map D.int).length ≤ 1 := by split <;> simp
      generalize e1 : (if r = 1 ∨ r = 5 ∨ r = 4 ∨ r = 0 then [(4 : Int)] else []) = L1 at *
      refine do_if (λ ρ => ρ = [some (.int q),some (.int r),some (.lst l ((L1 ++ if r = 6 ∨ r = 0 then [(8 : Int)] else []).map D.int))]) (et_in (n := 0) (ds := ([6,0] : List Int).map D.int) hr (ev_v 1) (ev_tup (ea_cons ev_int (ea_cons ev_int ea_nil))) (.inr rfl) (cm_is _ _)) (λ hk => ?_) (λ hk => ?_) ?_
      · rw [inI] at hk
        have hk' : r = 6 ∨ r = 0 := by simpa using hk
        refine do_append 2 rfl ev_int (.int _) (by omega) (others_of rfl) (do_nil ?_)
        rw [if_pos hk',List.map_append]
        rfl
      · rw [inI] at hk
        have hk' : ¬ (r = 6 ∨ r = 0) := by simpa using hk
        refine do_nil ?_
        rw [if_neg hk',List.append_nil]
      · rintro ρ rfl
        have l2 : ((L1 ++ if r = 6 ∨ r = 0 then [(8 : Int)] else []).map D.int).length ≤ 2 := by
          rw [List.length_map] at l1 ⊢
          rw [List.length_append]
          split <;> simp <;> omega
        generalize e2 : (L1 ++ if r = 6 ∨ r = 0 then [(8 : Int)] else []) = L2 at *
        refine do_if (λ ρ => ρ = [some (.int q),some (.int r),some (.lst l ((L2 ++ if r = 2 then [(-8 : Int)] else []).map D.int))]) (et_eq (ev_v 1) ev_int) (λ hk => ?_) (λ hk => ?_) ?_
        · have hk' : r = 2 := by simpa using hk
          refine do_append 2 rfl (ev_neg ev_int) (.int _) (by omega) (others_of rfl) (do_nil ?_)
          rw [if_pos hk',List.map_append]
          rfl
        · have hk' : ¬ r = 2 := by simpa using hk
          refine do_nil ?_
          rw [if_neg hk',List.append_nil]
        · rintro ρ rfl
          have ef : MY.mk2L r = L2 ++ if r = 2 then [(-8 : Int)] else [] := by
            unfold MY.mk2L
            rw [e1,e2]
          rw [ef]
          exact do_ret (ev_v 2) ⟨l,rfl⟩ (λ a z => by cases z; exact ⟨2,_,rfl,rfl⟩)
set_option maxHeartbeats 2000000 in
theorem ok_marks_of {f : Addr} {fd : FuncData} (G1 : Fn P w K mg base 4 "require_bar_from" p_require_bar_from) (G2 : FnL P w K mg base 2 "prime_divisors" p_pd) (G3 : FnL P w K mg base 1 "marks_beside_odd_primes" p_mbop) (C1 : Con K mg "LOWEST_MARKED_BAR" (.int (-1000000))) (F : Fun K "marks_of" "marks_of" s_marks_of f fd) (hm : mg "marks_of" = some (.ref f)) (hb : Binds K fd ["bar"] []) : FnL P w K mg base 5 "marks_of" p_marks := by
  refine fnl_mk F sc_marks_of hm hb (λ ds es h => ?_) (λ cdv A outer s H E hr ds es h => ?_)
  · obtain ⟨q,rfl,_⟩ := h
    exact ⟨rfl,by simp⟩
  · obtain ⟨i,rfl,hi,rfl⟩ := h
    have nd := sc_marks_of.nd
    have h1 := hi.neg
    have h2 := hi.low
    have hr2 := hr.mono (show 2 ≤ 4 by decide)
    have hr1 := hr.mono (show 1 ≤ 4 by decide)
    refine do_expr (ev_call G1 hr (ea_cons (ev_v 0) (ea_cons (ev_con C1) ea_nil)) ⟨i,-1000000,rfl,h1,hi.four,h2,rfl⟩) ?_
    have l1 := PD_len (n := (-i).toNat) (by omega) (by omega)
    have ln : -i = (((-i).toNat : Nat) : Int) := by omega
    have e : ((PD (-i).toNat).filter λ k => decide (k ≠ 2)).map D.int = (((PD (-i).toNat).map D.int).filter λ d => match d with | .int k => decide (k ≠ 2) | _ => false).map λ d => d := by
      rw [List.map_id',List.filter_map]
      rfl
    have l2 : (((PD (-i).toNat).filter λ k => decide (k ≠ 2)).map D.int).length < 22 := by
      rw [List.length_map]
      exact Nat.lt_of_le_of_lt (List.length_filter_le _ _) l1
    refine do_setC 1 [] [] [] (λ d => match d with | .int k => decide (k ≠ 2) | _ => false) (λ d => d) (src_ls (EvN.ev (evn_call G2 hr2 (ea_cons (Ev.to (ev_neg (ev_v 0)) (congrArg D.int ln)) ea_nil) ⟨(-i).toNat,rfl,by omega,by omega,rfl⟩)) rfl) (by rw [List.length_map]; omega) (λ d hd _ => ?_) (λ C s₀ H₀ fp d hd => ?_) (λ C s₀ H₀ fp d hd _ => ev_v 0) (λ l _ => ?_) nd
    · obtain ⟨k,_,rfl⟩ := List.mem_map.mp hd
      exact .int _
    · obtain ⟨k,_,rfl⟩ := List.mem_map.mp hd
      exact ets_one (Et.to (et_ne (ev_v 0) ev_int) (by simp))
    rw [← e]
    have em : mks i = ((PD (-i).toNat).filter λ k => decide (k ≠ 2)) ++ (if i % 4 = 0 then MY.mk2L (-i / 4 % 8) else []) := rfl
    rw [em]
    generalize ((PD (-i).toNat).filter λ k => decide (k ≠ 2)) = L at *
    refine do_if (λ ρ => ρ = [some (.int i),some (.lst l ((L ++ if i % 4 = 0 then MY.mk2L (-i / 4 % 8) else []).map D.int))]) (et_eq (ev_mod (ev_v 0) ev_int (by decide)) ev_int) (λ hk => ?_) (λ hk => ?_) ?_
    · have hk' : i % 4 = 0 := by simpa using hk
      have l3 := MY.mk2_len (-i / 4 % 8)
      refine do_extend 1 rfl (evn_call G3 hr1 (ea_cons (ev_div (ev_neg (ev_v 0)) ev_int (by decide) bd_4) ea_nil) ⟨-i / 4,rfl,rfl⟩) (fz_int_list _) (by rw [List.length_map (as := MY.mk2L _)]; omega) (others_of rfl) (do_nil ?_)
      rw [if_pos hk',List.map_append]
      rfl
    · have hk' : ¬ i % 4 = 0 := by simpa using hk
      refine do_nil ?_
      rw [if_neg hk',List.append_nil]
      rfl
    · rintro ρ rfl
      exact do_ret (ev_v 1) ⟨l,rfl⟩ (λ a z => by cases z; exact ⟨1,_,rfl,rfl⟩)
theorem ok_is_plus_at {f : Addr} {fd : FuncData} (G1 : Fn P w K mg base 2 "leaves_square" p_leaves) (F : Fun K "is_plus_at" "is_plus_at" s_is_plus_at f fd) (hm : mg "is_plus_at" = some (.ref f)) (hb : Binds K fd ["mark", "number"] []) : Fn P w K mg base 3 "is_plus_at" p_plus := by
  refine fn_mk F sc_is_plus_at hm hb (λ ds d h => ?_) (λ cdv A outer s H E hr ds d h => ?_)
  · obtain ⟨i,m,n,rfl,_⟩ := h
    exact ⟨rfl,by simp⟩
  · obtain ⟨i,m,n,rfl,hi,hk,rfl⟩ := h
    refine do_ifR (et_eq (ev_v 0) ev_int) (λ c4 => ?_) (λ c4 => ?_)
    · have c4 : m = 4 := by simpa using c4
      refine do_ret (ev_eq (ev_mod (ev_v 1) ev_int (by decide)) ev_int) ?_
      show D.bl _ = D.bl _
      unfold MZ.pl
      rw [if_pos c4]
    have c4 : ¬ m = 4 := by simpa using c4
    refine do_ifR (et_eq (ev_v 0) ev_int) (λ c8 => ?_) (λ c8 => ?_)
    · have c8 : m = 8 := by simpa using c8
      refine do_ret (ev_in (n := 0) (ds := ([1,7] : List Int).map D.int) hr (ev_mod (ev_v 1) ev_int (by decide)) (ev_tup (ea_cons ev_int (ea_cons ev_int ea_nil))) (.inr rfl) (cm_is _ _)) ?_
      show D.bl _ = D.bl _
      unfold MZ.pl
      rw [if_neg c4,if_pos c8,inI]
      congr 1
      simp
    have c8 : ¬ m = 8 := by simpa using c8
    refine do_ifR (et_eq (ev_v 0) (ev_neg ev_int)) (λ c9 => ?_) (λ c9 => ?_)
    · have c9 : m = -8 := by simpa using c9
      refine do_ret (ev_in (n := 0) (ds := ([1,3] : List Int).map D.int) hr (ev_mod (ev_v 1) ev_int (by decide)) (ev_tup (ea_cons ev_int (ea_cons ev_int ea_nil))) (.inr rfl) (cm_is _ _)) ?_
      show D.bl _ = D.bl _
      unfold MZ.pl
      rw [if_neg c4,if_neg c8,if_pos c9,inI]
      congr 1
      simp
    have c9 : ¬ m = -8 := by simpa using c9
    obtain ⟨p,rfl,hp,p2,pl⟩ := mk_pr hi hk c4 c8 c9
    refine do_ret (ev_call G1 hr (ea_cons (ev_v 1) (ea_cons (ev_v 0) ea_nil)) ⟨n,p,rfl,pr_ge3 hp p2,CM.pr_odd hp p2,by omega,rfl⟩) ?_
    show D.bl _ = D.bl _
    rw [MZ.pl_pr hp p2]
set_option maxHeartbeats 2000000 in
theorem ok_telling_place {f : Addr} {fd : FuncData} (G1 : Fn P w K mg base 5 "bar_of" p_bar_of) (G2 : FnL P w K mg base 2 "prime_divisors" p_pd) (F : Fun K "telling_place" "telling_place" s_telling_place f fd) (hm : mg "telling_place" = some (.ref f)) (hb : Binds K fd ["form"] []) : Fn P w K mg base 6 "telling_place" p_tell := by
  refine fn_mk F sc_telling_place hm hb (λ ds d h => ?_) (λ cdv A outer s H E hr ds d h => ?_)
  · obtain ⟨a,b,c,rfl,_⟩ := h
    exact ⟨rfl,by simp⟩
  · obtain ⟨a,b,c,rfl,hf,rfl⟩ := h
    have nd := sc_telling_place.nd
    have hr2 := hr.mono (show 2 ≤ 5 by decide)
    obtain ⟨t0,t1,t2⟩ := hf.two
    have hbar := hf.n.bar
    have hlow := hf.low
    have bD : Bd (b * b - 4 * a * c) 20 := .of_lt (by omega)
    refine do_set 1 ev_int (.int _) (do_set 2 ev_int (.int _) ?_ nd) nd
    have pd := PD_is t0
    have et : tpl a b c = MY.tp a c (PD (-2 * (b * b - 4 * a * c)).toNat) := rfl
    rw [et]
    generalize hn : (-2 * (b * b - 4 * a * c)).toNat = n at *
    refine do_for 3 (λ i ρ => ∃ u,ρ = [some (formD a b c),some (.int (MY.tp a c ((PD n).take i)).1),some (.int (MY.tp a c ((PD n).take i)).2),u]) (λ ρ => ∃ u,ρ = [some (formD a b c),some (.int (MY.tp a c (PD n)).1),some (.int (MY.tp a c (PD n)).2),u]) PassesOwn.never rfl
      (wk_new (evn_call G2 hr2 (ea_cons (Ev.to (ev_mul (ev_neg ev_int) (ev_call G1 hr (ea_cons (ev_v 0) ea_nil) ⟨a,b,c,rfl,hf.n,rfl⟩) (Bd.lit (m := 2)) bD) (congrArg D.int t2.symm)) ea_nil) ⟨n,rfl,t0,by omega,rfl⟩) (fz_int_list _)) (fz_int_list _) (λ _ _ _ => trivial) ⟨none,rfl⟩ ?_ ?_ ?_ nd
    · rintro i d ρ hd ⟨u,rfl⟩
      rw [List.getElem?_map] at hd
      obtain ⟨k,hk,rfl⟩ := Option.map_eq_some_iff.mp hd
      have hl := (List.getElem?_eq_some_iff.mp hk).1
      obtain ⟨p,rfl,hp,pn⟩ := pd.pr (List.mem_of_getElem? hk)
      have e : (PD n).take (i + 1) = (PD n).take i ++ [(p : Int)] := by
        rw [List.take_succ_eq_append_getElem hl,(List.getElem?_eq_some_iff.mp hk).2]
      have es : MY.tp a c ((PD n).take (i + 1)) = MY.tpS a c (MY.tp a c ((PD n).take i)) (p : Int) := by
        rw [e]
        unfold MY.tp
        rw [List.foldl_append]
        rfl
      obtain ⟨x0,y0,x1,y1,_⟩ := MY.tp_pre a c t0 (pd.nod.sublist (List.take_sublist i _)) λ k hk => pd.pr (List.mem_of_mem_take hk)
      rw [es]
      unfold MY.tpS
      generalize (MY.tp a c ((PD n).take i)) = xy at *
      obtain ⟨x,y⟩ := xy
      dsimp only at x0 y0 x1 y1 ⊢
      have p2 := hp.1
      have ple : p ≤ n := Nat.le_of_dvd t0 pn
      have bx : Bd x 22 := .of_lt (by omega)
      have bY : Bd y 22 := .of_lt (by omega)
      have bp : Bd (p : Int) 22 := .of_lt (by omega)
      refine do_if (λ ρ => ∃ u,ρ = [some (formD a b c),some (.int (if a % (p : Int) ≠ 0 then (x,y * (p : Int)) else if c % (p : Int) ≠ 0 then (x * (p : Int),y) else (x,y)).1),some (.int (if a % (p : Int) ≠ 0 then (x,y * (p : Int)) else if c % (p : Int) ≠ 0 then (x * (p : Int),y) else (x,y)).2),u]) (et_ne (ev_mod (ev_ix (ev_v 0) ev_int rfl) (ev_v 3) (by omega)) ev_int) (λ hk => ?_) (λ hk => ?_) (λ ρ z => do_nil z)
      · have hk' : a % (p : Int) ≠ 0 := by simpa using hk
        rw [if_pos hk']
        exact do_set 2 (ev_mul (ev_v 2) (ev_v 3) bY bp) (.int _) (do_nil ⟨_,rfl⟩) nd
      · have hk' : ¬ a % (p : Int) ≠ 0 := by simpa using hk
        rw [if_neg hk']
        refine do_if (λ ρ => ∃ u,ρ = [some (formD a b c),some (.int (if c % (p : Int) ≠ 0 then (x * (p : Int),y) else (x,y)).1),some (.int (if c % (p : Int) ≠ 0 then (x * (p : Int),y) else (x,y)).2),u]) (et_ne (ev_mod (ev_ix (ev_v 0) ev_int rfl) (ev_v 3) (by omega)) ev_int) (λ hk => ?_) (λ hk => ?_) (λ ρ z => do_nil z)
        · have hk' : c % (p : Int) ≠ 0 := by simpa using hk
          rw [if_pos hk']
          exact do_set 1 (ev_mul (ev_v 1) (ev_v 3) bx bp) (.int _) (do_nil ⟨_,rfl⟩) nd
        · have hk' : ¬ c % (p : Int) ≠ 0 := by simpa using hk
          rw [if_neg hk']
          exact do_nil ⟨_,rfl⟩
    · rintro ρ ⟨u,rfl⟩
      rw [List.length_map,List.take_length]
      exact ⟨u,rfl⟩
    · rintro ρ ⟨u,rfl⟩
      exact do_ret (ev_tup (ea_cons (ev_v 1) (ea_cons (ev_v 2) ea_nil))) rfl
set_option maxHeartbeats 2000000 in
theorem ok_signs_of {f : Addr} {fd : FuncData} (G1 : Fn P w K mg base 5 "bar_of" p_bar_of) (G2 : Fn P w K mg base 5 "worth" p_worth) (G3 : Fn P w K mg base 6 "telling_place" p_tell) (G4 : FnL P w K mg base 5 "marks_of" p_marks) (G5 : Fn P w K mg base 3 "is_plus_at" p_plus) (F : Fun K "signs_of" "signs_of" s_signs_of f fd) (hm : mg "signs_of" = some (.ref f)) (hb : Binds K fd ["form"] []) : FnL P w K mg base 7 "signs_of" p_signs := by
  refine fnl_mk F sc_signs_of hm hb (λ ds es h => ?_) (λ cdv A outer s H E hr ds es h => ?_)
  · obtain ⟨a,b,c,rfl,_⟩ := h
    exact ⟨rfl,by simp⟩
  · obtain ⟨a,b,c,rfl,hf,rfl⟩ := h
    have nd := sc_signs_of.nd
    have hr5 := hr.mono (show 5 ≤ 6 by decide)
    have hr3 := hr.mono (show 3 ≤ 6 by decide)
    obtain ⟨x0,y0,x1,y1,_⟩ := hf.tp
    have bx : Bd (tpl a b c).1 8000 := Bd.up (m := 22) (.of_lt (by omega)) _ (by decide)
    have bY : Bd (tpl a b c).2 8000 := Bd.up (m := 22) (.of_lt (by omega)) _ (by decide)
    refine do_set 1 (d := .int (vv a b c)) (ev_call G2 hr5 (ea_cons (ev_v 0) (ea_cons (ev_call G3 hr (ea_cons (ev_v 0) ea_nil) ⟨a,b,c,rfl,hf,rfl⟩) ea_nil)) ⟨a,b,c,_,_,rfl,hf.n,bx,bY,rfl⟩) (.int _) ?_ nd
    have ef : ∀ l : List D,(l.filter λ _ => true) = l := λ l => List.filter_eq_self.mpr λ _ _ => rfl
    have e : (mi a b c).map sgD = ((((mks (b * b - 4 * a * c)).map D.int).filter λ _ => true).map λ d => match d with | .int m => sgD (!MZ.pl m (vv a b c)) | _ => .non) := by
      rw [ef]
      unfold mi
      rw [List.map_map,List.map_map]
      rfl
    rw [e]
    have ml := mks_len hf.bm
    refine do_retL (evn_compC [("number",s.heap.objs.size + 1)] ["number"] [1] (λ _ => true) _ (src_ls (EvN.ev (evn_call G4 hr5 (ea_cons (ev_call G1 hr5 (ea_cons (ev_v 0) ea_nil) ⟨a,b,c,rfl,hf.n,rfl⟩) ea_nil) ⟨_,rfl,hf.bm,rfl⟩)) rfl) (by rw [List.length_map]; omega) (λ d hd _ => ?_) (λ C s₀ H₀ fp d hd => ets_nil) (λ C s₀ H₀ fp d hd _ => ?_)) λ l => ⟨l,rfl⟩
    · obtain ⟨m,hm,rfl⟩ := List.mem_map.mp hd
      exact .int _
    · obtain ⟨m,hm,rfl⟩ := List.mem_map.mp hd
      show Ev _ _ _ (sgD (!MZ.pl m (vv a b c)))
      cases q : MZ.pl m (vv a b c) with
      | true => exact ev_ifT (Et.to (et_val (ev_call G5 hr3 (ea_cons (ev_v 0) (ea_cons (ev_v 1) ea_nil)) ⟨_,m,vv a b c,rfl,hf.bm,mks_mk hf.bm hm,rfl⟩)) q) ev_int
      | false => exact ev_ifF (Et.to (et_val (ev_call G5 hr3 (ea_cons (ev_v 0) (ea_cons (ev_v 1) ea_nil)) ⟨_,m,vv a b c,rfl,hf.bm,mks_mk hf.bm hm,rfl⟩)) q) (ev_neg ev_int)
set_option maxHeartbeats 2000000 in
theorem ok_genus_of {f : Addr} {fd : FuncData} (T : Tx mg) (G1 : Fn P w K mg base 4 "require_form" p_require_form) (G2 : Fn P w K mg base 6 "require_bare" p_require_bare) (G3 : Fn P w K mg base 4 "require_bar_from" p_require_bar_from) (G4 : Fn P w K mg base 5 "bar_of" p_bar_of) (G5 : FnL P w K mg base 7 "signs_of" p_signs) (C1 : Con K mg "LOWEST_MARKED_BAR" (.int (-1000000))) (F : Fun K "genus_of" "genus_of" s_genus_of f fd) (hm : mg "genus_of" = some (.ref f)) (hb : Binds K fd ["form"] []) : Fn P w K mg base 8 "genus_of" p_genus := by
  refine fn_mk F sc_genus_of hm hb (λ ds d h => ?_) (λ cdv A outer s H E hr ds d h => ?_)
  · obtain ⟨a,b,c,rfl,_⟩ := h
    exact ⟨rfl,by simp⟩
  · obtain ⟨a,b,c,rfl,hf,bare,rfl⟩ := h
    have nd := sc_genus_of.nd
    have hr6 := hr.mono (show 6 ≤ 7 by decide)
    have hr5 := hr.mono (show 5 ≤ 7 by decide)
    have hr4 := hr.mono (show 4 ≤ 7 by decide)
    refine do_expr (ev_call G1 hr4 (ea_cons (ev_v 0) ea_nil) ⟨a,b,c,rfl,hf.n,rfl⟩) ?_
    refine do_expr (ev_call G2 hr6 (ea_cons (ev_v 0) ea_nil) ⟨a,b,c,rfl,hf.n,bare,rfl⟩) ?_
    refine do_expr (ev_call G3 hr4 (ea_cons (ev_call G4 hr5 (ea_cons (ev_v 0) ea_nil) ⟨a,b,c,rfl,hf.n,rfl⟩) (ea_cons (ev_con C1) ea_nil)) ⟨_,-1000000,rfl,hf.bm.neg,hf.bm.four,hf.low,rfl⟩) ?_
    refine do_set 1 ev_int (.int _) ?_ nd
    have ml : (mi a b c).length ≤ 23 := by rw [mi_len]; exact mks_len hf.bm
    have fz := fz_sg (mi a b c)
    refine do_for 2 (λ i ρ => ∃ u,ρ = [some (formD a b c),some (.int ((MY.gn (((mi a b c).reverse.take i).reverse) : Nat) : Int)),u]) (λ ρ => ∃ u,ρ = [some (formD a b c),some (.int ((MY.gn (mi a b c) : Nat) : Int)),u]) PassesOwn.never rfl
      (wk_rev T.reversed (evn_call G5 hr (ea_cons (ev_v 0) ea_nil) ⟨a,b,c,rfl,hf,rfl⟩) fz) (λ d hd => fz d (List.mem_reverse.mp hd)) (λ _ _ _ => trivial) ⟨none,rfl⟩ ?_ ?_ ?_ nd
    · rintro i d ρ hd ⟨u,rfl⟩
      rw [← List.map_reverse,List.getElem?_map] at hd
      obtain ⟨k,hk,rfl⟩ := Option.map_eq_some_iff.mp hd
      have hl := (List.getElem?_eq_some_iff.mp hk).1
      have e : (mi a b c).reverse.take (i + 1) = (mi a b c).reverse.take i ++ [k] := by
        rw [List.take_succ_eq_append_getElem hl,(List.getElem?_eq_some_iff.mp hk).2]
      have g1 := MY.gn_lt (((mi a b c).reverse.take i).reverse)
      have g2 : (((mi a b c).reverse.take i).reverse).length ≤ 23 := by
        rw [List.length_reverse,List.length_take,List.length_reverse]
        omega
      have g3 := Nat.lt_of_lt_of_le g1 (Nat.pow_le_pow_right (show 0 < 2 by decide) g2)
      rw [e,List.reverse_append]
      generalize ((mi a b c).reverse.take i).reverse = L at *
      have bg : Bd ((MY.gn L : Nat) : Int) 24 := .of_lt (by omega)
      have eg : ((MY.gn ([k].reverse ++ L) : Nat) : Int) = 2 * ((MY.gn L : Nat) : Int) + ((k.toNat : Nat) : Int) := by
        show ((2 * MY.gn L + k.toNat : Nat) : Int) = _
        push_cast
        rfl
      rw [eg]
      cases k with
      | true => exact do_set 1 (ev_add (ev_mul ev_int (ev_v 1) bd_2 bg) (ev_ifT (Et.tt (et_eq (ev_v 2) (ev_neg ev_int)) rfl) ev_int)) (.int _) (do_nil ⟨_,rfl⟩) nd
      | false => exact do_set 1 (ev_add (ev_mul ev_int (ev_v 1) bd_2 bg) (ev_ifF (Et.ff' (et_eq (ev_v 2) (ev_neg ev_int)) (by decide)) ev_int)) (.int _) (do_nil ⟨_,rfl⟩) nd
    · rintro ρ ⟨u,rfl⟩
      refine ⟨u,?_⟩
      have el : ((mi a b c).map sgD).reverse.length = (mi a b c).reverse.length := by simp
      rw [el,List.take_length,List.reverse_reverse]
    · rintro ρ ⟨u,rfl⟩
      exact do_ret (ev_v 1) rfl
set_option maxHeartbeats 4000000 in
theorem ok_round_of_class {f : Addr} {fd : FuncData} (Gb : Fn P w K mg base 5 "bar_of" p_bar_of) (Gn : Fn P w K mg base 4 "neutral" p_neutral) (Gj : FnR P w K mg base 8 "joined" pre_joined post_joined) (F : Fun K "round_of_class" "round_of_class" s_round_of_class f fd) (hm : mg "round_of_class" = some (.ref f)) (hb : Binds K fd ["form"] []) : FnL P w K mg base 9 "round_of_class" p_round_of_class := by
  refine fnl_mk F sc_round_of_class hm hb (λ ds es h => ?_) (λ cdv A outer s H E hr ds es h => ?_)
  · obtain ⟨i,h,x,rfl,_⟩ := h
    exact ⟨rfl,by simp⟩
  · obtain ⟨i,hi,x,rfl,rfl⟩ := h
    have nd := sc_round_of_class.nd
    have hr4 := hr.mono (show 4 ≤ 8 by decide)
    have hr5 := hr.mono (show 5 ≤ 8 by decide)
    have xJ := cls_J hi.s x
    have bx : x.1.b * x.1.b - 4 * x.1.a * x.1.c = i := x.2.ok.bar
    refine do_set 1 (d := cD (oneC hi)) (ev_call Gn hr4 (ea_cons (Ev.to (ev_call Gb hr5 (ea_cons (ev_v 0) ea_nil) ⟨x.1.a,x.1.b,x.1.c,rfl,xJ.n,rfl⟩) (congrArg D.int bx)) ea_nil) ⟨i,rfl,hi.d.neg,hi.d.four,rfl⟩) (fzC _) ?_ nd
    refine do_setN 2 (evn_list (ea_cons (ev_v 0) ea_nil)) (λ d hd => by rw [List.mem_singleton.mp hd]; exact fzC _) (λ l _ => ?_) nd
    have op := od_pos hi x
    have ol := od_le hi x
    have e1 : [cD x] = rdN hi x 1 := by
      show [cD x] = [cD (pwC hi x 1)]
      rw [show pwC hi x 1 = x from @MG.pw_one (MG.C i) (grp hi.d) x]
    refine do_while (λ ρ => ∃ n : Nat,ρ = [some (cD x),some (cD (oneC hi)),some (.lst l (rdN hi x n))] ∧ 0 < n ∧ n ≤ od hi x) (λ ρ => ρ = [some (cD x),some (cD (oneC hi)),some (.lst l (rdD hi x))]) (λ ρ => od hi x - lenAt ρ 2) PassesOwn.never ⟨1,by rw [← e1]; rfl,by decide,op⟩ ?_ ?_
    · rintro ρ ⟨n,rfl,n0,n1⟩
      refine ⟨_,et_neT (n := 0) hr (ev_ixl (ev_v 2) rfl (ev_neg ev_int) (lastN hi x n0)) (ev_v 1) (Cm.ints [_,_,_] [_,_,_]),λ hk => ?_,λ hk => ?_⟩
      · have nl : n < od hi x := by
          refine Nat.lt_of_le_of_ne n1 λ z => ?_
          have e : pwC hi x n = oneC hi := by rw [z]; exact pw_od hi x
          have k : (!eqb (cD (pwC hi x n)) (cD (oneC hi))) = true := hk
          rw [e,eqb_iff.mpr rfl] at k
          cases k
        refine do_append 2 rfl (ev_joinedC hi.s Gj hr (ev_ixl (ev_v 2) rfl (ev_neg ev_int) (lastN hi x n0)) (ev_v 0) (cls_J hi.s (pwC hi x n)) xJ (MG.Eqv.refl _) (MG.Eqv.refl _)) (fzC _) (by rw [rdN_len]; omega) (others_of rfl) (do_nil ⟨⟨n + 1,?_,by omega,nl⟩,?_⟩)
        · rw [rdN_succ]
          rfl
        · show od hi x - (rdN hi x n ++ [_]).length < od hi x - (rdN hi x n).length
          rw [List.length_append,rdN_len,List.length_singleton]
          omega
      · have k : (!eqb (cD (pwC hi x n)) (cD (oneC hi))) = false := hk
        have k2 : eqb (cD (pwC hi x n)) (cD (oneC hi)) = true := by simpa using k
        have e := cD_inj (eqb_iff.mp k2)
        have : n = od hi x := by
          refine Nat.le_antisymm n1 (Nat.not_lt.mp λ z => pw_ne hi n0 z e)
        rw [rdD_eq,← this]
    · rintro ρ rfl
      exact do_ret (ev_v 2) ⟨l,rfl⟩ (λ a z => by cases z; exact ⟨2,_,rfl,rfl⟩)
set_option maxHeartbeats 4000000 in
theorem ok_round_of {f : Addr} {fd : FuncData} (Gf : Fn P w K mg base 4 "require_form" p_require_form) (Gb : Fn P w K mg base 5 "bar_of" p_bar_of) (Gq : Fn P w K mg base 4 "require_bar_from" p_require_bar_from) (Ge : Fn P w K mg base 6 "require_bare" p_require_bare) (Gl : FnR P w K mg base 5 "least_of" pre_form post_least_of) (Gc : FnL P w K mg base 9 "round_of_class" p_round_of_class) (C1 : Con K mg "LOWEST_LISTED_BAR" (.int (-4000)))
    (F : Fun K "round_of" "round_of" s_round_of f fd) (hm : mg "round_of" = some (.ref f)) (hb : Binds K fd ["form"] []) : FnL P w K mg base 10 "round_of" p_round_of := by
  refine fnl_mk F sc_round_of hm hb (λ ds es h => ?_) (λ cdv A outer s H E hr ds es h => ?_)
  · obtain ⟨i,h,x,q,rfl,_⟩ := h
    exact ⟨rfl,by simp⟩
  · obtain ⟨i,hi,x,q,rfl,qJ,ex,rfl⟩ := h
    have hr4 := hr.mono (show 4 ≤ 9 by decide)
    have hr5 := hr.mono (show 5 ≤ 9 by decide)
    have hr6 := hr.mono (show 6 ≤ 9 by decide)
    have b1 : q.b * q.b - 4 * q.a * q.c = i := by have := ex.symm.bar; rw [this]; exact x.2.ok.bar
    refine do_expr (ev_call Gf hr4 (ea_cons (ev_v 0) ea_nil) ⟨q.a,q.b,q.c,rfl,qJ.n,rfl⟩) ?_
    refine do_expr (ev_call Gq hr4 (ea_cons (Ev.to (ev_call Gb hr5 (ea_cons (ev_v 0) ea_nil) ⟨q.a,q.b,q.c,rfl,qJ.n,rfl⟩) (congrArg D.int b1)) (ea_cons (ev_con C1) ea_nil)) ⟨i,-4000,rfl,hi.d.neg,hi.d.four,hi.low,rfl⟩) ?_
    refine do_expr (ev_call Ge hr6 (ea_cons (ev_v 0) ea_nil) ⟨q.a,q.b,q.c,rfl,qJ.n,qJ.bare,rfl⟩) ?_
    exact do_retL (evn_call Gc hr (ea_cons (ev_leastC Gl hr5 (ev_v 0) qJ.s ex) ea_nil) ⟨i,hi,x,rfl,rfl⟩) λ l => ⟨l,rfl⟩
set_option maxHeartbeats 4000000 in
theorem ok_every_so_many {f : Addr} {fd : FuncData} (T : Tx mg) (Gd : Fn P w K mg base 1 "common_divisor" p_common_divisor) (F : Fun K "every_so_many" "every_so_many" s_every_so_many f fd) (hm : mg "every_so_many" = some (.ref f)) (hb : Binds K fd ["way", "many"] []) : FnL P w K mg base 2 "every_so_many" p_every := by
  refine fnl_mk F sc_every_so_many hm hb (λ ds es h => ?_) (λ cdv A outer s H E hr ds es h => ?_)
  · obtain ⟨i,h,x,m,rfl,_⟩ := h
    exact ⟨rfl,by simp⟩
  · obtain ⟨i,hi,x,m,rfl,m0,m1,rfl⟩ := h
    have nd := sc_every_so_many.nd
    have op := od_pos hi x
    have ol := od_le hi x
    refine do_set 2 (d := .int (od hi x : Nat)) (Ev.to (ev_len T.len (ev_v 0) rfl) (by rw [rdD_len])) (.int _) ?_ nd
    have g0 : 0 < Nat.gcd (od hi x) m := Nat.gcd_pos_of_pos_left m op
    have gl : Nat.gcd (od hi x) m ≤ od hi x := Nat.gcd_le_left m op
    have eg : ((Int.gcd ((od hi x : Nat) : Int) (m : Int) : Nat) : Int) = ((Nat.gcd (od hi x) m : Nat) : Int) := rfl
    have bg : Bd ((Nat.gcd (od hi x) m : Nat) : Int) 11 := .of_lt (by omega)
    obtain ⟨tn,etn⟩ : ∃ tn : Nat,tn = od hi x / Nat.gcd (od hi x) m := ⟨_,rfl⟩
    have tl : tn ≤ od hi x := by rw [etn]; exact Nat.div_le_self _ _
    refine do_set 3 (d := .int (tn : Int)) (Ev.to (ev_div (ev_v 2) (ev_call Gd hr (ea_cons (ev_v 2) (ea_cons (ev_v 1) ea_nil)) ⟨_,_,rfl,rfl⟩) (by rw [eg]; omega) (by rw [eg]; exact bg)) (by rw [eg,etn]; rfl)) (.int _) ?_ nd
    have ev : (List.range tn).map (λ k => pwC hi x ((m * (k + 1) - 1) % od hi x + 1)) = rd hi (pwC hi x m) := by rw [etn]; exact @MG.every (MG.C i) (grp hi.d) (finC hi) x m m0
    clear etn eg
    have e : rdD hi (pwC hi x m) = ((((List.range (((tn : Int) + 1 - 1).toNat)).map λ (t : Nat) => D.int (1 + t)).filter λ _ => true).map λ d => match d with | .int k => cD (pwC hi x ((((m : Int) * k - 1) % ((od hi x : Nat) : Int)).toNat + 1)) | _ => .non) := by
      unfold rdD
      have ef : ∀ l : List D,(l.filter λ _ => true) = l := λ l => List.filter_eq_self.mpr λ _ _ => rfl
      rw [← ev,ef,List.map_map,List.map_map]
      have e0 : ((tn : Int) + 1 - 1).toNat = tn := by omega
      rw [e0]
      refine List.map_congr_left λ k hk => ?_
      show cD (pwC hi x ((m * (k + 1) - 1) % od hi x + 1)) = cD (pwC hi x ((((m : Int) * (1 + (k : Int)) - 1) % ((od hi x : Nat) : Int)).toNat + 1))
      congr 2
      have p1 : 0 < m * (k + 1) := Nat.mul_pos m0 (Nat.succ_pos k)
      have e1 : (m : Int) * (1 + (k : Int)) - 1 = ((m * (k + 1) - 1 : Nat) : Int) := by
        have : (m : Int) * (1 + (k : Int)) = ((m * (k + 1) : Nat) : Int) := by push_cast; grind
        omega
      rw [e1,← Int.natCast_emod,Int.toNat_natCast]
    rw [e]
    refine do_retL (evn_compC _ ["many", "length", "way"] [1,2,0] (λ _ => true) _ (src_range2 T.range ev_int (ev_add (ev_v 3) ev_int) (by decide) (by decide) (by omega) (by omega)) (by simp; omega) (λ d hd _ => ?_) (λ C s₀ H₀ fp d hd => ets_nil) (λ C s₀ H₀ fp d hd _ => ?_)) λ l => ⟨l,rfl⟩
    · obtain ⟨t,ht,rfl⟩ := List.mem_map.mp hd
      exact fzC _
    · obtain ⟨t,ht,rfl⟩ := List.mem_map.mp hd
      have t1 : t < od hi x := by
        have := List.mem_range.mp ht
        omega
      have r0 := Int.emod_nonneg ((m : Int) * (1 + (t : Int)) - 1) (show ((od hi x : Nat) : Int) ≠ 0 by omega)
      have r1 := Int.emod_lt_of_pos ((m : Int) * (1 + (t : Int)) - 1) (show (0 : Int) < ((od hi x : Nat) : Int) by omega)
      have at' := rdN_get hi x (n := od hi x) (k := (((m : Int) * (1 + (t : Int)) - 1) % ((od hi x : Nat) : Int)).toNat) (by omega)
      rw [← rdD_eq] at at'
      have at2 := L2.atI_nat at'
      rw [Int.toNat_of_nonneg r0] at at2
      have bm : Bd (m : Int) 11 := .of_lt (by omega)
      have bt : Bd (1 + (t : Int)) 12 := .of_lt (by omega)
      exact ev_ixl (ev_v 3) rfl (ev_mod (ev_sub (ev_mul (ev_v 1) (ev_v 0) bm bt) ev_int) (ev_v 2) (by omega)) at2
set_option maxHeartbeats 4000000 in
theorem ok_rounds {f : Addr} {fd : FuncData} (T : Tx mg) (Gc : FnL P w K mg base 8 "classes" p_classes) (Gr : FnL P w K mg base 9 "round_of_class" p_round_of_class) (Ge : FnL P w K mg base 2 "every_so_many" p_every)
    (F : Fun K "rounds" "rounds" s_rounds f fd) (hm : mg "rounds" = some (.ref f)) (hb : Binds K fd ["bar"] []) : FnND P w K mg base 10 "rounds" p_rounds := by
  refine fnnd_mk F sc_rounds hm hb (λ ds t ks vs h => ?_) (λ cdv A outer s H E hr ds t ks vs h => ?_)
  · obtain ⟨i,h,rfl,_⟩ := h
    exact ⟨rfl,by simp⟩
  · obtain ⟨i,hi,rfl,rfl,rfl,rfl⟩ := h
    have nd := sc_rounds.nd
    have hr2 := hr.mono (show 2 ≤ 9 by decide)
    have hr8 := hr.mono (show 8 ≤ 9 by decide)
    refine do_setND 1 evnd_newT (λ d hd => by cases hd) (λ l _ => ?_) nd
    refine do_for 2 (λ n ρ => ∃ u v w z : Option D,(noOwn u && noOwn v && noOwn w && noOwn z) = true ∧ ρ = [some (.int i),some (.dc l true ((rlN hi n).map cD) ((rlN hi n).map (wayD hi))),u,v,w,z])
      (λ ρ => ∃ u v w z : Option D,ρ = [some (.int i),some (.dc l true ((RL hi).map cD) ((RL hi).map (wayD hi))),u,v,w,z]) PassesOwn.never rfl
      (wk_new (evn_call Gc hr8 (ea_cons (ev_v 0) ea_nil) ⟨i,rfl,hi,clsC_D hi⟩) (fzCs _)) (fzCs _) (λ _ _ _ => trivial) ⟨none,none,none,none,rfl,rfl⟩ (λ n d ρ hd ih => ?_) (λ ρ ih => ?_) (λ ρ ih => ?_) nd
    · obtain ⟨x,hx,rfl⟩ := map_at? hd
      obtain ⟨u,v,w',z,hu,rfl⟩ := ih
      have es := rlN_succ hi hx
      simp only [Bool.and_eq_true] at hu
      obtain ⟨⟨⟨_,hv⟩,hw⟩,hz⟩ := hu
      refine do_if (λ ρ => ∃ u v w z : Option D,(noOwn u && noOwn v && noOwn w && noOwn z) = true ∧ ρ = [some (.int i),some (.dc l true ((rlN hi (n + 1)).map cD) ((rlN hi (n + 1)).map (wayD hi))),u,v,w,z]) (et_dnotin hr (ev_v 2) (ev_v 1) rfl (keyTC x)) (λ hk => ?_) (λ hk => do_nil ?_) (λ ρ h => do_nil h)
      · have hn : x ∉ rlN hi n := λ z => by
          have k : (!inK (cD x) ((rlN hi n).map cD)) = true := hk
          rw [inC.mpr z] at k
          cases k
        have es2 : rlN hi (n + 1) = (rd hi x).foldl insC (rlN hi n) := by rw [es]; unfold rlStep; rw [if_neg hn]
        refine do_set 3 (ev_frz (evn_call Gr hr (ea_cons (ev_v 2) ea_nil) ⟨i,hi,x,rfl,rfl⟩) (fzR hi x)) (.fl (fzR hi x)) ?_ nd
        refine do_for2 4 5 (λ k ρ => ∃ w z : Option D,(noOwn w && noOwn z) = true ∧ ρ = [some (.int i),some (.dc l true ((((rd hi x).take k).foldl insC (rlN hi n)).map cD) ((((rd hi x).take k).foldl insC (rlN hi n)).map (wayD hi))),some (cD x),some (.fl (rdD hi x)),w,z])
          (λ ρ => ∃ u v w z : Option D,(noOwn u && noOwn v && noOwn w && noOwn z) = true ∧ ρ = [some (.int i),some (.dc l true ((rlN hi (n + 1)).map cD) ((rlN hi (n + 1)).map (wayD hi))),u,v,w,z]) PassesOwn.never rfl (wk_enum1 T.enumerate (ev_v 3) (fzR hi x)) (fzR hi x) (λ _ _ _ => trivial) ⟨w',z,by rw [hw,hz]; rfl,rfl⟩ (λ k d ρ hd ih => ?_) (λ ρ ih => ?_) (λ ρ ih => do_nil ih) nd
        · obtain ⟨y,hy,rfl⟩ := map_at? hd
          obtain ⟨w2,z2,_,rfl⟩ := ih
          obtain ⟨k1,ey⟩ := rd_get hi hy
          have ek : (1 : Int) + (k : Nat) = ((k + 1 : Nat) : Int) := by omega
          have nL : (((rd hi x).take k).foldl insC (rlN hi n)).Nodup := foldC_nodup _ (rlN_nodup hi n)
          have lL := nd_len hi nL
          refine do_dput 1 hr rfl (ev_v 5) (keyTC y) (ev_frz (evn_call Ge hr2 (ea_cons (ev_v 3) (ea_cons (Ev.to (ev_v 4) (congrArg D.int ek)) ea_nil)) ⟨i,hi,x,k + 1,rfl,Nat.succ_pos k,k1,rfl⟩) (fzR hi _)) (.fl (fzR hi _)) (by rw [List.length_map]; omega) (othersD rfl) (do_nil ⟨some (.int (1 + (k : Nat))),some (cD y),rfl,?_⟩)
          have e2 : D.fl (rdD hi (pwC hi x (k + 1))) = wayD hi y := by rw [ey]; rfl
          rw [e2,putKC,putVC hi nL,take_one hy,List.foldl_append]
          rfl
        · obtain ⟨w2,z2,hw2,rfl⟩ := ih
          refine ⟨some (cD x),some (.fl (rdD hi x)),w2,z2,by simpa [noOwn,ownA] using hw2,?_⟩
          rw [es2,rdD,List.length_map,List.take_length]
      · have hn : x ∈ rlN hi n := by
          have k : (!inK (cD x) ((rlN hi n).map cD)) = false := hk
          exact inC.mp (by simpa using k)
        refine ⟨some (cD x),v,w',z,by rw [hv,hw,hz]; rfl,?_⟩
        rw [es]
        unfold rlStep
        rw [if_pos hn]
        rfl
    · obtain ⟨u,v,w',z,_,rfl⟩ := ih
      refine ⟨u,v,w',z,?_⟩
      rw [List.length_map,rlN_all]
    · obtain ⟨u,v,w',z,rfl⟩ := ih
      exact do_ret (ev_v 1) ⟨l,rfl⟩ (λ a z => by cases z; exact ⟨1,_,rfl,rfl⟩)
set_option maxHeartbeats 2000000 in
theorem ok_row_written {f : Addr} {fd : FuncData} (T : Tx mg) (F : Fun K "row_written" "row_written" s_row_written f fd) (hm : mg "row_written" = some (.ref f)) (hb : Binds K fd ["number", "cells", "width"] []) : Fn P w K mg base 1 "row_written" p_rowS := by
  refine fn_mk F sc_row_written hm hb (λ ds d h => ?_) (λ cdv A outer s H E hr ds d h => ?_)
  · obtain ⟨n,cs,w,rfl,_⟩ := h
    exact ⟨rfl,by simp⟩
  · obtain ⟨n,cs,wd,rfl,hn,hl,hc,w0,w1,rfl⟩ := h
    have l1 := zf_len hn
    have l2 := join_len5 hl hc w0 w1
    have ef : ∀ l : List D,(l.filter λ _ => true) = l := λ l => List.filter_eq_self.mpr λ _ _ => rfl
    have e : (cs.map λ c => Txt.rjust (sI c) wd).map D.str = (((cs.map D.int).filter λ _ => true).map λ d => match d with | .int c => D.str (Txt.rjust (sI c) wd) | _ => .non) := by
      rw [ef,List.map_map,List.map_map]
      rfl
    refine do_ret (ev_catS (ev_zfill (ev_strI T.str (ev_v 0) (log_small (by omega))) ev_int (by decide)) (ev_join (x := emp) ev_str ?comp (joinOk5 hl hc w0 w1)) (fitL (by omega))) rfl
    rw [e]
    refine evn_compC [("width",s.heap.objs.size + 1)] ["width"] [2] (λ _ => true) _ (src_ls (ev_v 1) rfl) (by rw [List.length_map]; omega) (λ d hd _ => ?_) (λ C s₀ H₀ fp d hd => ets_nil) (λ C s₀ H₀ fp d hd _ => ?_)
    · obtain ⟨c,_,rfl⟩ := List.mem_map.mp hd
      exact .str _
    · obtain ⟨c,hc',rfl⟩ := List.mem_map.mp hd
      exact ev_rjust (ev_strI T.str (ev_v 0) (log_small (hc c hc'))) (ev_v 1) (padOk w0 w1)
set_option maxHeartbeats 4000000 in
theorem ok_table {f : Addr} {fd : FuncData} {dv : Value} (T : Tx mg) (G1 : Fn P w K mg base 4 "require_bar_from" p_require_bar_from) (G2 : Fn P w K mg base 2 "require_whole" p_require_whole) (G3 : FnND P w K mg base 10 "rounds" p_rounds) (G4 : FnL P w K mg base 8 "classes" p_classes) (G5 : Fn P w K mg base 8 "genus_of" p_genus) (G6 : Fn P w K mg base 1 "row_written" p_rowS) (C1 : Con K mg "LOWEST_LISTED_BAR" (.int (-4000)))
    (F : FunD K "table" "table" s_table f fd dv) (hm : mg "table" = some (.ref f)) (hb : Binds K fd ["bar", "width"] []) (hb2 : Binds K fd ["bar", "width"] [dv]) (hv : RelV (.int 6) dv) : FnLD P w K mg base 11 "table" 6 p_table := by
  refine fnld_mk F sc_table hm hb hb2 hv (λ ds es h => ?_) (λ cdv A outer s H E hr ds es h => ?_)
  · obtain ⟨i,hi,wd,rfl,_⟩ := h
    exact ⟨rfl,by simp⟩
  · obtain ⟨i,hi,wd,rfl,lo,w0,w1,rfl⟩ := h
    have nd := sc_table.nd
    have hr1 := hr.mono (show 1 ≤ 10 by decide)
    have hr2 := hr.mono (show 2 ≤ 10 by decide)
    have hr4 := hr.mono (show 4 ≤ 10 by decide)
    have hr8 := hr.mono (show 8 ≤ 10 by decide)
    have few := few_cls hi lo
    have rl := rows_len hi wd
    refine do_expr (ev_call G1 hr4 (ea_cons (ev_v 0) (ea_cons (ev_con C1) ea_nil)) ⟨i,-4000,rfl,hi.d.neg,hi.d.four,hi.low,rfl⟩) ?_
    refine do_expr (ev_call G2 hr2 (ea_cons (ev_v 1) ea_nil) ⟨wd,rfl,rfl⟩) ?_
    refine do_set 2 (d := .fd true ((RL hi).map cD) ((RL hi).map (wayD hi))) (ev_frzD (evnd_call G3 hr (ea_cons (ev_v 0) ea_nil) ⟨i,hi,rfl,rfl,rfl,rfl⟩) (fz_wayD hi _)) (.fd (fz_wayD hi _)) ?_ nd
    refine do_setN 3 (evn_list ea_nil) (λ d hd => by cases hd) (λ l _ => ?_) nd
    have fzc : ∀ d ∈ (clsC hi).map cD,Fz d := λ d hd => by
      obtain ⟨y,_,rfl⟩ := List.mem_map.mp hd
      exact fzQ _
    refine do_for2 4 5 (λ t ρ => ∃ u v z : Option D,(noOwn u && noOwn v && noOwn z) = true ∧ ρ = [some (.int i),some (.int wd),some (.fd true ((RL hi).map cD) ((RL hi).map (wayD hi))),some (.lst l (((rowsS hi wd).take t).map D.str)),u,v,z]) (λ ρ => ∃ u v z : Option D,ρ = [some (.int i),some (.int wd),some (.fd true ((RL hi).map cD) ((RL hi).map (wayD hi))),some (.lst l ((rowsS hi wd).map D.str)),u,v,z]) PassesOwn.never rfl
      (wk_enum1 T.enumerate (ev_frz (evn_call G4 hr8 (ea_cons (ev_v 0) ea_nil) ⟨i,rfl,hi,clsC_D hi⟩) fzc) fzc) fzc (λ _ _ _ => trivial) ⟨none,none,none,rfl,rfl⟩ ?_ ?_ ?_ nd
    · rintro t d ρ hd ⟨u,v,z,hno,rfl⟩
      rw [List.getElem?_map] at hd
      obtain ⟨y,hy,rfl⟩ := Option.map_eq_some_iff.mp hd
      have tl := (List.getElem?_eq_some_iff.mp hy).1
      have yJ := cls_J hi.s y
      have gy := QJ.g yJ hi y.2.ok.bar
      have mem : y ∈ RL hi := (rl_perm hi).mem_iff.mpr (mem_clsC hi y)
      have lk := look_map (k := cD) (v := wayD hi) (λ a b h => Subtype.ext (qD_eq h)) mem
      have e1 : (1 : Int) + ((t : Nat) : Int) = ((t + 1 : Nat) : Int) := by omega
      have cs := cells_small hi lo y
      refine do_set 6 (d := .fl ((cellsOf hi y).map D.int)) (ev_frz (evn_list (ea_cons (ev_ix (ev_v 5) ev_int rfl) (ea_cons (ev_ix (ev_v 5) ev_int rfl) (ea_cons (ev_ix (ev_v 5) ev_int rfl) (ea_cons (Ev.to (ev_len T.len (ev_dget hr (ev_v 2) rfl (ev_v 5) (keyTC y) lk) rfl) (by rw [rdD_len])) (ea_cons (ev_call G5 hr8 (ea_cons (ev_v 5) ea_nil) ⟨_,_,_,rfl,gy,yJ.bare,rfl⟩) ea_nil)))))) (fz_int_list _)) (.fl (fz_int_list _)) ?_ nd
      refine do_append 3 rfl (ev_call G6 hr1 (ea_cons (Ev.to (ev_v 4) (congrArg D.int e1)) (ea_cons (ev_v 6) (ea_cons (ev_v 1) ea_nil))) ⟨t,cellsOf hi y,wd,rfl,by omega,by unfold cellsOf; simp,cs,w0,w1,rfl⟩) (.str _) (by rw [List.length_map,List.length_take]; omega) (others_of rfl) (do_nil ⟨some (.int (1 + ((t : Nat) : Int))),some (cD y),some (.fl ((cellsOf hi y).map D.int)),rfl,?_⟩)
      rw [rows_take hi wd hy,List.map_append]
      rfl
    · rintro ρ ⟨u,v,z,hno,rfl⟩
      refine ⟨u,v,z,?_⟩
      rw [List.length_map,← rl,List.take_length]
    · rintro ρ ⟨u,v,z,rfl⟩
      exact do_ret (ev_v 3) ⟨l,rfl⟩ (λ a z => by cases z; exact ⟨3,_,rfl,rfl⟩)
theorem ok_law_cell_at {f : Addr} {fd : FuncData} (T : Tx mg) (F : Fun K "_law_cell_at" "_law_cell_at" s_law_cell_at f fd) (hm : mg "_law_cell_at" = some (.ref f)) (hb : Binds K fd ["_law_script", "_law_k"] []) :
    Fn P w K mg base 1 "_law_cell_at" p_law_cell_at := by
  refine fn_mk F sc_law_cell_at hm hb (λ ds d h => ?_) (λ cdv A outer s H E hr ds d h => ?_)
  · obtain ⟨ns,k,rfl,rfl⟩ := h
    exact ⟨rfl,by simp⟩
  · obtain ⟨ns,k,rfl,rfl⟩ := h
    have e1 : lenD (scrD ns) = some ns.length := by simp [lenD]
    refine do_ifR (et_lt (ev_v 1) (ev_len T.len (ev_v 0) e1)) (λ hk => ?_) (λ hk => ?_)
    · have hk' : k < ns.length := by simpa using hk
      refine do_ret (ev_ixl (d := .int (cell ns k)) (ev_v 0) rfl (ev_v 1) (atI_nat ?_)) rfl
      rw [List.getElem?_map,List.getElem?_eq_getElem hk']
      simp [cell,List.getD,List.getElem?_eq_getElem hk']
    · have hk' : ns.length ≤ k := by simpa using hk
      refine do_ret ev_int ?_
      show D.int 0 = D.int _
      simp [cell,List.getD,List.getElem?_eq_none hk']
set_option maxHeartbeats 2000000 in
theorem ok_law_right {f : Addr} {fd : FuncData} (T : Tx mg) (F : Fun K "_law_right" "_law_right" s_law_right f fd) (hm : mg "_law_right" = some (.ref f)) (hb : Binds K fd ["_law_number", "_law_width"] []) : Fn P w K mg base 1 "_law_right" p_right := by
  refine fn_mk F sc_law_right hm hb (λ ds d h => ?_) (λ cdv A outer s H E hr ds d h => ?_)
  · obtain ⟨i,wd,rfl,_⟩ := h
    exact ⟨rfl,by simp⟩
  · obtain ⟨i,wd,rfl,hi,w0,w1,rfl⟩ := h
    have nd := sc_law_right.nd
    obtain ⟨n,rfl⟩ : ∃ n : Nat,wd = (n : Int) := ⟨wd.toNat,by omega⟩
    rw [rjust_pad]
    have sl := sI_len hi
    refine do_set 2 (ev_strI T.str (ev_v 0) (log_small hi)) (.str _) ?_ nd
    refine do_while (λ ρ => ∃ j : Nat,ρ = [some (.int i),some (.int (n : Int)),some (.str (pad 32 j (sI i)))] ∧ (j = 0 ∨ j + (sI i).length ≤ n)) (λ ρ => ρ = [some (.int i),some (.int (n : Int)),some (.str (pad 32 (n - (sI i).length) (sI i)))]) (λ ρ => n - slen ρ 2) PassesOwn.never ⟨0,by rw [pad_zero]; rfl,.inl rfl⟩ ?_ ?_
    · rintro ρ ⟨j,rfl,hj⟩
      have pl := pad_len 32 j (sI i)
      refine ⟨_,et_lt (ev_len T.len (ev_v 2) (lenS (by omega))) (ev_v 1),λ hk => ?_,λ hk => ?_⟩
      · have hk' : (pad 32 j (sI i)).length < n := by
          have : (((pad 32 j (sI i)).length : Nat) : Int) < (n : Int) := by simpa using hk
          omega
        have ps := pad_len 32 (j + 1) (sI i)
        refine do_set 2 (d := .str (pad 32 (j + 1) (sI i))) (Ev.to (ev_catS ev_str (ev_v 2) (fitL (by rw [show (Str.ofString " ").length = 1 from rfl]; omega))) (congrArg D.str (pad_cons (by decide) j _))) (.str _) (do_nil ⟨⟨j + 1,rfl,.inr (by omega)⟩,?_⟩) nd
        show n - (pad 32 (j + 1) (sI i)).length < n - (pad 32 j (sI i)).length
        omega
      · have hk' : ¬ (pad 32 j (sI i)).length < n := by
          have : ¬ (((pad 32 j (sI i)).length : Nat) : Int) < (n : Int) := by simpa using hk
          omega
        have : j = n - (sI i).length := by omega
        rw [← this]
    · rintro ρ rfl
      exact do_ret (ev_v 2) rfl
set_option maxHeartbeats 16000000 in
theorem ok_law {f : Addr} {fd : FuncData} (T : Tx mg) (Gc : Fn P w K mg base 1 "_law_cell_at" p_law_cell_at) (Gt : FnLD P w K mg base 11 "table" 6 p_table) (Gl : FnL P w K mg base 8 "classes" p_classes) (Gr : Fn P w K mg base 1 "_law_right" p_right) (Go : FnL P w K mg base 10 "round_of" p_round_of) (Gg : Fn P w K mg base 8 "genus_of" p_genus) (F : Fun K "law" "law" s_law f fd) : FnOk P w K mg base CX0 12 f fd ["_law_script"] (SpD K p_law) := by
  refine fn_ok F sc_law (λ ds d h => ?_) (λ cdv A outer s H E hr ds d h => ?_)
  · obtain ⟨ns,rfl,_,_,rfl⟩ := h
    exact ⟨rfl,by simp⟩
  · obtain ⟨ns,rfl,hlen,hs,rfl⟩ := h
    have nd := sc_law.nd
    have hr1 := hr.mono (show 1 ≤ 11 by decide)
    have hr8 := hr.mono (show 8 ≤ 11 by decide)
    have hr10 := hr.mono (show 10 ≤ 11 by decide)
    refine do_set 1 ev_int (.int _) ?_ nd
    refine do_if (λ ρ => ∃ lo : Int,ρ = [some (scrD ns),some (.int lo),none,none,none,none,none,none,none,none,none,none] ∧ 130 ≤ lo ∧ lo ≤ 1200) (et_eq (ev_mod (ev_call Gc hr1 (ea_cons (ev_v 0) (ea_cons ev_int ea_nil)) ⟨ns,3,rfl,rfl⟩) ev_int (by decide)) ev_int) (λ _ => do_set 1 ev_int (.int _) (do_nil ⟨1200,rfl,by decide,by decide⟩) nd) (λ _ => do_nil ⟨130,rfl,by decide,by decide⟩) ?_
    rintro ρ ⟨lo,rfl,lo0,lo1⟩
    refine do_set 2 (ev_add ev_int (ev_mod (ev_call Gc hr1 (ea_cons (ev_v 0) (ea_cons ev_int ea_nil)) ⟨ns,0,rfl,rfl⟩) ev_int (by decide))) (.int _) ?_ nd
    have a0 := Int.emod_nonneg (cell ns 0) (show (5 : Int) ≠ 0 by decide)
    have a1 := Int.emod_lt_of_pos (cell ns 0) (show (0 : Int) < 5 by decide)
    obtain ⟨a,ea,pa,la⟩ : ∃ a : Int,1 + cell ns 0 % 5 = a ∧ 0 < a ∧ a ≤ 5 := ⟨_,rfl,by omega,by omega⟩
    rw [ea]
    clear ea a0 a1
    have ba : Bd a 3 := .of_lt (by omega)
    refine do_set 3 (ev_sub (ev_v 2) (ev_mod (ev_call Gc hr1 (ea_cons (ev_v 0) (ea_cons ev_int ea_nil)) ⟨ns,1,rfl,rfl⟩) (ev_mul ev_int (ev_v 2) bd_2 ba) (by omega))) (.int _) ?_ nd
    have r0 := Int.emod_nonneg (cell ns 1) (show 2 * a ≠ 0 by omega)
    have r1 := Int.emod_lt_of_pos (cell ns 1) (show 0 < 2 * a by omega)
    obtain ⟨b,eb,b0,b1⟩ : ∃ b : Int,a - cell ns 1 % (2 * a) = b ∧ -a < b ∧ b ≤ a := ⟨_,rfl,by omega,by omega⟩
    rw [eb]
    clear eb r0 r1
    have bb : Bd b 3 := .of_lt (by omega)
    have sq0 : 0 ≤ b * b := MT.sq_nonneg b
    have sq1 : b * b ≤ a * a := sqLe (by omega) b1
    have aa : a * a ≤ 25 := by
      have := sqLe (a := 5) (b := a) (by omega) la
      omega
    have den : 0 < 4 * a := by omega
    have q0 : a ≤ (lo + b * b) / (4 * a) := by
      refine (Int.le_ediv_iff_mul_le den).mpr ?_
      have : a * (4 * a) = 4 * (a * a) := by grind
      omega
    have q1 : (lo + b * b) / (4 * a) * (4 * a) ≤ lo + b * b := Int.ediv_mul_le _ (by omega)
    have q2 : (lo + b * b) / (4 * a) ≤ 306 := by
      refine Int.not_lt.mp λ z => ?_
      have h2 : (lo + b * b) / (4 * a) * 4 ≤ (lo + b * b) / (4 * a) * (4 * a) := Int.mul_le_mul_of_nonneg_left (by omega) (by omega)
      omega
    refine do_set 4 (ev_add (ev_v 2) (ev_mod (ev_call Gc hr1 (ea_cons (ev_v 0) (ea_cons ev_int ea_nil)) ⟨ns,2,rfl,rfl⟩) (ev_add (ev_sub (ev_div (ev_add (ev_v 1) (ev_mul (ev_v 3) (ev_v 3) bb bb)) (ev_mul ev_int (ev_v 2) bd_4 ba) (by omega) (Bd.of_lt (m := 6) (by omega))) (ev_v 2)) ev_int) (by omega))) (.int _) ?_ nd
    generalize (lo + b * b) / (4 * a) = q at *
    have s0 := Int.emod_nonneg (cell ns 2) (show q - a + 1 ≠ 0 by omega)
    have s1 := Int.emod_lt_of_pos (cell ns 2) (show 0 < q - a + 1 by omega)
    obtain ⟨c,ec,c0,c1⟩ : ∃ c : Int,a + cell ns 2 % (q - a + 1) = c ∧ a ≤ c ∧ c ≤ q := ⟨_,rfl,by omega,by omega⟩
    rw [ec]
    clear ec s0 s1
    have bar0 : 4 * a * c ≤ lo + b * b := by
      have : c * (4 * a) ≤ q * (4 * a) := Int.mul_le_mul_of_nonneg_right c1 (by omega)
      have e : 4 * a * c = c * (4 * a) := by grind
      omega
    have bc : Bd c 9 := .of_lt (by omega)
    have s2 : a * a ≤ a * c := Int.mul_le_mul_of_nonneg_left c0 (by omega)
    have s3 : 0 < a * a := Int.mul_pos pa pa
    have s4 : 4 * a * c = 4 * (a * c) := by grind
    refine do_set 5 (ev_sub (ev_mul (ev_v 3) (ev_v 3) bb bb) (ev_mul (ev_mul ev_int (ev_v 2) bd_4 ba) (ev_v 4) (Bd.mul bd_4 ba 6 (by decide)) bc)) (.int _) ?_ nd
    have hi : BarL (b * b - 4 * a * c) := ⟨⟨by omega,bar_mod a b c⟩,by omega⟩
    have low : -1225 ≤ b * b - 4 * a * c := by omega
    generalize b * b - 4 * a * c = i at *
    clear bar0 s2 s3 s4 sq0 sq1 aa q0 q1 q2 den
    have few := few_cls hi low
    refine do_set 6 (ev_mod (ev_call Gc hr1 (ea_cons (ev_v 0) (ea_cons ev_int ea_nil)) ⟨ns,4,rfl,rfl⟩) ev_int (by decide)) (.int _) ?_ nd
    refine do_if (λ ρ => ∃ wd : Int,ρ = [some (scrD ns),some (.int lo),some (.int a),some (.int b),some (.int c),some (.int i),some (.int wd),none,none,none,none,none] ∧ 0 ≤ wd ∧ wd ≤ 100) (et_eq (ev_mod (ev_div (ev_call Gc hr1 (ea_cons (ev_v 0) (ea_cons ev_int ea_nil)) ⟨ns,4,rfl,rfl⟩) ev_int (by decide) bd_10) ev_int (by decide)) ev_int)
      (λ _ => do_set 6 (ev_sub ev_int (ev_mod (ev_div (ev_call Gc hr1 (ea_cons (ev_v 0) (ea_cons ev_int ea_nil)) ⟨ns,4,rfl,rfl⟩) ev_int (by decide) (Bd.lit (m := 7))) ev_int (by decide))) (.int _) (do_nil ⟨_,rfl,by omega,by omega⟩) nd) (λ _ => do_nil ⟨_,rfl,by omega,by omega⟩) ?_
    rintro ρ ⟨wd,rfl,w0,w1⟩
    refine do_set 7 (ev_frz (evn_call Gt.l hr (ea_cons (ev_v 5) (ea_cons (ev_v 6) ea_nil)) ⟨i,hi,wd,rfl,low,w0,w1,rfl⟩) (fz_strs _)) (.fl (fz_strs _)) ?_ nd
    refine do_if (λ ρ => ∃ wd : Int,ρ = [some (scrD ns),some (.int lo),some (.int a),some (.int b),some (.int c),some (.int i),some (.int wd),some (.fl ((rowsS hi wd).map D.str)),none,none,none,none] ∧ 0 ≤ wd ∧ wd ≤ 100) (et_eq (ev_mod (ev_call Gc hr1 (ea_cons (ev_v 0) (ea_cons ev_int ea_nil)) ⟨ns,5,rfl,rfl⟩) ev_int (by decide)) ev_int)
      (λ _ => do_set 6 ev_int (.int _) (do_set 7 (ev_frz (evn_callD Gt hr (ea_cons (ev_v 5) ea_nil) ⟨i,hi,6,rfl,low,by decide,by decide,rfl⟩) (fz_strs _)) (.fl (fz_strs _)) (do_nil ⟨6,rfl,by decide,by decide⟩) nd) nd) (λ _ => do_nil ⟨wd,rfl,w0,w1⟩) ?_
    clear w0 w1 wd
    rintro ρ ⟨wd,rfl,w0,w1⟩
    have fzc : ∀ d ∈ (clsC hi).map cD,Fz d := λ d hd => by
      obtain ⟨y,_,rfl⟩ := List.mem_map.mp hd
      exact fzQ _
    refine do_set 8 (ev_frz (evn_call Gl hr8 (ea_cons (ev_v 5) ea_nil) ⟨i,rfl,hi,clsC_D hi⟩) fzc) (.fl fzc) ?_ nd
    have rl := rows_len hi wd
    refine do_ifF (et_w (ew_orF (et_notT (et_val (ev_isi T.isi (ev_v 7) T.list bo_list rfl kit_s))) (ew_or1 (Et.ff (et_ne (ev_len T.len (ev_v 7) rfl) (ev_len T.len (ev_v 8) rfl)) (by rw [List.length_map,List.length_map,rl]))))) ?_
    refine do_for 9 (λ t ρ => ∃ u v z : Option D,ρ = [some (scrD ns),some (.int lo),some (.int a),some (.int b),some (.int c),some (.int i),some (.int wd),some (.fl ((rowsS hi wd).map D.str)),some (.fl ((clsC hi).map cD)),u,v,z]) (λ _ => True) PassesOwn.never rfl
      (wk_range1 T.range (ev_len T.len (ev_v 8) rfl) (by omega) (by rw [List.length_map]; omega)) (λ d hd => ?_) (λ _ _ _ => trivial) ⟨none,none,none,rfl⟩ ?_ (λ _ _ => trivial) (λ ρ _ => do_ret ev_bl rfl) nd
    · obtain ⟨z,_,rfl⟩ := List.mem_map.mp hd
      exact .int _
    · rintro t d ρ hd ⟨u,v,z,rfl⟩
      rw [List.getElem?_map] at hd
      obtain ⟨t',ht,rfl⟩ := Option.map_eq_some_iff.mp hd
      have hlt := (List.getElem?_eq_some_iff.mp ht).1
      rw [List.length_range] at hlt
      have e3 : t' = t := by
        rw [List.getElem?_range hlt] at ht
        exact (Option.some.inj ht).symm
      subst e3
      have tl : t' < (clsC hi).length := by
        rw [Int.toNat_natCast,List.length_map] at hlt
        exact hlt
      have hy := List.getElem?_eq_getElem tl
      generalize (clsC hi)[t'] = y at hy
      have ez : (0 : Int) + (t' : Int) = (t' : Int) := Int.zero_add _
      rw [ez]
      have yJ := cls_J hi.s y
      have gy := QJ.g yJ hi y.2.ok.bar
      have cs := cells_small hi low y
      have cat : L2.atI ((clsC hi).map cD) (t' : Int) = some (cD y) := L2.atI_nat (by rw [List.getElem?_map,hy]; rfl)
      have fat : L2.atI ((rowsS hi wd).map D.str) (t' : Int) = some (.str (rowS ((t' + 1 : Nat) : Int) (cellsOf hi y) wd)) := L2.atI_nat (by rw [List.getElem?_map,rows_get hi wd hy]; rfl)
      obtain ⟨zp,zl⟩ := zf_pad t' (by omega)
      have zl3 := zf_len (n := t') (by omega)
      have erow : rowS ((t' + 1 : Nat) : Int) (cellsOf hi y) wd = Txt.zfill (sI ((t' + 1 : Nat) : Int)) 3 ++ Txt.rjust (sI y.1.a) wd ++ Txt.rjust (sI y.1.b) wd ++ Txt.rjust (sI y.1.c) wd ++ Txt.rjust (sI ((od hi y : Nat) : Int)) wd ++ Txt.rjust (sI ((MY.gn (mi y.1.a y.1.b y.1.c) : Nat) : Int)) wd := row_five _ _ _ _ _ _ _
      have hA := cs y.1.a (by unfold cellsOf; simp)
      have hB := cs y.1.b (by unfold cellsOf; simp)
      have hC := cs y.1.c (by unfold cellsOf; simp)
      have hO := cs ((od hi y : Nat) : Int) (by unfold cellsOf; simp)
      have hG := cs ((MY.gn (mi y.1.a y.1.b y.1.c) : Nat) : Int) (by unfold cellsOf; simp)
      have lA := rj_len hA w0 w1
      have lB := rj_len hB w0 w1
      have lC := rj_len hC w0 w1
      have lO := rj_len hO w0 w1
      have lG := rj_len hG w0 w1
      have e1 : (t' : Int) + 1 = ((t' + 1 : Nat) : Int) := by omega
      refine do_set 10 (d := .str (sI ((t' + 1 : Nat) : Int))) (ev_strI T.str (Ev.to (ev_add (ev_v 9) ev_int) (congrArg D.int e1)) (log_small (by omega))) (.str _) ?_ nd
      refine do_while (λ ρ => ∃ j : Nat,ρ = [some (scrD ns),some (.int lo),some (.int a),some (.int b),some (.int c),some (.int i),some (.int wd),some (.fl ((rowsS hi wd).map D.str)),some (.fl ((clsC hi).map cD)),some (.int (t' : Int)),some (.str (pad 48 j (sI ((t' + 1 : Nat) : Int)))),z] ∧ j + (sI ((t' + 1 : Nat) : Int)).length ≤ 3) (λ ρ => ρ = [some (scrD ns),some (.int lo),some (.int a),some (.int b),some (.int c),some (.int i),some (.int wd),some (.fl ((rowsS hi wd).map D.str)),some (.fl ((clsC hi).map cD)),some (.int (t' : Int)),some (.str (Txt.zfill (sI ((t' + 1 : Nat) : Int)) 3)),z]) (λ ρ => 3 - slen ρ 10) PassesOwn.never ⟨0,by rw [pad_zero]; rfl,by omega⟩ ?_ ?_
      · rintro ρ ⟨j,rfl,hj⟩
        have pl := pad_len 48 j (sI ((t' + 1 : Nat) : Int))
        refine ⟨_,et_lt (ev_len T.len (ev_v 10) (lenS (by omega))) ev_int,λ hk => ?_,λ hk => ?_⟩
        · have hk' : (pad 48 j (sI ((t' + 1 : Nat) : Int))).length < 3 := by
            have : (((pad 48 j (sI ((t' + 1 : Nat) : Int))).length : Nat) : Int) < 3 := of_decide_eq_true hk
            omega
          have ps := pad_len 48 (j + 1) (sI ((t' + 1 : Nat) : Int))
          refine do_set 10 (d := .str (pad 48 (j + 1) (sI ((t' + 1 : Nat) : Int)))) (Ev.to (ev_catS ev_str (ev_v 10) (fitL (by rw [show (Str.ofString "0").length = 1 from rfl]; omega))) (congrArg D.str (pad_cons (by decide) j _))) (.str _) (do_nil ⟨⟨j + 1,rfl,by omega⟩,?_⟩) nd
          show 3 - (pad 48 (j + 1) (sI ((t' + 1 : Nat) : Int))).length < 3 - (pad 48 j (sI ((t' + 1 : Nat) : Int))).length
          omega
        · have hk' : ¬ (pad 48 j (sI ((t' + 1 : Nat) : Int))).length < 3 := by
            have : ¬ (((pad 48 j (sI ((t' + 1 : Nat) : Int))).length : Nat) : Int) < 3 := of_decide_eq_false hk
            omega
          have : j = 3 - (sI ((t' + 1 : Nat) : Int)).length := by omega
          rw [zp,← this]
      · rintro ρ rfl
        clear zp zl
        generalize Txt.zfill (sI ((t' + 1 : Nat) : Int)) 3 = Z at *
        generalize hRA : Txt.rjust (sI y.1.a) wd = RA at *
        generalize hRB : Txt.rjust (sI y.1.b) wd = RB at *
        generalize hRC : Txt.rjust (sI y.1.c) wd = RC at *
        refine do_for 11 (λ j ρ => ∃ u : Option D,ρ = [some (scrD ns),some (.int lo),some (.int a),some (.int b),some (.int c),some (.int i),some (.int wd),some (.fl ((rowsS hi wd).map D.str)),some (.fl ((clsC hi).map cD)),some (.int (t' : Int)),some (.str (match j with | 0 => Z | 1 => Z ++ RA | 2 => Z ++ RA ++ RB | _ => Z ++ RA ++ RB ++ RC)),u]) (λ ρ => ∃ u : Option D,ρ = [some (scrD ns),some (.int lo),some (.int a),some (.int b),some (.int c),some (.int i),some (.int wd),some (.fl ((rowsS hi wd).map D.str)),some (.fl ((clsC hi).map cD)),some (.int (t' : Int)),some (.str (Z ++ RA ++ RB ++ RC)),u]) PassesOwn.never rfl
          (wk_tup (ds := [.int y.1.a,.int y.1.b,.int y.1.c]) (ev_ixl (ev_v 8) rfl (ev_v 9) cat) (fz3 _ _ _).tup_inv) (fz3 _ _ _).tup_inv (λ _ _ _ => trivial) ⟨z,rfl⟩ ?_ ?_ ?_ nd
        · rintro j d ρ hd ⟨u,rfl⟩
          match j,hd with
          | 0,hd =>
            cases hd
            exact do_set 10 (ev_catS (ev_v 10) (Ev.to (ev_call Gr hr1 (ea_cons (ev_v 11) (ea_cons (ev_v 6) ea_nil)) ⟨_,_,rfl,hA,w0,w1,rfl⟩) (congrArg D.str hRA)) (fitL (by omega))) (.str _) (do_nil ⟨_,rfl⟩) nd
          | 1,hd =>
            cases hd
            exact do_set 10 (ev_catS (ev_v 10) (Ev.to (ev_call Gr hr1 (ea_cons (ev_v 11) (ea_cons (ev_v 6) ea_nil)) ⟨_,_,rfl,hB,w0,w1,rfl⟩) (congrArg D.str hRB)) (fitL (by rw [app_len]; omega))) (.str _) (do_nil ⟨_,rfl⟩) nd
          | 2,hd =>
            cases hd
            exact do_set 10 (ev_catS (ev_v 10) (Ev.to (ev_call Gr hr1 (ea_cons (ev_v 11) (ea_cons (ev_v 6) ea_nil)) ⟨_,_,rfl,hC,w0,w1,rfl⟩) (congrArg D.str hRC)) (fitL (by rw [app_len,app_len]; omega))) (.str _) (do_nil ⟨_,rfl⟩) nd
          | n + 3,hd => simp at hd
        · rintro ρ ⟨u,rfl⟩
          exact ⟨u,rfl⟩
        · rintro ρ ⟨u,rfl⟩
          refine do_set 10 (ev_catS (ev_catS (ev_v 10) (ev_call Gr hr1 (ea_cons (Ev.to (ev_len T.len (EvN.ev (evn_call Go hr10 (ea_cons (ev_ixl (ev_v 8) rfl (ev_v 9) cat) ea_nil) ⟨i,hi,y,y.1,rfl,yJ,MG.Eqv.refl _,rfl⟩)) rfl) (by rw [rdD_len])) (ea_cons (ev_v 6) ea_nil)) ⟨_,_,rfl,hO,w0,w1,rfl⟩) (fitL (by rw [app_len,app_len,app_len]; omega))) (ev_call Gr hr1 (ea_cons (ev_call Gg hr8 (ea_cons (ev_ixl (ev_v 8) rfl (ev_v 9) cat) ea_nil) ⟨_,_,_,rfl,gy,yJ.bare,rfl⟩) (ea_cons (ev_v 6) ea_nil)) ⟨_,_,rfl,hG,w0,w1,rfl⟩) (fitL (by rw [app_len,app_len,app_len,app_len]; omega))) (.str _) ?_ nd
          rw [erow] at fat
          refine do_ifF (et_w (ew_orF (et_notT (et_val (ev_isi T.isi (ev_ixl (ev_v 7) rfl (ev_v 9) fat) T.str bo_str rfl kit_s))) (ew_or1 (Et.ff (et_neS (ev_ixl (ev_v 7) rfl (ev_v 9) fat) (ev_v 10)) rfl)))) ?_
          exact do_nil ⟨_,_,_,rfl⟩
end
theorem all_mk {l : PySem.W.OpenLaw} {w : World} {K : PySem.W.Frag} {h : Heap} {mg : Str→Option Value} {fa f0 f1 f2 f3 f4 f5 f6 f7 f8 f9 f10 f11 f12 f13 f14 f15 f16 f17 f18 f19 f20 f21 f22 f23 f24 f25 f26 f27 f28 f29 f30 f31 f32 f33 f34 f35 f36 f37 f38 f39 f40 f41 f42 f43 f44 f45 f46 f47 f48 f49 f50 f51 f52 f53 f54 : Addr} (X : K.In h) (G : h.Ns mainGlobals mg) (hfa : mg "law" = some (.ref fa))
    {od0 an0 od1 an1 od2 an2 od3 an3 od4 an4 od5 an5 od6 an6 od7 an7 od8 an8 od9 an9 od10 an10 od11 an11 od12 an12 od13 an13 od14 an14 od15 an15 od16 an16 od17 an17 od18 an18 od19 an19 od20 an20 od21 an21 od22 an22 od23 an23 od24 an24 od25 an25 od26 an26 od27 an27 od28 an28 od29 an29 od30 an30 od31 an31 od32 an32 od33 an33 od34 an34 od35 an35 od36 an36 od37 an37 od38 an38 od39 an39 od40 an40 od41 an41 od42 an42 od43 an43 od44 an44 od45 an45 od46 an46 od47 an47 od48 an48 od49 an49 od50 an50 od51 an51 od52 an52 od53 an53 od54 an54 : Option Addr} {sl0 sl1 sl2 sl3 sl4 sl5 sl6 sl7 sl8 sl9 sl10 sl11 sl12 sl13 sl14 sl15 sl16 sl17 sl18 sl19 sl20 sl21 sl22 sl23 sl24 sl25 sl26 sl27 sl28 sl29 sl30 sl31 sl32 sl33 sl34 sl35 sl36 sl37 sl38 sl39 sl40 sl41 sl42 sl43 sl44 sl45 sl46 sl47 sl48 sl49 sl50 sl51 sl52 sl53 sl54 : Array (Option Value)} {oc0 kV0 dc0 pm0 cd0 ct0 oc1 kV1 dc1 pm1 cd1 ct1 oc2 kV2 dc2 pm2 cd2 ct2 oc3 kV3 dc3 pm3 cd3 ct3 oc4 kV4 dc4 pm4 cd4 ct4 oc5 kV5 dc5 pm5 cd5 ct5 oc6 kV6 dc6 pm6 cd6 ct6 oc7 kV7 dc7 pm7 cd7 ct7 oc8 kV8 dc8 pm8 cd8 ct8 oc9 kV9 dc9 pm9 cd9 ct9 oc10 kV10 dc10 pm10 cd10 ct10 oc11 kV11 dc11 pm11 cd11 ct11 oc12 kV12 dc12 pm12 cd12 ct12 oc13 kV13 dc13 pm13 cd13 ct13 oc14 kV14 dc14 pm14 cd14 ct14 oc15 kV15 dc15 pm15 cd15 ct15 oc16 kV16 dc16 pm16 cd16 ct16 oc17 kV17 dc17 pm17 cd17 ct17 oc18 kV18 dc18 pm18 cd18 ct18 oc19 kV19 dc19 pm19 cd19 ct19 oc20 kV20 dc20 pm20 cd20 ct20 oc21 kV21 dc21 pm21 cd21 ct21 oc22 kV22 dc22 pm22 cd22 ct22 oc23 kV23 dc23 pm23 cd23 ct23 oc24 kV24 dc24 pm24 cd24 ct24 oc25 kV25 dc25 pm25 cd25 ct25 oc26 kV26 dc26 pm26 cd26 ct26 oc27 kV27 dc27 pm27 cd27 ct27 oc28 kV28 dc28 pm28 cd28 ct28 oc29 kV29 dc29 pm29 cd29 ct29 oc30 kV30 dc30 pm30 cd30 ct30 oc31 kV31 dc31 pm31 cd31 ct31 oc32 kV32 dc32 pm32 cd32 ct32 oc33 kV33 dc33 pm33 cd33 ct33 oc34 kV34 dc34 pm34 cd34 ct34 oc35 kV35 dc35 pm35 cd35 ct35 oc36 kV36 dc36 pm36 cd36 ct36 oc37 kV37 dc37 pm37 cd37 ct37 oc38 kV38 dc38 pm38 cd38 ct38 oc39 kV39 dc39 pm39 cd39 ct39 oc40 kV40 dc40 pm40 cd40 ct40 oc41 kV41 dc41 pm41 cd41 ct41 oc42 kV42 dc42 pm42 cd42 ct42 oc43 kV43 dc43 pm43 cd43 ct43 oc44 kV44 dc44 pm44 cd44 ct44 oc45 kV45 dc45 pm45 cd45 ct45 oc46 kV46 dc46 pm46 cd46 ct46 oc47 kV47 dc47 pm47 cd47 ct47 oc48 kV48 dc48 pm48 cd48 ct48 oc49 kV49 dc49 pm49 cd49 ct49 oc50 kV50 dc50 pm50 cd50 ct50 oc51 kV51 dc51 pm51 cd51 ct51 oc52 kV52 dc52 pm52 cd52 ct52 oc53 kV53 dc53 pm53 cd53 ct53 oc54 kV54 dc54 pm54 cd54 ct54 : Value}
    (a0 : PySem.W.nsIn K mainGlobals "is_whole" = some (some (.ref f0))) (l0 : K.lookup f0 = some ⟨oc0,od0,.func (PySem.W.fnOf "is_whole" "is_whole" (defArgs s_is_whole) (defBody s_is_whole) (defScope s_is_whole) .none kV0 dc0 pm0 an0 cd0 ct0),sl0⟩) (c0 : PySem.W.codeIn K cd0 "is_whole" = true) (k0 : PySem.W.keepIn K (.ref f0) = true)
    (a1 : PySem.W.nsIn K mainGlobals "is_whole_tuple" = some (some (.ref f1))) (l1 : K.lookup f1 = some ⟨oc1,od1,.func (PySem.W.fnOf "is_whole_tuple" "is_whole_tuple" (defArgs s_is_whole_tuple) (defBody s_is_whole_tuple) (defScope s_is_whole_tuple) .none kV1 dc1 pm1 an1 cd1 ct1),sl1⟩) (c1 : PySem.W.codeIn K cd1 "is_whole_tuple" = true) (k1 : PySem.W.keepIn K (.ref f1) = true)
    (a2 : PySem.W.nsIn K mainGlobals "is_bar" = some (some (.ref f2))) (l2 : K.lookup f2 = some ⟨oc2,od2,.func (PySem.W.fnOf "is_bar" "is_bar" (defArgs s_is_bar) (defBody s_is_bar) (defScope s_is_bar) .none kV2 dc2 pm2 an2 cd2 ct2),sl2⟩) (c2 : PySem.W.codeIn K cd2 "is_bar" = true) (k2 : PySem.W.keepIn K (.ref f2) = true)
    (a3 : PySem.W.nsIn K mainGlobals "require_bar" = some (some (.ref f3))) (l3 : K.lookup f3 = some ⟨oc3,od3,.func (PySem.W.fnOf "require_bar" "require_bar" (defArgs s_require_bar) (defBody s_require_bar) (defScope s_require_bar) .none kV3 dc3 pm3 an3 cd3 ct3),sl3⟩) (c3 : PySem.W.codeIn K cd3 "require_bar" = true) (k3 : PySem.W.keepIn K (.ref f3) = true)
    (a4 : PySem.W.nsIn K mainGlobals "require_bar_from" = some (some (.ref f4))) (l4 : K.lookup f4 = some ⟨oc4,od4,.func (PySem.W.fnOf "require_bar_from" "require_bar_from" (defArgs s_require_bar_from) (defBody s_require_bar_from) (defScope s_require_bar_from) .none kV4 dc4 pm4 an4 cd4 ct4),sl4⟩) (c4 : PySem.W.codeIn K cd4 "require_bar_from" = true) (k4 : PySem.W.keepIn K (.ref f4) = true)
    (a5 : PySem.W.nsIn K mainGlobals "require_whole" = some (some (.ref f5))) (l5 : K.lookup f5 = some ⟨oc5,od5,.func (PySem.W.fnOf "require_whole" "require_whole" (defArgs s_require_whole) (defBody s_require_whole) (defScope s_require_whole) .none kV5 dc5 pm5 an5 cd5 ct5),sl5⟩) (c5 : PySem.W.codeIn K cd5 "require_whole" = true) (k5 : PySem.W.keepIn K (.ref f5) = true)
    (a6 : PySem.W.nsIn K mainGlobals "common_divisor" = some (some (.ref f6))) (l6 : K.lookup f6 = some ⟨oc6,od6,.func (PySem.W.fnOf "common_divisor" "common_divisor" (defArgs s_common_divisor) (defBody s_common_divisor) (defScope s_common_divisor) .none kV6 dc6 pm6 an6 cd6 ct6),sl6⟩) (c6 : PySem.W.codeIn K cd6 "common_divisor" = true) (k6 : PySem.W.keepIn K (.ref f6) = true)
    (a7 : PySem.W.nsIn K mainGlobals "divisor_with_shares" = some (some (.ref f7))) (l7 : K.lookup f7 = some ⟨oc7,od7,.func (PySem.W.fnOf "divisor_with_shares" "divisor_with_shares" (defArgs s_divisor_with_shares) (defBody s_divisor_with_shares) (defScope s_divisor_with_shares) .none kV7 dc7 pm7 an7 cd7 ct7),sl7⟩) (c7 : PySem.W.codeIn K cd7 "divisor_with_shares" = true) (k7 : PySem.W.keepIn K (.ref f7) = true)
    (a8 : PySem.W.nsIn K mainGlobals "prime_factors" = some (some (.ref f8))) (l8 : K.lookup f8 = some ⟨oc8,od8,.func (PySem.W.fnOf "prime_factors" "prime_factors" (defArgs s_prime_factors) (defBody s_prime_factors) (defScope s_prime_factors) .none kV8 dc8 pm8 an8 cd8 ct8),sl8⟩) (c8 : PySem.W.codeIn K cd8 "prime_factors" = true) (k8 : PySem.W.keepIn K (.ref f8) = true)
    (a9 : PySem.W.nsIn K mainGlobals "prime_divisors" = some (some (.ref f9))) (l9 : K.lookup f9 = some ⟨oc9,od9,.func (PySem.W.fnOf "prime_divisors" "prime_divisors" (defArgs s_prime_divisors) (defBody s_prime_divisors) (defScope s_prime_divisors) .none kV9 dc9 pm9 an9 cd9 ct9),sl9⟩) (c9 : PySem.W.codeIn K cd9 "prime_divisors" = true) (k9 : PySem.W.keepIn K (.ref f9) = true)
    (a10 : PySem.W.nsIn K mainGlobals "power_by" = some (some (.ref f10))) (l10 : K.lookup f10 = some ⟨oc10,od10,.func (PySem.W.fnOf "power_by" "power_by" (defArgs s_power_by) (defBody s_power_by) (defScope s_power_by) .none kV10 dc10 pm10 an10 cd10 ct10),sl10⟩) (c10 : PySem.W.codeIn K cd10 "power_by" = true) (k10 : PySem.W.keepIn K (.ref f10) = true)
    (a11 : PySem.W.nsIn K mainGlobals "leaves_square" = some (some (.ref f11))) (l11 : K.lookup f11 = some ⟨oc11,od11,.func (PySem.W.fnOf "leaves_square" "leaves_square" (defArgs s_leaves_square) (defBody s_leaves_square) (defScope s_leaves_square) .none kV11 dc11 pm11 an11 cd11 ct11),sl11⟩) (c11 : PySem.W.codeIn K cd11 "leaves_square" = true) (k11 : PySem.W.keepIn K (.ref f11) = true)
    (a12 : PySem.W.nsIn K mainGlobals "bar_of_numbers" = some (some (.ref f12))) (l12 : K.lookup f12 = some ⟨oc12,od12,.func (PySem.W.fnOf "bar_of_numbers" "bar_of_numbers" (defArgs s_bar_of_numbers) (defBody s_bar_of_numbers) (defScope s_bar_of_numbers) .none kV12 dc12 pm12 an12 cd12 ct12),sl12⟩) (c12 : PySem.W.codeIn K cd12 "bar_of_numbers" = true) (k12 : PySem.W.keepIn K (.ref f12) = true)
    (a13 : PySem.W.nsIn K mainGlobals "is_form" = some (some (.ref f13))) (l13 : K.lookup f13 = some ⟨oc13,od13,.func (PySem.W.fnOf "is_form" "is_form" (defArgs s_is_form) (defBody s_is_form) (defScope s_is_form) .none kV13 dc13 pm13 an13 cd13 ct13),sl13⟩) (c13 : PySem.W.codeIn K cd13 "is_form" = true) (k13 : PySem.W.keepIn K (.ref f13) = true)
    (a14 : PySem.W.nsIn K mainGlobals "require_form" = some (some (.ref f14))) (l14 : K.lookup f14 = some ⟨oc14,od14,.func (PySem.W.fnOf "require_form" "require_form" (defArgs s_require_form) (defBody s_require_form) (defScope s_require_form) .none kV14 dc14 pm14 an14 cd14 ct14),sl14⟩) (c14 : PySem.W.codeIn K cd14 "require_form" = true) (k14 : PySem.W.keepIn K (.ref f14) = true)
    (a15 : PySem.W.nsIn K mainGlobals "bar_of" = some (some (.ref f15))) (l15 : K.lookup f15 = some ⟨oc15,od15,.func (PySem.W.fnOf "bar_of" "bar_of" (defArgs s_bar_of) (defBody s_bar_of) (defScope s_bar_of) .none kV15 dc15 pm15 an15 cd15 ct15),sl15⟩) (c15 : PySem.W.codeIn K cd15 "bar_of" = true) (k15 : PySem.W.keepIn K (.ref f15) = true)
    (a16 : PySem.W.nsIn K mainGlobals "worth" = some (some (.ref f16))) (l16 : K.lookup f16 = some ⟨oc16,od16,.func (PySem.W.fnOf "worth" "worth" (defArgs s_worth) (defBody s_worth) (defScope s_worth) .none kV16 dc16 pm16 an16 cd16 ct16),sl16⟩) (c16 : PySem.W.codeIn K cd16 "worth" = true) (k16 : PySem.W.keepIn K (.ref f16) = true)
    (a17 : PySem.W.nsIn K mainGlobals "is_bare" = some (some (.ref f17))) (l17 : K.lookup f17 = some ⟨oc17,od17,.func (PySem.W.fnOf "is_bare" "is_bare" (defArgs s_is_bare) (defBody s_is_bare) (defScope s_is_bare) .none kV17 dc17 pm17 an17 cd17 ct17),sl17⟩) (c17 : PySem.W.codeIn K cd17 "is_bare" = true) (k17 : PySem.W.keepIn K (.ref f17) = true)
    (a18 : PySem.W.nsIn K mainGlobals "is_turning" = some (some (.ref f18))) (l18 : K.lookup f18 = some ⟨oc18,od18,.func (PySem.W.fnOf "is_turning" "is_turning" (defArgs s_is_turning) (defBody s_is_turning) (defScope s_is_turning) .none kV18 dc18 pm18 an18 cd18 ct18),sl18⟩) (c18 : PySem.W.codeIn K cd18 "is_turning" = true) (k18 : PySem.W.keepIn K (.ref f18) = true)
    (a19 : PySem.W.nsIn K mainGlobals "require_turning" = some (some (.ref f19))) (l19 : K.lookup f19 = some ⟨oc19,od19,.func (PySem.W.fnOf "require_turning" "require_turning" (defArgs s_require_turning) (defBody s_require_turning) (defScope s_require_turning) .none kV19 dc19 pm19 an19 cd19 ct19),sl19⟩) (c19 : PySem.W.codeIn K cd19 "require_turning" = true) (k19 : PySem.W.keepIn K (.ref f19) = true)
    (a20 : PySem.W.nsIn K mainGlobals "sent" = some (some (.ref f20))) (l20 : K.lookup f20 = some ⟨oc20,od20,.func (PySem.W.fnOf "sent" "sent" (defArgs s_sent) (defBody s_sent) (defScope s_sent) .none kV20 dc20 pm20 an20 cd20 ct20),sl20⟩) (c20 : PySem.W.codeIn K cd20 "sent" = true) (k20 : PySem.W.keepIn K (.ref f20) = true)
    (a21 : PySem.W.nsIn K mainGlobals "way_back" = some (some (.ref f21))) (l21 : K.lookup f21 = some ⟨oc21,od21,.func (PySem.W.fnOf "way_back" "way_back" (defArgs s_way_back) (defBody s_way_back) (defScope s_way_back) .none kV21 dc21 pm21 an21 cd21 ct21),sl21⟩) (c21 : PySem.W.codeIn K cd21 "way_back" = true) (k21 : PySem.W.keepIn K (.ref f21) = true)
    (a22 : PySem.W.nsIn K mainGlobals "is_least" = some (some (.ref f22))) (l22 : K.lookup f22 = some ⟨oc22,od22,.func (PySem.W.fnOf "is_least" "is_least" (defArgs s_is_least) (defBody s_is_least) (defScope s_is_least) .none kV22 dc22 pm22 an22 cd22 ct22),sl22⟩) (c22 : PySem.W.codeIn K cd22 "is_least" = true) (k22 : PySem.W.keepIn K (.ref f22) = true)
    (a23 : PySem.W.nsIn K mainGlobals "stepped" = some (some (.ref f23))) (l23 : K.lookup f23 = some ⟨oc23,od23,.func (PySem.W.fnOf "stepped" "stepped" (defArgs s_stepped) (defBody s_stepped) (defScope s_stepped) .none kV23 dc23 pm23 an23 cd23 ct23),sl23⟩) (c23 : PySem.W.codeIn K cd23 "stepped" = true) (k23 : PySem.W.keepIn K (.ref f23) = true)
    (a24 : PySem.W.nsIn K mainGlobals "behind_step" = some (some (.ref f24))) (l24 : K.lookup f24 = some ⟨oc24,od24,.func (PySem.W.fnOf "behind_step" "behind_step" (defArgs s_behind_step) (defBody s_behind_step) (defScope s_behind_step) .none kV24 dc24 pm24 an24 cd24 ct24),sl24⟩) (c24 : PySem.W.codeIn K cd24 "behind_step" = true) (k24 : PySem.W.keepIn K (.ref f24) = true)
    (a25 : PySem.W.nsIn K mainGlobals "swapped" = some (some (.ref f25))) (l25 : K.lookup f25 = some ⟨oc25,od25,.func (PySem.W.fnOf "swapped" "swapped" (defArgs s_swapped) (defBody s_swapped) (defScope s_swapped) .none kV25 dc25 pm25 an25 cd25 ct25),sl25⟩) (c25 : PySem.W.codeIn K cd25 "swapped" = true) (k25 : PySem.W.keepIn K (.ref f25) = true)
    (a26 : PySem.W.nsIn K mainGlobals "behind_swap" = some (some (.ref f26))) (l26 : K.lookup f26 = some ⟨oc26,od26,.func (PySem.W.fnOf "behind_swap" "behind_swap" (defArgs s_behind_swap) (defBody s_behind_swap) (defScope s_behind_swap) .none kV26 dc26 pm26 an26 cd26 ct26),sl26⟩) (c26 : PySem.W.codeIn K cd26 "behind_swap" = true) (k26 : PySem.W.keepIn K (.ref f26) = true)
    (a27 : PySem.W.nsIn K mainGlobals "step_to_middle" = some (some (.ref f27))) (l27 : K.lookup f27 = some ⟨oc27,od27,.func (PySem.W.fnOf "step_to_middle" "step_to_middle" (defArgs s_step_to_middle) (defBody s_step_to_middle) (defScope s_step_to_middle) .none kV27 dc27 pm27 an27 cd27 ct27),sl27⟩) (c27 : PySem.W.codeIn K cd27 "step_to_middle" = true) (k27 : PySem.W.keepIn K (.ref f27) = true)
    (a28 : PySem.W.nsIn K mainGlobals "least_of" = some (some (.ref f28))) (l28 : K.lookup f28 = some ⟨oc28,od28,.func (PySem.W.fnOf "least_of" "least_of" (defArgs s_least_of) (defBody s_least_of) (defScope s_least_of) .none kV28 dc28 pm28 an28 cd28 ct28),sl28⟩) (c28 : PySem.W.codeIn K cd28 "least_of" = true) (k28 : PySem.W.keepIn K (.ref f28) = true)
    (a29 : PySem.W.nsIn K mainGlobals "require_bare" = some (some (.ref f29))) (l29 : K.lookup f29 = some ⟨oc29,od29,.func (PySem.W.fnOf "require_bare" "require_bare" (defArgs s_require_bare) (defBody s_require_bare) (defScope s_require_bare) .none kV29 dc29 pm29 an29 cd29 ct29),sl29⟩) (c29 : PySem.W.codeIn K cd29 "require_bare" = true) (k29 : PySem.W.keepIn K (.ref f29) = true)
    (a30 : PySem.W.nsIn K mainGlobals "require_same_bar" = some (some (.ref f30))) (l30 : K.lookup f30 = some ⟨oc30,od30,.func (PySem.W.fnOf "require_same_bar" "require_same_bar" (defArgs s_require_same_bar) (defBody s_require_same_bar) (defScope s_require_same_bar) .none kV30 dc30 pm30 an30 cd30 ct30),sl30⟩) (c30 : PySem.W.codeIn K cd30 "require_same_bar" = true) (k30 : PySem.W.keepIn K (.ref f30) = true)
    (a31 : PySem.W.nsIn K mainGlobals "joint_divisor" = some (some (.ref f31))) (l31 : K.lookup f31 = some ⟨oc31,od31,.func (PySem.W.fnOf "joint_divisor" "joint_divisor" (defArgs s_joint_divisor) (defBody s_joint_divisor) (defScope s_joint_divisor) .none kV31 dc31 pm31 an31 cd31 ct31),sl31⟩) (c31 : PySem.W.codeIn K cd31 "joint_divisor" = true) (k31 : PySem.W.keepIn K (.ref f31) = true)
    (a32 : PySem.W.nsIn K mainGlobals "joint_middle" = some (some (.ref f32))) (l32 : K.lookup f32 = some ⟨oc32,od32,.func (PySem.W.fnOf "joint_middle" "joint_middle" (defArgs s_joint_middle) (defBody s_joint_middle) (defScope s_joint_middle) .none kV32 dc32 pm32 an32 cd32 ct32),sl32⟩) (c32 : PySem.W.codeIn K cd32 "joint_middle" = true) (k32 : PySem.W.keepIn K (.ref f32) = true)
    (a33 : PySem.W.nsIn K mainGlobals "joint_rows" = some (some (.ref f33))) (l33 : K.lookup f33 = some ⟨oc33,od33,.func (PySem.W.fnOf "joint_rows" "joint_rows" (defArgs s_joint_rows) (defBody s_joint_rows) (defScope s_joint_rows) .none kV33 dc33 pm33 an33 cd33 ct33),sl33⟩) (c33 : PySem.W.codeIn K cd33 "joint_rows" = true) (k33 : PySem.W.keepIn K (.ref f33) = true)
    (a34 : PySem.W.nsIn K mainGlobals "joined_whole" = some (some (.ref f34))) (l34 : K.lookup f34 = some ⟨oc34,od34,.func (PySem.W.fnOf "joined_whole" "joined_whole" (defArgs s_joined_whole) (defBody s_joined_whole) (defScope s_joined_whole) .none kV34 dc34 pm34 an34 cd34 ct34),sl34⟩) (c34 : PySem.W.codeIn K cd34 "joined_whole" = true) (k34 : PySem.W.keepIn K (.ref f34) = true)
    (a35 : PySem.W.nsIn K mainGlobals "joined" = some (some (.ref f35))) (l35 : K.lookup f35 = some ⟨oc35,od35,.func (PySem.W.fnOf "joined" "joined" (defArgs s_joined) (defBody s_joined) (defScope s_joined) .none kV35 dc35 pm35 an35 cd35 ct35),sl35⟩) (c35 : PySem.W.codeIn K cd35 "joined" = true) (k35 : PySem.W.keepIn K (.ref f35) = true)
    (a36 : PySem.W.nsIn K mainGlobals "neutral" = some (some (.ref f36))) (l36 : K.lookup f36 = some ⟨oc36,od36,.func (PySem.W.fnOf "neutral" "neutral" (defArgs s_neutral) (defBody s_neutral) (defScope s_neutral) .none kV36 dc36 pm36 an36 cd36 ct36),sl36⟩) (c36 : PySem.W.codeIn K cd36 "neutral" = true) (k36 : PySem.W.keepIn K (.ref f36) = true)
    (a37 : PySem.W.nsIn K mainGlobals "least_forms_from" = some (some (.ref f37))) (l37 : K.lookup f37 = some ⟨oc37,od37,.func (PySem.W.fnOf "least_forms_from" "least_forms_from" (defArgs s_least_forms_from) (defBody s_least_forms_from) (defScope s_least_forms_from) .none kV37 dc37 pm37 an37 cd37 ct37),sl37⟩) (c37 : PySem.W.codeIn K cd37 "least_forms_from" = true) (k37 : PySem.W.keepIn K (.ref f37) = true)
    (a38 : PySem.W.nsIn K mainGlobals "least_forms" = some (some (.ref f38))) (l38 : K.lookup f38 = some ⟨oc38,od38,.func (PySem.W.fnOf "least_forms" "least_forms" (defArgs s_least_forms) (defBody s_least_forms) (defScope s_least_forms) .none kV38 dc38 pm38 an38 cd38 ct38),sl38⟩) (c38 : PySem.W.codeIn K cd38 "least_forms" = true) (k38 : PySem.W.keepIn K (.ref f38) = true)
    (a39 : PySem.W.nsIn K mainGlobals "classes" = some (some (.ref f39))) (l39 : K.lookup f39 = some ⟨oc39,od39,.func (PySem.W.fnOf "classes" "classes" (defArgs s_classes) (defBody s_classes) (defScope s_classes) .none kV39 dc39 pm39 an39 cd39 ct39),sl39⟩) (c39 : PySem.W.codeIn K cd39 "classes" = true) (k39 : PySem.W.keepIn K (.ref f39) = true)
    (a40 : PySem.W.nsIn K mainGlobals "marks_beside_odd_primes" = some (some (.ref f40))) (l40 : K.lookup f40 = some ⟨oc40,od40,.func (PySem.W.fnOf "marks_beside_odd_primes" "marks_beside_odd_primes" (defArgs s_marks_beside_odd_primes) (defBody s_marks_beside_odd_primes) (defScope s_marks_beside_odd_primes) .none kV40 dc40 pm40 an40 cd40 ct40),sl40⟩) (c40 : PySem.W.codeIn K cd40 "marks_beside_odd_primes" = true) (k40 : PySem.W.keepIn K (.ref f40) = true)
    (a41 : PySem.W.nsIn K mainGlobals "marks_of" = some (some (.ref f41))) (l41 : K.lookup f41 = some ⟨oc41,od41,.func (PySem.W.fnOf "marks_of" "marks_of" (defArgs s_marks_of) (defBody s_marks_of) (defScope s_marks_of) .none kV41 dc41 pm41 an41 cd41 ct41),sl41⟩) (c41 : PySem.W.codeIn K cd41 "marks_of" = true) (k41 : PySem.W.keepIn K (.ref f41) = true)
    (a42 : PySem.W.nsIn K mainGlobals "is_plus_at" = some (some (.ref f42))) (l42 : K.lookup f42 = some ⟨oc42,od42,.func (PySem.W.fnOf "is_plus_at" "is_plus_at" (defArgs s_is_plus_at) (defBody s_is_plus_at) (defScope s_is_plus_at) .none kV42 dc42 pm42 an42 cd42 ct42),sl42⟩) (c42 : PySem.W.codeIn K cd42 "is_plus_at" = true) (k42 : PySem.W.keepIn K (.ref f42) = true)
    (a43 : PySem.W.nsIn K mainGlobals "telling_place" = some (some (.ref f43))) (l43 : K.lookup f43 = some ⟨oc43,od43,.func (PySem.W.fnOf "telling_place" "telling_place" (defArgs s_telling_place) (defBody s_telling_place) (defScope s_telling_place) .none kV43 dc43 pm43 an43 cd43 ct43),sl43⟩) (c43 : PySem.W.codeIn K cd43 "telling_place" = true) (k43 : PySem.W.keepIn K (.ref f43) = true)
    (a44 : PySem.W.nsIn K mainGlobals "signs_of" = some (some (.ref f44))) (l44 : K.lookup f44 = some ⟨oc44,od44,.func (PySem.W.fnOf "signs_of" "signs_of" (defArgs s_signs_of) (defBody s_signs_of) (defScope s_signs_of) .none kV44 dc44 pm44 an44 cd44 ct44),sl44⟩) (c44 : PySem.W.codeIn K cd44 "signs_of" = true) (k44 : PySem.W.keepIn K (.ref f44) = true)
    (a45 : PySem.W.nsIn K mainGlobals "genus_of" = some (some (.ref f45))) (l45 : K.lookup f45 = some ⟨oc45,od45,.func (PySem.W.fnOf "genus_of" "genus_of" (defArgs s_genus_of) (defBody s_genus_of) (defScope s_genus_of) .none kV45 dc45 pm45 an45 cd45 ct45),sl45⟩) (c45 : PySem.W.codeIn K cd45 "genus_of" = true) (k45 : PySem.W.keepIn K (.ref f45) = true)
    (a46 : PySem.W.nsIn K mainGlobals "round_of_class" = some (some (.ref f46))) (l46 : K.lookup f46 = some ⟨oc46,od46,.func (PySem.W.fnOf "round_of_class" "round_of_class" (defArgs s_round_of_class) (defBody s_round_of_class) (defScope s_round_of_class) .none kV46 dc46 pm46 an46 cd46 ct46),sl46⟩) (c46 : PySem.W.codeIn K cd46 "round_of_class" = true) (k46 : PySem.W.keepIn K (.ref f46) = true)
    (a47 : PySem.W.nsIn K mainGlobals "round_of" = some (some (.ref f47))) (l47 : K.lookup f47 = some ⟨oc47,od47,.func (PySem.W.fnOf "round_of" "round_of" (defArgs s_round_of) (defBody s_round_of) (defScope s_round_of) .none kV47 dc47 pm47 an47 cd47 ct47),sl47⟩) (c47 : PySem.W.codeIn K cd47 "round_of" = true) (k47 : PySem.W.keepIn K (.ref f47) = true)
    (a48 : PySem.W.nsIn K mainGlobals "every_so_many" = some (some (.ref f48))) (l48 : K.lookup f48 = some ⟨oc48,od48,.func (PySem.W.fnOf "every_so_many" "every_so_many" (defArgs s_every_so_many) (defBody s_every_so_many) (defScope s_every_so_many) .none kV48 dc48 pm48 an48 cd48 ct48),sl48⟩) (c48 : PySem.W.codeIn K cd48 "every_so_many" = true) (k48 : PySem.W.keepIn K (.ref f48) = true)
    (a49 : PySem.W.nsIn K mainGlobals "rounds" = some (some (.ref f49))) (l49 : K.lookup f49 = some ⟨oc49,od49,.func (PySem.W.fnOf "rounds" "rounds" (defArgs s_rounds) (defBody s_rounds) (defScope s_rounds) .none kV49 dc49 pm49 an49 cd49 ct49),sl49⟩) (c49 : PySem.W.codeIn K cd49 "rounds" = true) (k49 : PySem.W.keepIn K (.ref f49) = true)
    (a50 : PySem.W.nsIn K mainGlobals "row_written" = some (some (.ref f50))) (l50 : K.lookup f50 = some ⟨oc50,od50,.func (PySem.W.fnOf "row_written" "row_written" (defArgs s_row_written) (defBody s_row_written) (defScope s_row_written) .none kV50 dc50 pm50 an50 cd50 ct50),sl50⟩) (c50 : PySem.W.codeIn K cd50 "row_written" = true) (k50 : PySem.W.keepIn K (.ref f50) = true)
    {dA51 : Addr} {dod51 : Option Addr} {dcl51 : Value} {dn51 : Nat} {dsl51 : Array (Option Value)} {dt51 : Tok}
    (a51 : PySem.W.nsIn K mainGlobals "table" = some (some (.ref f51))) (l51 : K.lookup f51 = some ⟨oc51,od51,.func (PySem.W.fnOf "table" "table" (defArgs s_table) (defBody s_table) (defScope s_table) (.ref dA51) kV51 dc51 pm51 an51 cd51 ct51),sl51⟩) (c51 : PySem.W.codeIn K cd51 "table" = true) (k51 : PySem.W.keepIn K (.ref f51) = true)
    (dl51 : K.lookup dA51 = some ⟨dcl51,dod51,.seq #[.int (6 : Int) dt51] dn51,dsl51⟩)
    (a52 : PySem.W.nsIn K mainGlobals "_law_cell_at" = some (some (.ref f52))) (l52 : K.lookup f52 = some ⟨oc52,od52,.func (PySem.W.fnOf "_law_cell_at" "_law_cell_at" (defArgs s_law_cell_at) (defBody s_law_cell_at) (defScope s_law_cell_at) .none kV52 dc52 pm52 an52 cd52 ct52),sl52⟩) (c52 : PySem.W.codeIn K cd52 "_law_cell_at" = true) (k52 : PySem.W.keepIn K (.ref f52) = true)
    (a53 : PySem.W.nsIn K mainGlobals "_law_right" = some (some (.ref f53))) (l53 : K.lookup f53 = some ⟨oc53,od53,.func (PySem.W.fnOf "_law_right" "_law_right" (defArgs s_law_right) (defBody s_law_right) (defScope s_law_right) .none kV53 dc53 pm53 an53 cd53 ct53),sl53⟩) (c53 : PySem.W.codeIn K cd53 "_law_right" = true) (k53 : PySem.W.keepIn K (.ref f53) = true)
    (a54 : PySem.W.nsIn K mainGlobals "law" = some (some (.ref f54))) (l54 : K.lookup f54 = some ⟨oc54,od54,.func (PySem.W.fnOf "law" "law" (defArgs s_law) (defBody s_law) (defScope s_law) .none kV54 dc54 pm54 an54 cd54 ct54),sl54⟩) (c54 : PySem.W.codeIn K cd54 "law" = true) (k54 : PySem.W.keepIn K (.ref f54) = true)
    {gNO_TURN : Addr} {odNO_TURN : Option Addr} {nNO_TURN : Nat} {slNO_TURN : Array (Option Value)} {tNO_TURN0 tNO_TURN1 tNO_TURN2 tNO_TURN3 : Tok}
    (caNO_TURN : PySem.W.nsIn K mainGlobals "NO_TURN" = some (some (.ref gNO_TURN))) (clNO_TURN : K.lookup gNO_TURN = some ⟨.type "tuple",odNO_TURN,.seq #[.int (1 : Int) tNO_TURN0,.int (0 : Int) tNO_TURN1,.int (0 : Int) tNO_TURN2,.int (1 : Int) tNO_TURN3] nNO_TURN,slNO_TURN⟩)
    {tLOWEST_LISTED_BAR : Tok} (caLOWEST_LISTED_BAR : PySem.W.nsIn K mainGlobals "LOWEST_LISTED_BAR" = some (some (.int (-4000 : Int) tLOWEST_LISTED_BAR)))
    {tLOWEST_MARKED_BAR : Tok} (caLOWEST_MARKED_BAR : PySem.W.nsIn K mainGlobals "LOWEST_MARKED_BAR" = some (some (.int (-1000000 : Int) tLOWEST_MARKED_BAR)))
    (z0 : PySem.W.nsIn K mainGlobals "abs" = some none) (z1 : PySem.W.nsIn K mainGlobals "all" = some none) (z2 : PySem.W.nsIn K mainGlobals "any" = some none) (z3 : PySem.W.nsIn K mainGlobals "bool" = some none) (z4 : PySem.W.nsIn K mainGlobals "dict" = some none) (z5 : PySem.W.nsIn K mainGlobals "enumerate" = some none) (z6 : PySem.W.nsIn K mainGlobals "int" = some none) (z7 : PySem.W.nsIn K mainGlobals "isinstance" = some none) (z8 : PySem.W.nsIn K mainGlobals "len" = some none) (z9 : PySem.W.nsIn K mainGlobals "list" = some none) (z10 : PySem.W.nsIn K mainGlobals "max" = some none) (z11 : PySem.W.nsIn K mainGlobals "min" = some none) (z12 : PySem.W.nsIn K mainGlobals "range" = some none) (z13 : PySem.W.nsIn K mainGlobals "reversed" = some none) (z14 : PySem.W.nsIn K mainGlobals "set" = some none) (z15 : PySem.W.nsIn K mainGlobals "sorted" = some none) (z16 : PySem.W.nsIn K mainGlobals "str" = some none) (z17 : PySem.W.nsIn K mainGlobals "sum" = some none) (z18 : PySem.W.nsIn K mainGlobals "tuple" = some none) (z19 : PySem.W.nsIn K mainGlobals "zip" = some none) :
    ∃ fd : FuncData,(∀ (s : Shared) (v : Value),BindsTo s fd ⟨[v],[]⟩ [("_law_script",v)]) ∧ ∀ base : Heap,K.In base → base.Ns mainGlobals mg → FnOk l.prog w K mg base CX0 12 fa fd ["_law_script"] (SpD K p_law) := by
  have e := hfa.symm.trans (PySem.W.mg_of X G a54)
  cases e
  have T : Tx mg := ⟨PySem.W.mg_none_of X G z0,PySem.W.mg_none_of X G z1,PySem.W.mg_none_of X G z2,PySem.W.mg_none_of X G z3,PySem.W.mg_none_of X G z4,PySem.W.mg_none_of X G z5,PySem.W.mg_none_of X G z6,PySem.W.mg_none_of X G z7,PySem.W.mg_none_of X G z8,PySem.W.mg_none_of X G z9,PySem.W.mg_none_of X G z10,PySem.W.mg_none_of X G z11,PySem.W.mg_none_of X G z12,PySem.W.mg_none_of X G z13,PySem.W.mg_none_of X G z14,PySem.W.mg_none_of X G z15,PySem.W.mg_none_of X G z16,PySem.W.mg_none_of X G z17,PySem.W.mg_none_of X G z18,PySem.W.mg_none_of X G z19⟩
  have F0 := fun_mk (st := s_is_whole) l0 c0 k0
  have b0 := F0.binds (ps := ["value"]) λ _ _ _ _ _ _ us hl => match us,hl with | [_],_ => rfl
  have m0 := PySem.W.mg_of X G a0
  have F1 := fun_mk (st := s_is_whole_tuple) l1 c1 k1
  have b1 := F1.binds (ps := ["value", "length"]) λ _ _ _ _ _ _ us hl => match us,hl with | [_,_],_ => rfl
  have m1 := PySem.W.mg_of X G a1
  have F2 := fun_mk (st := s_is_bar) l2 c2 k2
  have b2 := F2.binds (ps := ["value"]) λ _ _ _ _ _ _ us hl => match us,hl with | [_],_ => rfl
  have m2 := PySem.W.mg_of X G a2
  have F3 := fun_mk (st := s_require_bar) l3 c3 k3
  have b3 := F3.binds (ps := ["value"]) λ _ _ _ _ _ _ us hl => match us,hl with | [_],_ => rfl
  have m3 := PySem.W.mg_of X G a3
  have F4 := fun_mk (st := s_require_bar_from) l4 c4 k4
  have b4 := F4.binds (ps := ["value", "lowest"]) λ _ _ _ _ _ _ us hl => match us,hl with | [_,_],_ => rfl
  have m4 := PySem.W.mg_of X G a4
  have F5 := fun_mk (st := s_require_whole) l5 c5 k5
  have b5 := F5.binds (ps := ["value"]) λ _ _ _ _ _ _ us hl => match us,hl with | [_],_ => rfl
  have m5 := PySem.W.mg_of X G a5
  have F6 := fun_mk (st := s_common_divisor) l6 c6 k6
  have b6 := F6.binds (ps := ["one", "other"]) λ _ _ _ _ _ _ us hl => match us,hl with | [_,_],_ => rfl
  have m6 := PySem.W.mg_of X G a6
  have F7 := fun_mk (st := s_divisor_with_shares) l7 c7 k7
  have b7 := F7.binds (ps := ["one", "other"]) λ _ _ _ _ _ _ us hl => match us,hl with | [_,_],_ => rfl
  have m7 := PySem.W.mg_of X G a7
  have F8 := fun_mk (st := s_prime_factors) l8 c8 k8
  have b8 := F8.binds (ps := ["number"]) λ _ _ _ _ _ _ us hl => match us,hl with | [_],_ => rfl
  have m8 := PySem.W.mg_of X G a8
  have F9 := fun_mk (st := s_prime_divisors) l9 c9 k9
  have b9 := F9.binds (ps := ["number"]) λ _ _ _ _ _ _ us hl => match us,hl with | [_],_ => rfl
  have m9 := PySem.W.mg_of X G a9
  have F10 := fun_mk (st := s_power_by) l10 c10 k10
  have b10 := F10.binds (ps := ["base", "exponent", "divisor"]) λ _ _ _ _ _ _ us hl => match us,hl with | [_,_,_],_ => rfl
  have m10 := PySem.W.mg_of X G a10
  have F11 := fun_mk (st := s_leaves_square) l11 c11 k11
  have b11 := F11.binds (ps := ["number", "prime"]) λ _ _ _ _ _ _ us hl => match us,hl with | [_,_],_ => rfl
  have m11 := PySem.W.mg_of X G a11
  have F12 := fun_mk (st := s_bar_of_numbers) l12 c12 k12
  have b12 := F12.binds (ps := ["a", "b", "c"]) λ _ _ _ _ _ _ us hl => match us,hl with | [_,_,_],_ => rfl
  have m12 := PySem.W.mg_of X G a12
  have F13 := fun_mk (st := s_is_form) l13 c13 k13
  have b13 := F13.binds (ps := ["value"]) λ _ _ _ _ _ _ us hl => match us,hl with | [_],_ => rfl
  have m13 := PySem.W.mg_of X G a13
  have F14 := fun_mk (st := s_require_form) l14 c14 k14
  have b14 := F14.binds (ps := ["value"]) λ _ _ _ _ _ _ us hl => match us,hl with | [_],_ => rfl
  have m14 := PySem.W.mg_of X G a14
  have F15 := fun_mk (st := s_bar_of) l15 c15 k15
  have b15 := F15.binds (ps := ["form"]) λ _ _ _ _ _ _ us hl => match us,hl with | [_],_ => rfl
  have m15 := PySem.W.mg_of X G a15
  have F16 := fun_mk (st := s_worth) l16 c16 k16
  have b16 := F16.binds (ps := ["form", "place"]) λ _ _ _ _ _ _ us hl => match us,hl with | [_,_],_ => rfl
  have m16 := PySem.W.mg_of X G a16
  have F17 := fun_mk (st := s_is_bare) l17 c17 k17
  have b17 := F17.binds (ps := ["form"]) λ _ _ _ _ _ _ us hl => match us,hl with | [_],_ => rfl
  have m17 := PySem.W.mg_of X G a17
  have F18 := fun_mk (st := s_is_turning) l18 c18 k18
  have b18 := F18.binds (ps := ["value"]) λ _ _ _ _ _ _ us hl => match us,hl with | [_],_ => rfl
  have m18 := PySem.W.mg_of X G a18
  have F19 := fun_mk (st := s_require_turning) l19 c19 k19
  have b19 := F19.binds (ps := ["value"]) λ _ _ _ _ _ _ us hl => match us,hl with | [_],_ => rfl
  have m19 := PySem.W.mg_of X G a19
  have F20 := fun_mk (st := s_sent) l20 c20 k20
  have b20 := F20.binds (ps := ["turning", "place"]) λ _ _ _ _ _ _ us hl => match us,hl with | [_,_],_ => rfl
  have m20 := PySem.W.mg_of X G a20
  have F21 := fun_mk (st := s_way_back) l21 c21 k21
  have b21 := F21.binds (ps := ["turning"]) λ _ _ _ _ _ _ us hl => match us,hl with | [_],_ => rfl
  have m21 := PySem.W.mg_of X G a21
  have F22 := fun_mk (st := s_is_least) l22 c22 k22
  have b22 := F22.binds (ps := ["form"]) λ _ _ _ _ _ _ us hl => match us,hl with | [_],_ => rfl
  have m22 := PySem.W.mg_of X G a22
  have F23 := fun_mk (st := s_stepped) l23 c23 k23
  have b23 := F23.binds (ps := ["form", "step"]) λ _ _ _ _ _ _ us hl => match us,hl with | [_,_],_ => rfl
  have m23 := PySem.W.mg_of X G a23
  have F24 := fun_mk (st := s_behind_step) l24 c24 k24
  have b24 := F24.binds (ps := ["turning", "step"]) λ _ _ _ _ _ _ us hl => match us,hl with | [_,_],_ => rfl
  have m24 := PySem.W.mg_of X G a24
  have F25 := fun_mk (st := s_swapped) l25 c25 k25
  have b25 := F25.binds (ps := ["form"]) λ _ _ _ _ _ _ us hl => match us,hl with | [_],_ => rfl
  have m25 := PySem.W.mg_of X G a25
  have F26 := fun_mk (st := s_behind_swap) l26 c26 k26
  have b26 := F26.binds (ps := ["turning"]) λ _ _ _ _ _ _ us hl => match us,hl with | [_],_ => rfl
  have m26 := PySem.W.mg_of X G a26
  have F27 := fun_mk (st := s_step_to_middle) l27 c27 k27
  have b27 := F27.binds (ps := ["form"]) λ _ _ _ _ _ _ us hl => match us,hl with | [_],_ => rfl
  have m27 := PySem.W.mg_of X G a27
  have F28 := fun_mk (st := s_least_of) l28 c28 k28
  have b28 := F28.binds (ps := ["form"]) λ _ _ _ _ _ _ us hl => match us,hl with | [_],_ => rfl
  have m28 := PySem.W.mg_of X G a28
  have F29 := fun_mk (st := s_require_bare) l29 c29 k29
  have b29 := F29.binds (ps := ["form"]) λ _ _ _ _ _ _ us hl => match us,hl with | [_],_ => rfl
  have m29 := PySem.W.mg_of X G a29
  have F30 := fun_mk (st := s_require_same_bar) l30 c30 k30
  have b30 := F30.binds (ps := ["one", "other"]) λ _ _ _ _ _ _ us hl => match us,hl with | [_,_],_ => rfl
  have m30 := PySem.W.mg_of X G a30
  have F31 := fun_mk (st := s_joint_divisor) l31 c31 k31
  have b31 := F31.binds (ps := ["one", "other"]) λ _ _ _ _ _ _ us hl => match us,hl with | [_,_],_ => rfl
  have m31 := PySem.W.mg_of X G a31
  have F32 := fun_mk (st := s_joint_middle) l32 c32 k32
  have b32 := F32.binds (ps := ["one", "other", "shares"]) λ _ _ _ _ _ _ us hl => match us,hl with | [_,_,_],_ => rfl
  have m32 := PySem.W.mg_of X G a32
  have F33 := fun_mk (st := s_joint_rows) l33 c33 k33
  have b33 := F33.binds (ps := ["one", "other", "divisor", "middle"]) λ _ _ _ _ _ _ us hl => match us,hl with | [_,_,_,_],_ => rfl
  have m33 := PySem.W.mg_of X G a33
  have F34 := fun_mk (st := s_joined_whole) l34 c34 k34
  have b34 := F34.binds (ps := ["one", "other"]) λ _ _ _ _ _ _ us hl => match us,hl with | [_,_],_ => rfl
  have m34 := PySem.W.mg_of X G a34
  have F35 := fun_mk (st := s_joined) l35 c35 k35
  have b35 := F35.binds (ps := ["one", "other"]) λ _ _ _ _ _ _ us hl => match us,hl with | [_,_],_ => rfl
  have m35 := PySem.W.mg_of X G a35
  have F36 := fun_mk (st := s_neutral) l36 c36 k36
  have b36 := F36.binds (ps := ["bar"]) λ _ _ _ _ _ _ us hl => match us,hl with | [_],_ => rfl
  have m36 := PySem.W.mg_of X G a36
  have F37 := fun_mk (st := s_least_forms_from) l37 c37 k37
  have b37 := F37.binds (ps := ["bar", "a"]) λ _ _ _ _ _ _ us hl => match us,hl with | [_,_],_ => rfl
  have m37 := PySem.W.mg_of X G a37
  have F38 := fun_mk (st := s_least_forms) l38 c38 k38
  have b38 := F38.binds (ps := ["bar"]) λ _ _ _ _ _ _ us hl => match us,hl with | [_],_ => rfl
  have m38 := PySem.W.mg_of X G a38
  have F39 := fun_mk (st := s_classes) l39 c39 k39
  have b39 := F39.binds (ps := ["bar"]) λ _ _ _ _ _ _ us hl => match us,hl with | [_],_ => rfl
  have m39 := PySem.W.mg_of X G a39
  have F40 := fun_mk (st := s_marks_beside_odd_primes) l40 c40 k40
  have b40 := F40.binds (ps := ["quarter"]) λ _ _ _ _ _ _ us hl => match us,hl with | [_],_ => rfl
  have m40 := PySem.W.mg_of X G a40
  have F41 := fun_mk (st := s_marks_of) l41 c41 k41
  have b41 := F41.binds (ps := ["bar"]) λ _ _ _ _ _ _ us hl => match us,hl with | [_],_ => rfl
  have m41 := PySem.W.mg_of X G a41
  have F42 := fun_mk (st := s_is_plus_at) l42 c42 k42
  have b42 := F42.binds (ps := ["mark", "number"]) λ _ _ _ _ _ _ us hl => match us,hl with | [_,_],_ => rfl
  have m42 := PySem.W.mg_of X G a42
  have F43 := fun_mk (st := s_telling_place) l43 c43 k43
  have b43 := F43.binds (ps := ["form"]) λ _ _ _ _ _ _ us hl => match us,hl with | [_],_ => rfl
  have m43 := PySem.W.mg_of X G a43
  have F44 := fun_mk (st := s_signs_of) l44 c44 k44
  have b44 := F44.binds (ps := ["form"]) λ _ _ _ _ _ _ us hl => match us,hl with | [_],_ => rfl
  have m44 := PySem.W.mg_of X G a44
  have F45 := fun_mk (st := s_genus_of) l45 c45 k45
  have b45 := F45.binds (ps := ["form"]) λ _ _ _ _ _ _ us hl => match us,hl with | [_],_ => rfl
  have m45 := PySem.W.mg_of X G a45
  have F46 := fun_mk (st := s_round_of_class) l46 c46 k46
  have b46 := F46.binds (ps := ["form"]) λ _ _ _ _ _ _ us hl => match us,hl with | [_],_ => rfl
  have m46 := PySem.W.mg_of X G a46
  have F47 := fun_mk (st := s_round_of) l47 c47 k47
  have b47 := F47.binds (ps := ["form"]) λ _ _ _ _ _ _ us hl => match us,hl with | [_],_ => rfl
  have m47 := PySem.W.mg_of X G a47
  have F48 := fun_mk (st := s_every_so_many) l48 c48 k48
  have b48 := F48.binds (ps := ["way", "many"]) λ _ _ _ _ _ _ us hl => match us,hl with | [_,_],_ => rfl
  have m48 := PySem.W.mg_of X G a48
  have F49 := fun_mk (st := s_rounds) l49 c49 k49
  have b49 := F49.binds (ps := ["bar"]) λ _ _ _ _ _ _ us hl => match us,hl with | [_],_ => rfl
  have m49 := PySem.W.mg_of X G a49
  have F50 := fun_mk (st := s_row_written) l50 c50 k50
  have b50 := F50.binds (ps := ["number", "cells", "width"]) λ _ _ _ _ _ _ us hl => match us,hl with | [_,_,_],_ => rfl
  have m50 := PySem.W.mg_of X G a50
  have F51 : FunD K "table" "table" s_table f51 (PySem.W.fnOf "table" "table" (defArgs s_table) (defBody s_table) (defScope s_table) (.ref dA51) kV51 dc51 pm51 an51 cd51 ct51) (.int (6 : Int) dt51) := ⟨⟨_,_,_,_,_,_,_,_,_,_,rfl,l51,c51⟩,k51⟩
  have b51 : Binds K (PySem.W.fnOf "table" "table" (defArgs s_table) (defBody s_table) (defScope s_table) (.ref dA51) kV51 dc51 pm51 an51 cd51 ct51) ["bar", "width"] [] := λ s us hK hl => match us,hl with | [_,_],_ => BindsTo.of_defaults rfl (hK _ _ dl51) rfl rfl rfl
  have bD51 : Binds K (PySem.W.fnOf "table" "table" (defArgs s_table) (defBody s_table) (defScope s_table) (.ref dA51) kV51 dc51 pm51 an51 cd51 ct51) ["bar", "width"] [.int (6 : Int) dt51] := λ s us hK hl => match us,hl with | [],hl => absurd hl (by simp) | [_],_ => BindsTo.of_defaults rfl (hK _ _ dl51) rfl rfl rfl | _ :: _ :: _,hl => absurd hl (by simp)
  have m51 := PySem.W.mg_of X G a51
  have F52 := fun_mk (st := s_law_cell_at) l52 c52 k52
  have b52 := F52.binds (ps := ["_law_script", "_law_k"]) λ _ _ _ _ _ _ us hl => match us,hl with | [_,_],_ => rfl
  have m52 := PySem.W.mg_of X G a52
  have F53 := fun_mk (st := s_law_right) l53 c53 k53
  have b53 := F53.binds (ps := ["_law_number", "_law_width"]) λ _ _ _ _ _ _ us hl => match us,hl with | [_,_],_ => rfl
  have m53 := PySem.W.mg_of X G a53
  have F54 := fun_mk (st := s_law) l54 c54 k54
  have b54 := F54.binds (ps := ["_law_script"]) λ _ _ _ _ _ _ us hl => match us,hl with | [_],_ => rfl
  have m54 := PySem.W.mg_of X G a54
  refine ⟨PySem.W.fnOf "law" "law" (defArgs s_law) (defBody s_law) (defScope s_law) .none kV54 dc54 pm54 an54 cd54 ct54,λ s v => .of_eq rfl,λ base _ _ => ?_⟩
  have C_NO_TURN : Con K mg "NO_TURN" (.kt [.int (1 : Int),.int (0 : Int),.int (0 : Int),.int (1 : Int)]) := con_tup (ns := [(1 : Int),(0 : Int),(0 : Int),(1 : Int)]) (PySem.W.mg_of X G caNO_TURN) clNO_TURN (.cons (.cons (.cons (.cons .nil)))) (Nat.le_of_ble_eq_true rfl)
  have C_LOWEST_LISTED_BAR : Con K mg "LOWEST_LISTED_BAR" (.int (-4000 : Int)) := con_int (PySem.W.mg_of X G caLOWEST_LISTED_BAR)
  have C_LOWEST_MARKED_BAR : Con K mg "LOWEST_MARKED_BAR" (.int (-1000000 : Int)) := con_int (PySem.W.mg_of X G caLOWEST_MARKED_BAR)
  have G_is_whole := ok_is_whole (P := l.prog) (w := w) (base := base) T F0 m0 b0
  have G_is_whole_tuple := ok_is_whole_tuple (P := l.prog) (w := w) (base := base) T G_is_whole F1 m1 b1
  have G_is_bar := ok_is_bar (P := l.prog) (w := w) (base := base) G_is_whole F2 m2 b2
  have G_require_bar := ok_require_bar (P := l.prog) (w := w) (base := base) G_is_bar F3 m3 b3
  have G_require_bar_from := ok_require_bar_from (P := l.prog) (w := w) (base := base) G_require_bar F4 m4 b4
  have G_require_whole := ok_require_whole (P := l.prog) (w := w) (base := base) G_is_whole F5 m5 b5
  have G_common_divisor := ok_common_divisor (P := l.prog) (w := w) (base := base) T F6 m6 b6
  have G_divisor_with_shares := ok_divisor_with_shares (P := l.prog) (w := w) (base := base)  F7 m7 b7
  have G_prime_factors := ok_prime_factors (P := l.prog) (w := w) (base := base)  F8 m8 b8
  have G_prime_divisors := ok_prime_divisors (P := l.prog) (w := w) (base := base) T G_prime_factors F9 m9 b9
  have G_power_by := ok_power_by (P := l.prog) (w := w) (base := base)  F10 m10 b10
  have G_leaves_square := ok_leaves_square (P := l.prog) (w := w) (base := base) G_power_by F11 m11 b11
  have G_bar_of_numbers := ok_bar_of_numbers (P := l.prog) (w := w) (base := base)  F12 m12 b12
  have G_is_form := ok_is_form (P := l.prog) (w := w) (base := base) G_is_whole_tuple G_bar_of_numbers F13 m13 b13
  have G_require_form := ok_require_form (P := l.prog) (w := w) (base := base) G_is_form F14 m14 b14
  have G_bar_of := ok_bar_of (P := l.prog) (w := w) (base := base) G_require_form G_bar_of_numbers F15 m15 b15
  have G_worth := ok_worth (P := l.prog) (w := w) (base := base) G_require_form F16 m16 b16
  have G_is_bare := ok_is_bare (P := l.prog) (w := w) (base := base) G_require_form G_common_divisor F17 m17 b17
  have G_is_turning := ok_is_turning (P := l.prog) (w := w) (base := base) G_is_whole_tuple F18 m18 b18
  have G_require_turning := ok_require_turning (P := l.prog) (w := w) (base := base) G_is_turning F19 m19 b19
  have G_sent := ok_sent (P := l.prog) (w := w) (base := base)  F20 m20 b20
  have G_way_back := ok_way_back (P := l.prog) (w := w) (base := base) G_require_turning F21 m21 b21
  have G_is_least := ok_is_least (P := l.prog) (w := w) (base := base) G_require_form F22 m22 b22
  have G_stepped := ok_stepped (P := l.prog) (w := w) (base := base)  F23 m23 b23
  have G_behind_step := ok_behind_step (P := l.prog) (w := w) (base := base)  F24 m24 b24
  have G_swapped := ok_swapped (P := l.prog) (w := w) (base := base)  F25 m25 b25
  have G_behind_swap := ok_behind_swap (P := l.prog) (w := w) (base := base)  F26 m26 b26
  have G_step_to_middle := ok_step_to_middle (P := l.prog) (w := w) (base := base)  F27 m27 b27
  have G_least_of := ok_least_of (P := l.prog) (w := w) (base := base) G_require_form G_step_to_middle G_stepped G_behind_step G_swapped G_behind_swap C_NO_TURN F28 m28 b28
  have G_require_bare := ok_require_bare (P := l.prog) (w := w) (base := base) G_is_bare F29 m29 b29
  have G_require_same_bar := ok_require_same_bar (P := l.prog) (w := w) (base := base) G_bar_of F30 m30 b30
  have G_joint_divisor := ok_joint_divisor (P := l.prog) (w := w) (base := base) G_divisor_with_shares F31 m31 b31
  have G_joint_middle := ok_joint_middle (P := l.prog) (w := w) (base := base) G_bar_of F32 m32 b32
  have G_joint_rows := ok_joint_rows (P := l.prog) (w := w) (base := base) G_bar_of F33 m33 b33
  have G_joined_whole := ok_joined_whole (P := l.prog) (w := w) (base := base) T G_bar_of G_joint_divisor G_joint_middle G_joint_rows G_least_of G_way_back G_sent F34 m34 b34
  have G_joined := ok_joined (P := l.prog) (w := w) (base := base) G_require_form G_require_same_bar G_require_bare G_joined_whole F35 m35 b35
  have G_neutral := ok_neutral (P := l.prog) (w := w) (base := base) G_require_bar F36 m36 b36
  have G_least_forms_from := ok_least_forms_from (P := l.prog) (w := w) (base := base) T G_is_least F37 m37 b37
  have G_least_forms := ok_least_forms (P := l.prog) (w := w) (base := base) G_require_bar_from G_least_forms_from C_LOWEST_LISTED_BAR F38 m38 b38
  have G_classes := ok_classes (P := l.prog) (w := w) (base := base) G_least_forms G_is_bare F39 m39 b39
  have G_marks_beside_odd_primes := ok_marks_beside_odd_primes (P := l.prog) (w := w) (base := base)  F40 m40 b40
  have G_marks_of := ok_marks_of (P := l.prog) (w := w) (base := base) G_require_bar_from G_prime_divisors G_marks_beside_odd_primes C_LOWEST_MARKED_BAR F41 m41 b41
  have G_is_plus_at := ok_is_plus_at (P := l.prog) (w := w) (base := base) G_leaves_square F42 m42 b42
  have G_telling_place := ok_telling_place (P := l.prog) (w := w) (base := base) G_bar_of G_prime_divisors F43 m43 b43
  have G_signs_of := ok_signs_of (P := l.prog) (w := w) (base := base) G_bar_of G_worth G_telling_place G_marks_of G_is_plus_at F44 m44 b44
  have G_genus_of := ok_genus_of (P := l.prog) (w := w) (base := base) T G_require_form G_require_bare G_require_bar_from G_bar_of G_signs_of C_LOWEST_MARKED_BAR F45 m45 b45
  have G_round_of_class := ok_round_of_class (P := l.prog) (w := w) (base := base) G_bar_of G_neutral G_joined F46 m46 b46
  have G_round_of := ok_round_of (P := l.prog) (w := w) (base := base) G_require_form G_bar_of G_require_bar_from G_require_bare G_least_of G_round_of_class C_LOWEST_LISTED_BAR F47 m47 b47
  have G_every_so_many := ok_every_so_many (P := l.prog) (w := w) (base := base) T G_common_divisor F48 m48 b48
  have G_rounds := ok_rounds (P := l.prog) (w := w) (base := base) T G_classes G_round_of_class G_every_so_many F49 m49 b49
  have G_row_written := ok_row_written (P := l.prog) (w := w) (base := base) T F50 m50 b50
  have G_table := ok_table (P := l.prog) (w := w) (base := base) T G_require_bar_from G_require_whole G_rounds G_classes G_genus_of G_row_written C_LOWEST_LISTED_BAR F51 m51 b51 bD51 ⟨_,rfl⟩
  have G_law_cell_at := ok_law_cell_at (P := l.prog) (w := w) (base := base) T F52 m52 b52
  have G_law_right := ok_law_right (P := l.prog) (w := w) (base := base) T F53 m53 b53
  exact ok_law T G_law_cell_at G_table G_classes G_law_right G_round_of G_genus_of F54
end K21
open PySem PySem.W PyProof.Rows
set_option maxRecDepth 100000 in
set_option maxHeartbeats 0 in
theorem PySem.Challenge.cw_formturn_k21_table_holds : PySem.Challenge.rw_formturn_k21_table.Holds := by
  w_on; o_law; k_head; (case hw => w_witness2)
  k_fill
  refine FL.walk_ofB (l := PySem.Challenge.rw_formturn_k21_table) (n := 63) (k := 12) (x := "_law_script") (Pf := CM.p_law) rfl (by decide) rfl ⟨rfl,by decide,by decide⟩ (λ w h Y => PySem.W.kIn_of Y) ?F ?S
  case F =>
    intro w mg fa h KX G hmg
    refine' K21.all_mk KX G hmg ?a0 ?l0 ?c0 ?k0 ?a1 ?l1 ?c1 ?k1 ?a2 ?l2 ?c2 ?k2 ?a3 ?l3 ?c3 ?k3 ?a4 ?l4 ?c4 ?k4 ?a5 ?l5 ?c5 ?k5 ?a6 ?l6 ?c6 ?k6 ?a7 ?l7 ?c7 ?k7 ?a8 ?l8 ?c8 ?k8 ?a9 ?l9 ?c9 ?k9 ?a10 ?l10 ?c10 ?k10 ?a11 ?l11 ?c11 ?k11 ?a12 ?l12 ?c12 ?k12 ?a13 ?l13 ?c13 ?k13 ?a14 ?l14 ?c14 ?k14 ?a15 ?l15 ?c15 ?k15 ?a16 ?l16 ?c16 ?k16 ?a17 ?l17 ?c17 ?k17 ?a18 ?l18 ?c18 ?k18 ?a19 ?l19 ?c19 ?k19 ?a20 ?l20 ?c20 ?k20 ?a21 ?l21 ?c21 ?k21 ?a22 ?l22 ?c22 ?k22 ?a23 ?l23 ?c23 ?k23 ?a24 ?l24 ?c24 ?k24 ?a25 ?l25 ?c25 ?k25 ?a26 ?l26 ?c26 ?k26 ?a27 ?l27 ?c27 ?k27 ?a28 ?l28 ?c28 ?k28 ?a29 ?l29 ?c29 ?k29 ?a30 ?l30 ?c30 ?k30 ?a31 ?l31 ?c31 ?k31 ?a32 ?l32 ?c32 ?k32 ?a33 ?l33 ?c33 ?k33 ?a34 ?l34 ?c34 ?k34 ?a35 ?l35 ?c35 ?k35 ?a36 ?l36 ?c36 ?k36 ?a37 ?l37 ?c37 ?k37 ?a38 ?l38 ?c38 ?k38 ?a39 ?l39 ?c39 ?k39 ?a40 ?l40 ?c40 ?k40 ?a41 ?l41 ?c41 ?k41 ?a42 ?l42 ?c42 ?k42 ?a43 ?l43 ?c43 ?k43 ?a44 ?l44 ?c44 ?k44 ?a45 ?l45 ?c45 ?k45 ?a46 ?l46 ?c46 ?k46 ?a47 ?l47 ?c47 ?k47 ?a48 ?l48 ?c48 ?k48 ?a49 ?l49 ?c49 ?k49 ?a50 ?l50 ?c50 ?k50 ?a51 ?l51 ?c51 ?k51 ?dl51 ?a52 ?l52 ?c52 ?k52 ?a53 ?l53 ?c53 ?k53 ?a54 ?l54 ?c54 ?k54 ?caNO_TURN ?clNO_TURN ?caLOWEST_LISTED_BAR ?caLOWEST_MARKED_BAR ?z0 ?z1 ?z2 ?z3 ?z4 ?z5 ?z6 ?z7 ?z8 ?z9 ?z10 ?z11 ?z12 ?z13 ?z14 ?z15 ?z16 ?z17 ?z18 ?z19
    (case a0 => k_is)
    (case l0 => k_is)
    (case c0 => k_is)
    (case k0 => k_is)
    (case a1 => k_is)
    (case l1 => k_is)
    (case c1 => k_is)
    (case k1 => k_is)
    (case a2 => k_is)
    (case l2 => k_is)
    (case c2 => k_is)
    (case k2 => k_is)
    (case a3 => k_is)
    (case l3 => k_is)
    (case c3 => k_is)
    (case k3 => k_is)
    (case a4 => k_is)
    (case l4 => k_is)
    (case c4 => k_is)
    (case k4 => k_is)
    (case a5 => k_is)
    (case l5 => k_is)
    (case c5 => k_is)
    (case k5 => k_is)
    (case a6 => k_is)
    (case l6 => k_is)
    (case c6 => k_is)
    (case k6 => k_is)
    (case a7 => k_is)
    (case l7 => k_is)
    (case c7 => k_is)
    (case k7 => k_is)
    (case a8 => k_is)
    (case l8 => k_is)
    (case c8 => k_is)
    (case k8 => k_is)
    (case a9 => k_is)
    (case l9 => k_is)
    (case c9 => k_is)
    (case k9 => k_is)
    (case a10 => k_is)
    (case l10 => k_is)
    (case c10 => k_is)
    (case k10 => k_is)
    (case a11 => k_is)
    (case l11 => k_is)
    (case c11 => k_is)
    (case k11 => k_is)
    (case a12 => k_is)
    (case l12 => k_is)
    (case c12 => k_is)
    (case k12 => k_is)
    (case a13 => k_is)
    (case l13 => k_is)
    (case c13 => k_is)
    (case k13 => k_is)
    (case a14 => k_is)
    (case l14 => k_is)
    (case c14 => k_is)
    (case k14 => k_is)
    (case a15 => k_is)
    (case l15 => k_is)
    (case c15 => k_is)
    (case k15 => k_is)
    (case a16 => k_is)
    (case l16 => k_is)
    (case c16 => k_is)
    (case k16 => k_is)
    (case a17 => k_is)
    (case l17 => k_is)
    (case c17 => k_is)
    (case k17 => k_is)
    (case a18 => k_is)
    (case l18 => k_is)
    (case c18 => k_is)
    (case k18 => k_is)
    (case a19 => k_is)
    (case l19 => k_is)
    (case c19 => k_is)
    (case k19 => k_is)
    (case a20 => k_is)
    (case l20 => k_is)
    (case c20 => k_is)
    (case k20 => k_is)
    (case a21 => k_is)
    (case l21 => k_is)
    (case c21 => k_is)
    (case k21 => k_is)
    (case a22 => k_is)
    (case l22 => k_is)
    (case c22 => k_is)
    (case k22 => k_is)
    (case a23 => k_is)
    (case l23 => k_is)
    (case c23 => k_is)
    (case k23 => k_is)
    (case a24 => k_is)
    (case l24 => k_is)
    (case c24 => k_is)
    (case k24 => k_is)
    (case a25 => k_is)
    (case l25 => k_is)
    (case c25 => k_is)
    (case k25 => k_is)
    (case a26 => k_is)
    (case l26 => k_is)
    (case c26 => k_is)
    (case k26 => k_is)
    (case a27 => k_is)
    (case l27 => k_is)
    (case c27 => k_is)
    (case k27 => k_is)
    (case a28 => k_is)
    (case l28 => k_is)
    (case c28 => k_is)
    (case k28 => k_is)
    (case a29 => k_is)
    (case l29 => k_is)
    (case c29 => k_is)
    (case k29 => k_is)
    (case a30 => k_is)
    (case l30 => k_is)
    (case c30 => k_is)
    (case k30 => k_is)
    (case a31 => k_is)
    (case l31 => k_is)
    (case c31 => k_is)
    (case k31 => k_is)
    (case a32 => k_is)
    (case l32 => k_is)
    (case c32 => k_is)
    (case k32 => k_is)
    (case a33 => k_is)
    (case l33 => k_is)
    (case c33 => k_is)
    (case k33 => k_is)
    (case a34 => k_is)
    (case l34 => k_is)
    (case c34 => k_is)
    (case k34 => k_is)
    (case a35 => k_is)
    (case l35 => k_is)
    (case c35 => k_is)
    (case k35 => k_is)
    (case a36 => k_is)
    (case l36 => k_is)
    (case c36 => k_is)
    (case k36 => k_is)
    (case a37 => k_is)
    (case l37 => k_is)
    (case c37 => k_is)
    (case k37 => k_is)
    (case a38 => k_is)
    (case l38 => k_is)
    (case c38 => k_is)
    (case k38 => k_is)
    (case a39 => k_is)
    (case l39 => k_is)
    (case c39 => k_is)
    (case k39 => k_is)
    (case a40 => k_is)
    (case l40 => k_is)
    (case c40 => k_is)
    (case k40 => k_is)
    (case a41 => k_is)
    (case l41 => k_is)
    (case c41 => k_is)
    (case k41 => k_is)
    (case a42 => k_is)
    (case l42 => k_is)
    (case c42 => k_is)
    (case k42 => k_is)
    (case a43 => k_is)
    (case l43 => k_is)
    (case c43 => k_is)
    (case k43 => k_is)
    (case a44 => k_is)
    (case l44 => k_is)
    (case c44 => k_is)
    (case k44 => k_is)
    (case a45 => k_is)
    (case l45 => k_is)
    (case c45 => k_is)
    (case k45 => k_is)
    (case a46 => k_is)
    (case l46 => k_is)
    (case c46 => k_is)
    (case k46 => k_is)
    (case a47 => k_is)
    (case l47 => k_is)
    (case c47 => k_is)
    (case k47 => k_is)
    (case a48 => k_is)
    (case l48 => k_is)
    (case c48 => k_is)
    (case k48 => k_is)
    (case a49 => k_is)
    (case l49 => k_is)
    (case c49 => k_is)
    (case k49 => k_is)
    (case a50 => k_is)
    (case l50 => k_is)
    (case c50 => k_is)
    (case k50 => k_is)
    (case a51 => k_is)
    (case l51 => k_is)
    (case c51 => k_is)
    (case k51 => k_is)
    (case dl51 => k_is)
    (case a52 => k_is)
    (case l52 => k_is)
    (case c52 => k_is)
    (case k52 => k_is)
    (case a53 => k_is)
    (case l53 => k_is)
    (case c53 => k_is)
    (case k53 => k_is)
    (case a54 => k_is)
    (case l54 => k_is)
    (case c54 => k_is)
    (case k54 => k_is)
    (case caNO_TURN => k_is)
    (case clNO_TURN => k_is)
    (case caLOWEST_LISTED_BAR => k_is)
    (case caLOWEST_MARKED_BAR => k_is)
    (case z0 => k_is)
    (case z1 => k_is)
    (case z2 => k_is)
    (case z3 => k_is)
    (case z4 => k_is)
    (case z5 => k_is)
    (case z6 => k_is)
    (case z7 => k_is)
    (case z8 => k_is)
    (case z9 => k_is)
    (case z10 => k_is)
    (case z11 => k_is)
    (case z12 => k_is)
    (case z13 => k_is)
    (case z14 => k_is)
    (case z15 => k_is)
    (case z16 => k_is)
    (case z17 => k_is)
    (case z18 => k_is)
    (case z19 => k_is)
  case S => exact CM.law_sp
#print axioms PySem.Challenge.cw_formturn_k21_table_holds
