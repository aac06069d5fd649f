import PyProof.Rows.All
import Wide.All
import OpenK.AllK
import Wide.FinOn
import Lean
import PyProof.EqAt
import PyProof.EqKinds
import PyProof.TupleCall
import PySem.Challenge.RW_curveseat_k40_corners_turn_left
set_option compiler.extract_closed false
set_option genSizeOfSpec false
namespace PySem.W.Fast
def tw5460989668872696843:=()
def tw15576708899504903742:=()
def tw4380928622241414230:=()
def tw14772277719843605435:=()
def tw7374968937419373720:=()
def tw13501766067147040943:=()
def tw12719815690501198436:=()
def tw11314368786095929269:=()
def tw4212964910468339729:=()
def tw2616265510380396875:=()
def tw6529820869079966683:=()
def tw13721400918915890117:=()
def tw2274883688450071371:=()
def tw9047541671333740028:=()
def tw1085602668866254705:=()
def tw819297881194681053:=()
def tw9206095005421569633:=()
def tw14129840948317231814:=()
def tw988555965455793093:=()
def tw4876017339770060480:=()
def tw13408367420482614133:=()
def tw10058333846743341658:=()
def tw323575216895467747:=()
def tw14356385913709691366:=()
def tw13628124369657362533:=()
def tw8571076114035924844:=()
def tw425271399938676250:=()
def tw13062915468272788862:=()
def tw111371077704393931:=()
def tw5529779176221289108:=()
def tw11301176309061322715:=()
def tw11373211361920638524:=()
def tw12073283324059549625:=()
def tw1897649096556670144:=()
def tw17383600456862891412:=()
def tw9259090052140369899:=()
def tw2488904703135175933:=()
def tw16872216122015152725:=()
def tw68935403176716293:=()
def tw16746670404469991874:=()
def tw7674048603284044399:=()
def tw17025260144894135394:=()
def tw932645175978044107:=()
def tw18188291774748962643:=()
def tw9761443618272535727:=()
def tw7436214994480183765:=()
def tw173806307695947677:=()
def tw2128715520263883453:=()
def tw1902024042830576936:=()
def tw10108168421843939795:=()
def tw859515966487834261:=()
def tw2101719982191435402:=()
def tw1646562282993700624:=()
def tw226532336035147831:=()
def tw11016604917363808348:=()
def tw14968994353108075408:=()
def tw15336720800783176315:=()
def tw17733057883830762845:=()
def tw6485732451490237506:=()
def tw3164557126649531369:=()
def tw5633734779961971971:=()
def tw14675639233147751492:=()
def tw13003142697477866364:=()
def tw14588303826373631238:=()
def tw8095000798124138388:=()
def tw8391382968601285647:=()
def tw15199085162082709086:=()
def tw517151909999571344:=()
def tw4967833060206489342:=()
def tw13805353297558822036:=()
def tw17986217047138230125:=()
def tw1946272456113579677:=()
def tw8441902013733258123:=()
def tw3628068695450990839:=()
def tw16535460080590095206:=()
def tw11002815648651449508:=()
def tw12120702069895552133:=()
def tw1330679187858405620:=()
def tw518601859545123261:=()
def tw12244882092869865931:=()
def tw5029193501535822487:=()
def tw8609856994596887474:=()
def tw4759993441874796704:=()
def tw6532352532359275072:=()
def tw8607525632836765532:=()
def tw8767143692948215178:=()
def tw6315573160785574577:=()
def tw11736223500372590629:=()
def tw13348943474803517824:=()
def tw6611570534634846841:=()
def tw7911841556097641624:=()
def tw5430331725203217193:=()
def tw15873075453762798398:=()
def tw13027255582284702435:=()
def tw571424575345560843:=()
def tw6069320573520025376:=()
def tw2915777938838069829:=()
def tw8033411611582272766:=()
def tw3516956958981664387:=()
def tw14652260002077552604:=()
def tw10416910988587856932:=()
def tw3623594114569730618:=()
def tw9244583192251323174:=()
def tw7726287537524745706:=()
def tw1349007526665016863:=()
def tw18151156967395791190:=()
def tw11067643939310552059:=()
def tw14174370385969519253:=()
def tw3753810340063819560:=()
def tw7365924465731216716:=()
def tw14416523182907521934:=()
def tw13082742510715620513:=()
def tw1279142074554434984:=()
def tw17175558788754851864:=()
def tw8191328477219440489:=()
def tw4143971121767710960:=()
def tw15524535512349132120:=()
def tw7365018838058771297:=()
def tw9393333684791725816:=()
def tw78797278203282928:=()
def tw10151372905507583993:=()
def tw8504732234352610024:=()
def tw11322646926589043359:=()
end PySem.W.Fast
set_option Elab.async false
set_option linter.all false
set_option maxRecDepth 100000
/-! THE HAND LAYER, for ints, bools, texts, own classes, LISTS and tuples (index, slices, in, append, pop ..), calls, loops. Paste it whole ahead of your own text; what your proof does not reach may be deleted. -/
namespace L2
open PySem PySem.Spec PyProof.Rows

/-- a key: an int or a str -/
noncomputable abbrev Key := Sum Int Str
noncomputable def keyIs : Key → Value → Bool
  | .inl k, v => Value.isInt k v
  | .inr x, v => Value.isStrOf x v
noncomputable def keyH (w : World) : Key → Int
  | .inl k => hashInt k
  | .inr x => hashStr w x
theorem keyIs_shape : ∀ {k : Key} {v : Value}, keyIs k v = true → (∃ i t, k = Sum.inl i ∧ v = Value.int i t) ∨ (∃ x t, k = Sum.inr x ∧ v = Value.str x t)
  | .inl i, v, h => by
    obtain ⟨t, e⟩ := Value.isInt_shape (k := i) (v := v) h
    exact .inl ⟨i, t, rfl, e⟩
  | .inr x, v, h => by
    obtain ⟨t, e⟩ := Value.isStrOf_shape (x := x) (v := v) h
    exact .inr ⟨x, t, rfl, e⟩
theorem keyIs_int (i : Int) (t : Tok) : keyIs (.inl i) (.int i t) = true := by simp [keyIs, Value.isInt]
theorem keyIs_str (x : Str) (t : Tok) : keyIs (.inr x) (.str x t) = true := by simp [keyIs, Value.isStrOf]
theorem key_ll (a b : Int) : decide ((Sum.inl a : Key) = Sum.inl b) = (a == b) := by
  by_cases e : a = b
  · subst e; simp
  · have h : ¬ (Sum.inl a : Key) = Sum.inl b := fun q => e (Sum.inl.inj q)
    rw [decide_eq_false h]
    exact (beq_eq_false_iff_ne.mpr e).symm
theorem key_rr (a b : Str) : decide ((Sum.inr a : Key) = Sum.inr b) = decide (a = b) := by
  by_cases e : a = b
  · subst e; simp
  · have h : ¬ (Sum.inr a : Key) = Sum.inr b := fun q => e (Sum.inr.inj q)
    rw [decide_eq_false h, decide_eq_false e]
theorem key_lr (a : Int) (b : Str) : decide ((Sum.inl a : Key) = Sum.inr b) = false := decide_eq_false (fun q => nomatch q)
theorem key_rl (a : Str) (b : Int) : decide ((Sum.inr a : Key) = Sum.inl b) = false := decide_eq_false (fun q => nomatch q)

noncomputable def mixKind (prog : Program) (w : World) : PySem.KeyKind prog w Key where
  is := keyIs
  hash := keyH w
  inj := fun v a b ha hb => by
    rcases keyIs_shape ha with ⟨i, t, rfl, rfl⟩ | ⟨x, t, rfl, rfl⟩
    · rcases keyIs_shape hb with ⟨j, u, rfl, e⟩ | ⟨y, u, rfl, e⟩
      · injection e with e1 _; rw [e1]
      · exact nomatch e
    · rcases keyIs_shape hb with ⟨j, u, rfl, e⟩ | ⟨y, u, rfl, e⟩
      · exact nomatch e
      · injection e with e1 _; rw [e1]
  byValue := fun k v h => by
    rcases keyIs_shape h with ⟨i, t, rfl, rfl⟩ | ⟨x, t, rfl, rfl⟩ <;> rfl
  pyHash := fun hv h => by
    rcases keyIs_shape hv with ⟨i, t, rfl, rfl⟩ | ⟨x, t, rfl, rfl⟩
    · exact wpAny_pyHash_int h
    · exact wpAny_pyHash_str h
  eqBool := fun hu hv h => by
    rcases keyIs_shape hu with ⟨i, t, rfl, rfl⟩ | ⟨x, t, rfl, rfl⟩
    · rcases keyIs_shape hv with ⟨j, u, rfl, rfl⟩ | ⟨y, u, rfl, rfl⟩
      · rw [key_ll] at h; exact wpAny_eqBool_int h
      · rw [key_lr] at h; exact SeqAt.EqAt.int_str i t y u _ _ _ _ h
    · rcases keyIs_shape hv with ⟨j, u, rfl, rfl⟩ | ⟨y, u, rfl, rfl⟩
      · rw [key_rl] at h; exact SeqAt.EqAt.str_int x t j u _ _ _ _ h
      · rw [key_rr] at h; exact wpAny_eqBool_str h
  «strs» := fun k x t v h => by
    rcases keyIs_shape h with ⟨i, u, rfl, e⟩ | ⟨y, u, rfl, e⟩
    · exact nomatch e
    · injection e with e1 _
      subst e1
      cases v <;> rfl

theorem mixKind_int (prog : Program) (w : World) (i : Int) (t : Tok) : (mixKind prog w).is (.inl i) (.int i t) = true := keyIs_int i t
theorem mixKind_str (prog : Program) (w : World) (x : Str) (t : Tok) : (mixKind prog w).is (.inr x) (.str x t) = true := keyIs_str x t
end L2

namespace L2
open PySem PySem.Spec PyProof.Rows

/-- a value, without the heap -/
inductive V where
  | non | bl (b : Bool) | int (i : Int) | str (x : Str) | byt (b : Array UInt8) | flt (b : UInt64) | ref (a : Addr) | ty (n : String)
  deriving DecidableEq

noncomputable def RelV : V → Value → Prop
  | .non, u => u = Value.none
  | .bl b, u => u = Value.bool b
  | .int i, u => ∃ t, u = Value.int i t
  | .str x, u => ∃ t, u = Value.str x t
  | .byt b, u => ∃ t, u = Value.bytes b t
  | .flt b, u => ∃ t, u = Value.float b t
  | .ref a, u => u = Value.ref a
  | .ty n, u => u = Value.type n

noncomputable abbrev Vals : List V → List Value → Prop := Paired RelV
theorem Vals.length {xs : List V} {us : List Value} (r : Vals xs us) : xs.length = us.length := Paired.length r
theorem Vals.get : ∀ {xs : List V} {us : List Value} {i : Nat} {x : V}, Vals xs us → xs[i]? = some x → ∃ u, us[i]? = some u ∧ RelV x u
  | _, _, _, _, .nil, e => by simp at e
  | _, _, 0, _, .cons r _, e => by simp at e; subst e; exact ⟨_, rfl, r⟩
  | _, _, i + 1, x, .cons _ t, e => by
    obtain ⟨u, h1, h2⟩ := Vals.get (i := i) (x := x) t (by simpa using e)
    exact ⟨u, by simpa using h1, h2⟩
theorem Vals.append : ∀ {xs ys : List V} {us ws : List Value}, Vals xs us → Vals ys ws → Vals (xs ++ ys) (us ++ ws)
  | _, _, _, _, .nil, s => s
  | _, _, _, _, .cons r t, s => .cons r (Vals.append t s)
theorem Vals.take : ∀ {xs : List V} {us : List Value} (n : Nat), Vals xs us → Vals (xs.take n) (us.take n)
  | _, _, 0, _ => .nil
  | _, _, _ + 1, .nil => .nil
  | _, _, n + 1, .cons r t => .cons r (Vals.take n t)
theorem Vals.drop : ∀ {xs : List V} {us : List Value} (n : Nat), Vals xs us → Vals (xs.drop n) (us.drop n)
  | _, _, 0, r => r
  | _, _, _ + 1, .nil => .nil
  | _, _, n + 1, .cons _ t => Vals.drop n t
noncomputable def RelO : Option V → Option Value → Prop
  | some v, some u => RelV v u
  | none, none => True
  | _, _ => False
noncomputable def KV {κ : Type} : List (κ × V) → List (κ × Value) → Prop := Paired fun (p : κ × V) (q : κ × Value) => p.1 = q.1 ∧ RelV p.2 q.2

/-- a key of a dict (00_mix): an int or a text -/
noncomputable def kV : Key → V
  | .inl i => .int i
  | .inr x => .str x

/-- what stands at a tracked address -/
inductive HO where
  /-- a list -/
  | lst (xs : List V)
  /-- a tuple (never changes) -/
  | tup (xs : List V)
  /-- a dict whose keys are ints and texts; one whose keys are tuples of ints and texts (the empty one is both) -/
  | dK (kvs : List (Key × V)) | dT (kvs : List (List Key × V))
  /-- a set of ints: its members, its size -/
  | set (S : Int → Bool) (n : Nat)
  /-- an instance of the class at C, its dict at dx, its attributes -/
  | ins (C dx : Addr) (fs : List (Str × V))
  /-- the dict of the instance at x -/
  | own (x : Addr)
  /-- the dict of an exception -/
  | xd (fs : List (Str × V))
  /-- a bound method, f of x -/
  | met (f x : Addr)
  /-- a range object lo, lo + 1, .. below hi -/
  | rng (lo hi : Int)
  /-- a thing that is known to the object (the script; a dict while a loop walks it): read, never written while it is so -/
  | frz (o : Obj) (u : HO)
  /-- a code object's table -/
  | tbl (ps : Array Value)
  /-- any other thing, by what is true of its one object (a def of one's own: SetO a S n := HO.ext fun h => ..) -/
  | ext (φ : Heap → Prop)

noncomputable abbrev Hp := Addr → Option HO
noncomputable def upd (H : Hp) (a : Addr) (o : HO) : Hp := fun b => if b = a then some o else H b
theorem upd_same {H : Hp} {a : Addr} {o : HO} : upd H a o a = some o := by unfold upd; rw [if_pos rfl]
theorem upd_ne {H : Hp} {a b : Addr} {o : HO} (h : b ≠ a) : upd H a o b = H b := by unfold upd; rw [if_neg h]
/-- two objects of different content stand apart -/
theorem ne_of {H : Hp} {a b : Addr} {o u : HO} (h : H a = some o) (h' : H b = some u) (d : o ≠ u) : a ≠ b := by
  intro e; subst e; rw [h] at h'; exact d (Option.some.inj h')
theorem ne_of_none {H : Hp} {a b : Addr} {o : HO} (h : H a = some o) (h' : H b = none) : a ≠ b := by
  intro e; subst e; rw [h] at h'; cases h'

section
variable (P : Program) (w : World)
noncomputable def ObjOk (H : Hp) (h : Heap) (a : Addr) : HO → Prop
  | .lst xs => xs.length ≤ sizeLine ∧ ∃ (its : List Value) (n : Nat), Vals xs its ∧ h.get? a = some { cls := .type "list", data := .seq its.toArray n }
  | .tup xs => xs.length ≤ sizeLine ∧ ∃ its : List Value, Vals xs its ∧ IsTup h a its.toArray
  | .dK kvs => kvs.length ≤ sizeLine ∧ (a == sysModules) = false ∧ ∃ vs, KV kvs vs ∧ h.DictOf (mixKind P w) a vs
  | .dT kvs => kvs.length ≤ sizeLine ∧ (a == sysModules) = false ∧ ∃ xs : List (List Key × Addr × Value),
      Paired (fun (p : List Key × V) (q : List Key × Addr × Value) => p.1 = q.1 ∧ H q.2.1 = some (.tup (p.1.map kV)) ∧ RelV p.2 q.2.2) kvs xs ∧
      ∃ o es ep, h.get? a = some o ∧ o.ExactDict ∧ o.data = .dict es ep ∧ es.toList = xs.map (entryOfKey (tupleKind (mixKind P w))) ∧ (xs.map (·.1)).Nodup
  | .set S n => h.SetOf (intKind P w) a S n
  | .ins C dx fs => H dx = some (.own a) ∧ fs.length ≤ 1000 ∧ dx ≠ a ∧ h.get? a = some (PySem.W.instObj C dx) ∧
      ∃ mA, h.Ns1 dx mA ∧ (∀ f, RelO (fs.lookup f) (mA f)) ∧ PySem.Within mA (fs.map (·.1))
  | .own _ => ∃ o, h.get? a = some o
  | .xd fs => ∃ mA, h.Ns1 a mA ∧ ∀ f, RelO (fs.lookup f) (mA f)
  | .rng lo hi => ∃ t u v, h.get? a = some { cls := .type "range", data := .fields #[.int lo t, .int hi u, .int 1 v] }
  | .frz o u => h.get? a = some o ∧ ObjOk H h a u
  | .tbl ps => h.get? a = some { cls := .none, data := .fields ps }
  | .met f x => h.get? a = some (PySem.W.methodObj (.ref f) (.ref x))
  | .ext φ => φ h ∧ (∃ o, h.get? a = some o) ∧ ∀ h1 h2 : Heap, φ h1 → (∀ o, h1.get? a = some o → h2.get? a = some o) → φ h2
/-- the abstract heap is held -/
noncomputable def HOk (H : Hp) (h : Heap) : Prop := ∀ a o, H a = some o → ObjOk P w H h a o
end

section
variable {P : Program} {w : World} {H H' : Hp} {h h' : Heap} {a : Addr} {o : HO}
theorem ObjOk.lt (x : ObjOk P w H h a o) : a < h.objs.size := by
  cases o with
  | lst xs => obtain ⟨_, _, _, _, e⟩ := x; exact Heap.lt_size e
  | tup xs => obtain ⟨_, _, _, p⟩ := x; exact p.lt
  | dK kvs => obtain ⟨_, _, _, _, o, _, _, e, _⟩ := x; exact Heap.lt_size e
  | dT kvs => obtain ⟨_, _, _, _, o, _, _, e, _⟩ := x; exact Heap.lt_size e
  | set S n => obtain ⟨o, _, _, _, e, _⟩ := x; exact Heap.lt_size e
  | ins C dx fs => obtain ⟨_, _, _, e, _⟩ := x; exact Heap.lt_size e
  | own y => obtain ⟨_, e⟩ := x; exact Heap.lt_size e
  | xd fs => obtain ⟨_, ⟨_, _, _, e, _⟩, _⟩ := x; exact Heap.lt_size e
  | rng lo hi => obtain ⟨_, _, _, e⟩ := x; exact Heap.lt_size e
  | frz ob u => obtain ⟨e, _⟩ := x; exact Heap.lt_size e
  | tbl ps => exact Heap.lt_size (show h.get? a = some _ from x)
  | met f y => exact Heap.lt_size (show h.get? a = some _ from x)
  | ext φ => obtain ⟨_, ⟨_, e⟩, _⟩ := x; exact Heap.lt_size e
theorem Paired.mapP {α β : Type} {F G : α → β → Prop} : ∀ {l₁ : List α} {l₂ : List β}, Paired F l₁ l₂ → (∀ a b, F a b → G a b) → Paired G l₁ l₂
  | _, _, .nil, _ => .nil
  | _, _, .cons r t, f => .cons (f _ _ r) (Paired.mapP t f)
/-- what an object's description leans on: its own object, its own dict, the tuples -/
theorem ObjOk.stay (x : ObjOk P w H h a o) (k : ∀ b u, (b = a ∨ H b = some (.own a)) → h.get? b = some u → h'.get? b = some u)
    (ho : ∀ b, H b = some (.own a) → H' b = some (.own a)) (ht : ∀ b xs, H b = some (.tup xs) → H' b = some (.tup xs)) : ObjOk P w H' h' a o := by
  induction o with
  | lst xs => obtain ⟨z, its, n, r, e⟩ := x; exact ⟨z, its, n, r, k _ _ (.inl rfl) e⟩
  | tup xs => obtain ⟨z, its, r, ob, e, c⟩ := x; exact ⟨z, its, r, ob, k _ _ (.inl rfl) e, c⟩
  | dK kvs => obtain ⟨z, y, vs, r, ob, es, ep, e, c⟩ := x; exact ⟨z, y, vs, r, ob, es, ep, k _ _ (.inl rfl) e, c⟩
  | dT kvs =>
    obtain ⟨z, y, xs, r, ob, es, ep, e, c⟩ := x
    exact ⟨z, y, xs, Paired.mapP r fun p q z => ⟨z.1, ht _ _ z.2.1, z.2.2⟩, ob, es, ep, k _ _ (.inl rfl) e, c⟩
  | set S n => obtain ⟨ob, es, ep, t, e, c⟩ := x; exact ⟨ob, es, ep, t, k _ _ (.inl rfl) e, c⟩
  | ins C dx fs =>
    obtain ⟨d, z, ne, e, mA, ⟨od, es, ep, e2, c⟩, r⟩ := x
    exact ⟨ho _ d, z, ne, k _ _ (.inl rfl) e, mA, ⟨od, es, ep, k _ _ (.inr d) e2, c⟩, r⟩
  | own y => obtain ⟨ob, e⟩ := x; exact ⟨ob, k _ _ (.inl rfl) e⟩
  | xd fs => obtain ⟨mA, ⟨od, es, ep, e, c⟩, r⟩ := x; exact ⟨mA, ⟨od, es, ep, k _ _ (.inl rfl) e, c⟩, r⟩
  | rng lo hi => obtain ⟨t, u, v, e⟩ := x; exact ⟨t, u, v, k _ _ (.inl rfl) e⟩
  | frz ob u ih => obtain ⟨e, q⟩ := x; exact ⟨k _ _ (.inl rfl) e, ih q⟩
  | tbl ps =>
    have e : h.get? a = some { cls := .none, data := .fields ps } := x
    show h'.get? a = some { cls := .none, data := .fields ps }
    exact k a _ (.inl rfl) e
  | met f y =>
    have e : h.get? a = some (PySem.W.methodObj (.ref f) (.ref y)) := x
    show h'.get? a = some (PySem.W.methodObj (.ref f) (.ref y))
    exact k a _ (.inl rfl) e
  | ext φ => obtain ⟨p, ⟨o, e⟩, st⟩ := x; exact ⟨st _ _ p fun o q => k _ _ (.inl rfl) q, ⟨o, k _ _ (.inl rfl) e⟩, st⟩
theorem HOk.lt (x : HOk P w H h) (e : H a = some o) : a < h.objs.size := (x a o e).lt
theorem HOk.fresh (x : HOk P w H h) (e : h.objs.size ≤ a) : H a = none := by
  cases q : H a with
  | none => rfl
  | some u => exact absurd (Nat.lt_of_lt_of_le (x.lt q) e) (Nat.lt_irrefl _)
/-- every object of the heap is kept -/
theorem HOk.kept (x : HOk P w H h) (k : ∀ b u, h.get? b = some u → h'.get? b = some u) : HOk P w H h' := fun a o e =>
  (x a o e).stay (fun b u _ q => k b u q) (fun _ q => q) fun _ _ q => q
/-- a new object is laid and tracked -/
theorem HOk.laid (x : HOk P w H h) (k : ∀ b u, h.get? b = some u → h'.get? b = some u) (hp : h.objs.size ≤ a) (new : ObjOk P w (upd H a o) h' a o) : HOk P w (upd H a o) h' := fun b u e => by
  have hn := x.fresh hp
  by_cases hb : b = a
  · subst hb; rw [upd_same] at e; cases e; exact new
  · rw [upd_ne hb] at e
    exact (x b u e).stay (fun c v _ q => k c v q) (fun c q => by rw [upd_ne (ne_of_none q hn)]; exact q) fun c xs q => by rw [upd_ne (ne_of_none q hn)]; exact q
end

/-- what may be read as u: it is u, or a known u -/
noncomputable def Rd (H : Hp) (a : Addr) (u : HO) : Prop := H a = some u ∨ ∃ o, H a = some (.frz o u)
theorem Rd.of {H : Hp} {a : Addr} {u : HO} (h : H a = some u) : Rd H a u := .inl h
theorem Rd.ok {P : Program} {w : World} {H : Hp} {h : Heap} {a : Addr} {u : HO} (r : Rd H a u) (x : HOk P w H h) : ObjOk P w H h a u := by
  rcases r with r | ⟨o, r⟩
  · exact x a u r
  · obtain ⟨_, q⟩ := x a _ r
    exact q
/-- what may be written -/
noncomputable def Mut : Option HO → Prop
  | some (.lst _) => True
  | some (.dK _) => True
  | some (.dT _) => True
  | some (.set _ _) => True
  | some (.ins _ _ _) => True
  | some (.ext _) => True
  | _ => False
section
variable {P : Program} {w : World} {H : Hp} {h h' : Heap} {x e : Addr} {o' : HO}
/-- the object at e is changed: x itself, or the dict of the instance x -/
theorem HOk.write (ok : HOk P w H h) (mu : Mut (H x)) (he : e = x ∨ H e = some (.own x)) (k : ∀ b u, b ≠ e → h.get? b = some u → h'.get? b = some u) (heo : ∃ u, h'.get? e = some u)
    (new : ObjOk P w (upd H x o') h' x o') : HOk P w (upd H x o') h' := fun b u q => by
  have nown : ∀ c y, H c = some (.own y) → c ≠ x := fun c y r z => by subst z; rw [r] at mu; exact mu
  have ntup : ∀ c xs, H c = some (.tup xs) → c ≠ x := fun c xs r z => by subst z; rw [r] at mu; exact mu
  by_cases hb : b = x
  · subst hb; rw [upd_same] at q; cases q; exact new
  · rw [upd_ne hb] at q
    by_cases hbe : b = e
    · have q' : H b = some (.own x) := by
        rcases he with z | z
        · exact absurd (hbe.trans z) hb
        · rw [hbe]; exact z
      rw [q] at q'; cases q'
      obtain ⟨v, hv⟩ := heo
      exact ⟨v, by rw [hbe]; exact hv⟩
    · refine (ok b u q).stay (fun c v hc r => k c v ?_ r) (fun c r => by rw [upd_ne (nown c b r)]; exact r) fun c xs r => by rw [upd_ne (ntup c xs r)]; exact r
      rcases hc with rfl | hc
      · exact hbe
      · rintro rfl
        rcases he with z | z
        · exact nown c b hc z
        · rw [hc] at z; cases z; exact hb rfl
end

/-! ### kept unless tracked; of the frames at fs (the callers') the slots may change (an exception that passes writes there); of the records at ex (iterators) nothing is said -/
structure Un (fs ex : List Addr) (H H' : Hp) (h h' : Heap) : Prop where
  keep : ∀ b o, h.get? b = some o → H b = none → b ∉ fs → b ∉ ex → h'.get? b = some o
  slot : ∀ b o, h.get? b = some o → H b = none → b ∈ fs → b ∉ ex → ∃ sl, h'.get? b = some { o with slots := sl }
  free : ∀ b o, h.get? b = some o → H b = none → b ∉ ex → H' b = none
  there : ∀ b o, h.get? b = some o → b ∉ ex → ∃ o', h'.get? b = some o'
  tups : ∀ b xs, H b = some (.tup xs) → H' b = some (.tup xs)
  frzs : ∀ b o u, H b = some (.frz o u) → H' b = some (.frz o u)
  tbls : ∀ b ps, H b = some (.tbl ps) → ∃ more, H' b = some (.tbl (ps ++ more))
section
variable {fs fs' ex ex' : List Addr} {H H1 H2 : Hp} {h h1 h2 h' : Heap} {a x e : Addr} {o : HO}
theorem Un.any (u : Un fs ex H H1 h h1) {b : Addr} {ob : Obj} (q : h.get? b = some ob) (n : H b = none) (hx : b ∉ ex) : ∃ sl, h1.get? b = some { ob with slots := sl } := by
  by_cases hb : b ∈ fs
  · exact u.slot b ob q n hb hx
  · exact ⟨ob.slots, u.keep b ob q n hb hx⟩
theorem Un.trans (a : Un fs ex H H1 h h1) (b : Un fs ex H1 H2 h1 h2) : Un fs ex H H2 h h2 where
  keep := fun c ob q n hc hx => b.keep c ob (a.keep c ob q n hc hx) (a.free c ob q n hx) hc hx
  slot := fun c ob q n hc hx => by
    obtain ⟨sl, e1⟩ := a.slot c ob q n hc hx
    obtain ⟨sl', e2⟩ := b.slot c _ e1 (a.free c ob q n hx) hc hx
    exact ⟨sl', e2⟩
  free := fun c ob q n hx => by
    obtain ⟨o', e1⟩ := a.there c ob q hx
    exact b.free c o' e1 (a.free c ob q n hx) hx
  there := fun c ob q hx => by
    obtain ⟨o', e1⟩ := a.there c ob q hx
    exact b.there c o' e1 hx
  tups := fun c xs q => b.tups c xs (a.tups c xs q)
  frzs := fun c ob xs q => b.frzs c ob xs (a.frzs c ob xs q)
  tbls := fun c ps q => by
    obtain ⟨m1, e1⟩ := a.tbls c ps q
    obtain ⟨m2, e2⟩ := b.tbls c _ e1
    exact ⟨m1 ++ m2, by rw [e2, Array.append_assoc]⟩
theorem Un.kept (k : ∀ b u, h.get? b = some u → h'.get? b = some u) : Un fs ex H H h h' :=
  ⟨fun b ob q _ _ _ => k b ob q, fun b ob q _ _ _ => ⟨ob.slots, k b ob q⟩, fun _ _ _ n _ => n, fun b ob q _ => ⟨ob, k b ob q⟩, fun _ _ q => q, fun _ _ _ q => q, fun _ ps q => ⟨#[], by rw [q]; simp⟩⟩
theorem Un.refl : Un fs ex H H h h := Un.kept fun _ _ q => q
theorem Un.laid (k : ∀ b u, h.get? b = some u → h'.get? b = some u) (hp : h.objs.size ≤ a) (hn : H a = none) : Un fs ex H (upd H a o) h h' where
  keep := fun b u q _ _ _ => k b u q
  slot := fun b u q _ _ _ => ⟨u.slots, k b u q⟩
  free := fun b u q n _ => by rw [upd_ne (Nat.ne_of_lt (Nat.lt_of_lt_of_le (Heap.lt_size q) hp))]; exact n
  there := fun b u q _ => ⟨u, k b u q⟩
  tups := fun b xs q => by rw [upd_ne (ne_of_none q hn)]; exact q
  frzs := fun b u xs q => by rw [upd_ne (ne_of_none q hn)]; exact q
  tbls := fun b ps q => ⟨#[], by rw [upd_ne (ne_of_none q hn), q]; simp⟩
theorem Un.write (mu : Mut (H x)) (he : e = x ∨ H e = some (.own x)) (k : ∀ b u, b ≠ e → h.get? b = some u → h'.get? b = some u) (heo : ∃ u, h'.get? e = some u) : Un fs ex H (upd H x o) h h' := by
  have hx : ∀ b, H b = none → b ≠ x := fun b n z => by subst z; rw [n] at mu; exact mu
  have hb : ∀ b, H b = none → b ≠ e := fun b n z => by
    subst z
    rcases he with r | r
    · exact hx b n r
    · rw [n] at r; cases r
  have hm : ∀ b u, H b = some u → ¬ Mut (some u) → b ≠ x := fun b u q nm z => by subst z; rw [q] at mu; exact nm mu
  refine ⟨fun b u q n _ _ => k b u (hb b n) q, fun b u q n _ _ => ⟨u.slots, k b u (hb b n) q⟩, fun b u q n _ => by rw [upd_ne (hx b n)]; exact n, fun b u q _ => ?_,
    fun b xs q => by rw [upd_ne (hm b _ q fun z => z)]; exact q, fun b u xs q => by rw [upd_ne (hm b _ q fun z => z)]; exact q, fun b ps q => ⟨#[], by rw [upd_ne (hm b _ q fun z => z), q]; simp⟩⟩
  by_cases hbe : b = e
  · subst hbe; exact heo
  · exact ⟨u, k b u hbe q⟩
theorem Un.mono (u : Un fs ex H H1 h h1) (hs : ∀ b ∈ fs, b ∈ fs') (hx : ∀ b ∈ ex, b ∈ ex') : Un fs' ex' H H1 h h1 :=
  ⟨fun b ob q n hb he => u.keep b ob q n (fun z => hb (hs b z)) fun z => he (hx b z), fun _ _ q n _ he => u.any q n fun z => he (hx _ z), fun b ob q n he => u.free b ob q n fun z => he (hx b z), fun b ob q he => u.there b ob q fun z => he (hx b z), u.tups, u.frzs, u.tbls⟩
end

/-! ### the heap without what is tracked -/
noncomputable def trk (h : Heap) (H : Hp) : List Addr := (List.range h.objs.size).filter fun a => (H a).isSome
noncomputable def hidT (h : Heap) (H : Hp) : Heap := PySem.W.hideAll h (trk h H)
theorem hidT_size (h : Heap) (H : Hp) : (hidT h H).objs.size = h.objs.size := PySem.W.hideAll_size _ _
theorem hidT_get {h : Heap} {H : Hp} {b : Addr} {o : Obj} (e : h.get? b = some o) (n : H b = none) : (hidT h H).get? b = some o :=
  PySem.W.hideAll_get _ e fun hm => by
    have q : (H b).isSome = true := (List.mem_filter.mp hm).2
    rw [n] at q; simp at q
theorem of_hidT {h : Heap} {H : Hp} {b : Addr} {o : Obj} (e : (hidT h H).get? b = some o) : h.get? b = some o ∧ H b = none := by
  have e' : h.get? b = some o := PySem.W.of_hideAll (trk h H) e
  refine ⟨e', ?_⟩
  cases q : H b with
  | none => rfl
  | some x =>
    have hm : b ∈ trk h H := List.mem_filter.mpr ⟨List.mem_range.mpr (Heap.lt_size e'), by simp [q]⟩
    have z : (hidT h H).get? b = none := PySem.W.hideAll_none (trk h H) hm
    rw [z] at e; cases e

/-! ### OpenK's ledger, filled with every new object but one -/
noncomputable def allNews (g h : Heap) (L : Addr) : List (Addr × Obj) := (List.range h.objs.size).filterMap fun a => if a = L ∨ (g.get? a).isSome = true then none else (h.get? a).map fun o => (a, o)
noncomputable def rest (g h : Heap) (L d : Addr) : List (Addr × Obj) := (allNews g h L).filter fun p => decide (p.1 ≠ d)
end L2

namespace L2
open PySem PySem.Spec PyProof.Rows

/-- the module's facts, over the base: the heap at the law's entry without what is tracked there -/
structure Mod (K : PySem.W.Frag) (mg : Str → Option Value) (base : Heap) : Prop where
  kin : K.In base
  glob : base.Ns mainGlobals mg
  blt : ∃ mb, base.Ns builtinsNs mb ∧ ∀ x : Str, x ≠ "__name__" → mb x = bootBuiltins x
  nolimit : base.NoLimit

/-- the context: a def's body (or a comprehension's block) running. base: fixed through the whole law; s₀, H₀: the entry; outer: the frames whose slots others may change (a def's callers); stack: all frames that run;
   ex: iterators that were made ahead of the entry and are walked here (a comprehension's); fn: the names whose cells were made at the entry (a def: all; a comprehension's block: its own); calm: not within an except suite; pn: pins that every state bears; xe: what is wanted of an exception that leaves the code -/
structure Cx where
  prog : Program
  w : World
  K : PySem.W.Frag
  mg : Str → Option Value
  base : Heap
  A : Around
  N : List Str
  s₀ : Shared
  H₀ : Hp
  env : Env
  outer : List Env
  stack : List Env
  ex : List Addr
  fn : Str → Bool
  calm : Bool
  pn : List (Addr × Obj)
  xe : Value → Shared → Prop
/-- the callers' frames -/
noncomputable def frs (l : List Env) : List Addr := l.filterMap (·.frame)
noncomputable abbrev Cx.fs (X : Cx) : List Addr := frs X.outer

noncomputable def Vis (sc : Scope) (x : Str) : Prop := sc.names.lookup x = some .local ∨ sc.names.lookup x = some .cell ∨ sc.names.lookup x = some .free
noncomputable def Loc (sc : Scope) (x : Str) : Prop := sc.names.lookup x = some .local ∨ sc.names.lookup x = some .cell
noncomputable def Look (env : Env) (h : Heap) (m : Str → Option Value) (x : Str) (u : Value) : Prop :=
  (env.kindOf x = some .local ∧ m x = some u) ∨ ((env.kindOf x = some .cell ∨ env.kindOf x = some .free) ∧ ∃ c, env.cells.lookup x = some c ∧ h.IsCell c (some u))

structure Cx.Ok (X : Cx) : Prop where
  mod : Mod X.K X.mg X.base
  kind : X.env.scope.kind = .function
  glob : X.env.globals = mainGlobals
  blt : X.env.builtins = builtinsNs
  above : X.s₀.heap.objs.size ≤ X.env.locals
  inj : ∀ x y c, X.env.cells.lookup x = some c → X.env.cells.lookup y = some c → x = y
  has : ∀ x, (X.env.kindOf x = some .cell ∨ X.env.kindOf x = some .free) → ∃ c, X.env.cells.lookup x = some c
  cab : ∀ x c, X.fn x = true → X.env.cells.lookup x = some c → X.s₀.heap.objs.size ≤ c
  hd : X.calm = true → X.A.handled = none
  frames : X.A.frames = some X.stack
  stk : X.stack = X.outer ∨ (X.stack = X.env :: X.outer ∧ X.env.frame = some X.env.locals)
  exf : ∀ b ∈ X.ex, b ≠ X.env.locals ∧ ∀ x c, X.env.cells.lookup x = some c → c ≠ b
  bs : ∀ b o, X.base.get? b = some o → X.s₀.heap.get? b = some o ∧ X.H₀ b = none
  bsz : X.base.objs.size ≤ X.s₀.heap.objs.size
  noex : ∀ b o, X.base.get? b = some o → b ∉ X.ex
  exfs : ∀ b ∈ X.ex, b ∉ X.fs
  funs : X.s₀.heap.FunFrames X.base X.outer
  frf : ∀ b ∈ X.fs, X.H₀ b = none

structure Inv (X : Cx) (pins : List (Addr × Obj)) (σ : List (Option V)) (H : Hp) (s : Shared) : Prop where
  ok : X.Ok
  os : s.os = X.s₀.os
  bare : AllBare s.gens
  base : Un X.fs X.ex X.H₀ H X.s₀.heap s.heap
  loc : ∃ m, s.heap.Ns X.env.locals m ∧ ∀ (i : Nat) (x : Str) (v : V), X.N[i]? = some x → σ[i]? = some (some v) → Vis X.env.scope x → ∃ u, RelV v u ∧ Look X.env s.heap m x u
  cell : ∀ x c, X.env.cells.lookup x = some c → ∃ v, s.heap.IsCell c v
  free : H X.env.locals = none
  freeC : ∀ x c, X.env.cells.lookup x = some c → H c = none
  pin : ∀ p ∈ X.pn ++ pins, s.heap.get? p.1 = some p.2 ∧ H p.1 = none ∧ p.1 ≠ X.env.locals ∧ p.1 ∉ X.fs ∧ ∀ v, p.2.data ≠ .cell v
  hok : HOk X.prog X.w H s.heap
  len : σ.length = X.N.length

section
variable {X : Cx} {pins : List (Addr × Obj)} {σ : List (Option V)} {H H' : Hp} {s : Shared} {h' : Heap}

theorem Cx.Ok.nofr (ok : X.Ok) {b : Addr} {o : Obj} (e : X.base.get? b = some o) : b ∉ X.fs := fun hb => by
  have := (ok.funs.mem hb).1
  rw [e] at this; cases this
theorem Inv.bs (I : Inv X pins σ H s) : ∀ b o, X.base.get? b = some o → s.heap.get? b = some o ∧ H b = none := fun b o e =>
  ⟨I.base.keep b o (I.ok.bs b o e).1 (I.ok.bs b o e).2 (I.ok.nofr e) (I.ok.noex b o e), I.base.free b o (I.ok.bs b o e).1 (I.ok.bs b o e).2 (I.ok.noex b o e)⟩
theorem Inv.bk (I : Inv X pins σ H s) : ∀ b o, X.base.get? b = some o → s.heap.get? b = some o := fun b o e => (I.bs b o e).1
theorem Inv.mod (I : Inv X pins σ H s) : Mod X.K X.mg X.base := I.ok.mod
theorem Inv.kIn (I : Inv X pins σ H s) : X.K.In s.heap := I.ok.mod.kin.keeps I.bk
/-- the frame over the base: for OpenK's rules (K.In X.base is I.mod.kin) -/
theorem Inv.fr (I : Inv X pins σ H s) : ∃ m, Fr X.base X.env.locals s.heap m :=
  let ⟨m, hn, _⟩ := I.loc
  ⟨m, hn, I.bk, Nat.le_trans I.ok.bsz I.ok.above⟩
theorem Inv.lt (I : Inv X pins σ H s) : X.env.locals < s.heap.objs.size := let ⟨_, hn, _⟩ := I.loc; hn.lt
theorem Inv.sz (I : Inv X pins σ H s) : X.s₀.heap.objs.size ≤ s.heap.objs.size := Nat.le_trans I.ok.above (Nat.le_of_lt I.lt)
theorem Inv.nofs (I : Inv X pins σ H s) {a : Addr} (h : s.heap.objs.size ≤ a) : a ∉ X.fs := fun hb => by
  obtain ⟨_, o, ho, _⟩ := I.ok.funs.mem hb
  exact absurd (Nat.lt_of_lt_of_le (Heap.lt_size ho) (Nat.le_trans I.sz h)) (Nat.lt_irrefl _)
theorem Inv.cne (I : Inv X pins σ H s) : ∀ x c, X.env.cells.lookup x = some c → c ≠ X.env.locals := fun x c e z => by
  obtain ⟨v, o, ho, hd⟩ := I.cell x c e
  obtain ⟨m, ⟨o', es, ep, ho', hd', _⟩, _⟩ := I.loc
  rw [z, ho'] at ho; cases ho; rw [hd'] at hd; cases hd
theorem Inv.funs (I : Inv X pins σ H s) : s.heap.FunFrames X.base X.outer := by
  have all : ∀ (l : List Env), (∀ b ∈ frs l, b ∈ X.fs) → X.s₀.heap.FunFrames X.base l → s.heap.FunFrames X.base l := by
    intro l
    induction l with
    | nil => intro _ _; trivial
    | cons env r ih =>
      intro hs hl
      obtain ⟨hk, ⟨L, o, hf, hn, ho, hd⟩, hr⟩ := hl
      have hL : L ∈ X.fs := hs L (by unfold frs; rw [List.filterMap_cons, hf]; exact List.mem_cons_self)
      obtain ⟨sl, e⟩ := I.base.slot L o ho (I.ok.frf L hL) hL fun z => I.ok.exfs L z hL
      exact ⟨hk, ⟨L, _, hf, hn, e, hd⟩, ih (fun b hb => hs b (by unfold frs; rw [List.filterMap_cons, hf]; exact List.mem_cons_of_mem _ hb)) hr⟩
  exact all X.outer (fun _ hb => hb) I.ok.funs

/-- the frames that run, for a call -/
theorem Inv.stack (I : Inv X pins σ H s) : s.heap.FunFrames X.base X.stack := by
  rcases I.ok.stk with e | ⟨e, hf⟩
  · rw [e]; exact I.funs
  · rw [e]
    obtain ⟨m, hn, _⟩ := I.loc
    refine .cons (by rw [I.ok.kind]; decide) hf hn ?_ I.funs
    exact Heap.get?_none_of_le (Nat.le_trans I.ok.bsz I.ok.above)
theorem Inv.stkSub (I : Inv X pins σ H s) : ∀ b ∈ frs X.stack, b ∈ X.env.locals :: X.fs := fun b hb => by
  rcases I.ok.stk with e | ⟨e, hf⟩
  · rw [e] at hb; exact List.mem_cons_of_mem _ hb
  · rw [e] at hb
    unfold frs at hb
    rw [List.filterMap_cons, hf] at hb
    exact hb
theorem Inv.stkFree (I : Inv X pins σ H s) : ∀ b ∈ frs X.stack, H b = none := fun b hb => by
  rcases List.mem_cons.mp (I.stkSub b hb) with e | hb
  · rw [e]; exact I.free
  · obtain ⟨_, o, ho, _⟩ := I.ok.funs.mem hb
    exact I.base.free b o ho (I.ok.frf b hb) fun z => I.ok.exfs b z hb

/-- THE STEP: the untracked objects but the frame and the records at ch are kept (the callers' frames up to slots), the frame's map is kept, the new abstract heap is held -/
theorem Inv.step {g' : Array GenState} {t' : Nat} {d' : Drawn} {ch : List Addr} (I : Inv X pins σ H s)
    (hch : ∀ b ∈ ch, (b ∈ X.ex ∨ X.s₀.heap.objs.size ≤ b) ∧ b ≠ X.env.locals ∧ (∀ x c, X.env.cells.lookup x = some c → c ≠ b) ∧ ∀ p ∈ X.pn ++ pins, p.1 ≠ b)
    (keep : ∀ b o, b ≠ X.env.locals → b ∉ X.fs → b ∉ ch → s.heap.get? b = some o → H b = none → h'.get? b = some o)
    (slot : ∀ b o, b ≠ X.env.locals → b ∈ X.fs → b ∉ ch → s.heap.get? b = some o → H b = none → ∃ sl, h'.get? b = some { o with slots := sl }) (free : ∀ b o, b ∉ ch → s.heap.get? b = some o → H b = none → H' b = none)
    (there : ∀ b o, b ∉ ch → s.heap.get? b = some o → ∃ o', h'.get? b = some o')
    (tups : ∀ b xs, H b = some (.tup xs) → H' b = some (.tup xs)) (frzs : ∀ b o u, H b = some (.frz o u) → H' b = some (.frz o u)) (tbls : ∀ b ps, H b = some (.tbl ps) → ∃ more, H' b = some (.tbl (ps ++ more)))
    (ns : ∀ m, s.heap.Ns X.env.locals m → h'.Ns X.env.locals m) (hok : HOk X.prog X.w H' h') (hg : AllBare g') :
    Inv X pins σ H' { s with heap := h', gens := g', drawn := d', toks := t' } := by
  have neL : ∀ b o, X.s₀.heap.get? b = some o → b ≠ X.env.locals := fun b o e => Nat.ne_of_lt (Nat.lt_of_lt_of_le (Heap.lt_size e) I.ok.above)
  have neC : ∀ b o, X.s₀.heap.get? b = some o → b ∉ X.ex → b ∉ ch := fun b o e hx hb => by
    rcases (hch b hb).1 with z | z
    · exact hx z
    · exact absurd (Nat.lt_of_lt_of_le (Heap.lt_size e) z) (Nat.lt_irrefl _)
  have cellK : ∀ x c, X.env.cells.lookup x = some c → ∀ v, s.heap.IsCell c v → h'.IsCell c v := fun x c e v ⟨o, ho, hd⟩ => by
    have nch : c ∉ ch := fun z => (hch c z).2.2.1 x c e rfl
    by_cases hc : c ∈ X.fs
    · obtain ⟨sl, q⟩ := slot c o (I.cne x c e) hc nch ho (I.freeC x c e)
      exact ⟨_, q, hd⟩
    · exact ⟨o, keep c o (I.cne x c e) hc nch ho (I.freeC x c e), hd⟩
  refine ⟨I.ok, I.os, hg, ⟨fun b o e n hb hx => ?_, fun b o e n hb hx => ?_, fun b o e n hx => ?_, fun b o e hx => ?_, fun b xs e => tups b xs (I.base.tups b xs e), fun b o xs e => frzs b o xs (I.base.frzs b o xs e), fun b ps e => ?_⟩, ?_, fun x c e => ?_, ?_, fun x c e => ?_, fun p hp => ?_, hok, I.len⟩
  · exact keep b o (neL b o e) hb (neC b o e hx) (I.base.keep b o e n hb hx) (I.base.free b o e n hx)
  · obtain ⟨sl, e1⟩ := I.base.slot b o e n hb hx
    obtain ⟨sl', e2⟩ := slot b _ (neL b o e) hb (neC b o e hx) e1 (I.base.free b o e n hx)
    exact ⟨sl', e2⟩
  · obtain ⟨o', e1⟩ := I.base.there b o e hx
    exact free b o' (neC b o e hx) e1 (I.base.free b o e n hx)
  · obtain ⟨o', e1⟩ := I.base.there b o e hx
    exact there b o' (neC b o e hx) e1
  · obtain ⟨m1, e1⟩ := I.base.tbls b ps e
    obtain ⟨m2, e2⟩ := tbls b _ e1
    exact ⟨m1 ++ m2, by rw [e2, Array.append_assoc]⟩
  · obtain ⟨m, hn, hl⟩ := I.loc
    refine ⟨m, ns m hn, fun i x v e1 e2 e3 => ?_⟩
    obtain ⟨u, r, l⟩ := hl i x v e1 e2 e3
    refine ⟨u, r, ?_⟩
    rcases l with l | ⟨k, c, e, z⟩
    · exact .inl l
    · exact .inr ⟨k, c, e, cellK x c e _ z⟩
  · obtain ⟨v, z⟩ := I.cell x c e
    exact ⟨v, cellK x c e v z⟩
  · obtain ⟨m, ⟨o, _, _, ho, _⟩, _⟩ := I.loc
    exact free _ o (fun z => (hch _ z).2.1 rfl) ho I.free
  · obtain ⟨v, o, ho, hd⟩ := I.cell x c e
    exact free c o (fun z => (hch c z).2.2.1 x c e rfl) ho (I.freeC x c e)
  · obtain ⟨e, n, ne, nf, d⟩ := I.pin p hp
    have nch : p.1 ∉ ch := fun z => (hch p.1 z).2.2.2 p hp rfl
    exact ⟨keep p.1 p.2 ne nf nch e n, free p.1 p.2 nch e n, ne, nf, d⟩
/-- .. where the frame's own object is kept too -/
theorem Inv.un {t' : Nat} (I : Inv X pins σ H s) (u : Un X.fs [] H H' s.heap h') (hok : HOk X.prog X.w H' h') : Inv X pins σ H' { s with heap := h', toks := t' } := by
  obtain ⟨m, ⟨o, es, ep, ho, r⟩, _⟩ := id I.loc
  obtain ⟨sl, hL⟩ := u.any ho I.free (by simp)
  exact I.step (g' := s.gens) (d' := s.drawn) (ch := []) (fun _ z => nomatch z) (fun b o _ hb _ e n => u.keep b o e n hb (by simp)) (fun b o _ hb _ e n => u.slot b o e n hb (by simp)) (fun b o _ e n => u.free b o e n (by simp)) (fun b o _ e => u.there b o e (by simp)) u.tups u.frzs u.tbls (fun m' hm => by
    obtain ⟨o', es', ep', ho', r'⟩ := hm
    rw [ho] at ho'; cases ho'
    exact ⟨_, es', ep', hL, r'⟩) hok I.bare
/-- behind a call (or a comprehension's block): the slots of this frame may have changed too, the records at ch may have turned -/
theorem Inv.call {g' : Array GenState} {t' : Nat} {d' : Drawn} {ch : List Addr} (I : Inv X pins σ H s) (u : Un (frs X.stack) ch H H' s.heap h') (hok : HOk X.prog X.w H' h') (hg : AllBare g')
    (hch : ∀ b ∈ ch, (b ∈ X.ex ∨ X.s₀.heap.objs.size ≤ b) ∧ b ≠ X.env.locals ∧ (∀ x c, X.env.cells.lookup x = some c → c ≠ b) ∧ ∀ p ∈ X.pn ++ pins, p.1 ≠ b) :
    Inv X pins σ H' { s with heap := h', gens := g', drawn := d', toks := t' } := by
  obtain ⟨m, ⟨o, es, ep, ho, r⟩, _⟩ := id I.loc
  obtain ⟨sl, hL⟩ := u.any ho I.free fun z => (hch _ z).2.1 rfl
  exact I.step (ch := ch) hch (fun b o hL hb hc e n => u.keep b o e n (fun z => (List.mem_cons.mp (I.stkSub b z)).elim hL hb) hc) (fun b o _ _ hc e n => u.any e n hc) (fun b o hc e n => u.free b o e n hc) (fun b o hc e => u.there b o e hc) u.tups u.frzs u.tbls (fun m' hm => by
    obtain ⟨o', es', ep', ho', r'⟩ := hm
    rw [ho] at ho'; cases ho'
    exact ⟨_, es', ep', hL, r'⟩) hok hg
/-- an untracked record of ours (an iterator) has turned -/
theorem Inv.turned {t' : Nat} {it : Addr} (I : Inv X pins σ H s) (k : ∀ b o, b ≠ it → s.heap.get? b = some o → h'.get? b = some o) (hn : H it = none) (hL : it ≠ X.env.locals)
    (h1 : it ∈ X.ex ∨ X.s₀.heap.objs.size ≤ it) (h2 : ∀ x c, X.env.cells.lookup x = some c → c ≠ it) (h3 : ∀ p ∈ X.pn ++ pins, p.1 ≠ it) : Inv X pins σ H { s with heap := h', toks := t' } := by
  have nit : ∀ b u, H b = some u → b ≠ it := fun b u e z => by rw [z, hn] at e; cases e
  refine I.step (g' := s.gens) (d' := s.drawn) (ch := [it]) (fun b hb => ?_) (fun b o _ _ hc e _ => k b o (fun z => hc (by simp [z])) e) (fun b o _ _ hc e _ => ⟨o.slots, k b o (fun z => hc (by simp [z])) e⟩) (fun _ _ _ _ n => n)
    (fun b o hc e => ⟨o, k b o (fun z => hc (by simp [z])) e⟩) (fun _ _ e => e) (fun _ _ _ e => e) (fun b ps e => ⟨#[], by rw [e]; simp⟩) (fun m hm => ?_) (fun b u e => ?_) I.bare
  · have e : b = it := by simpa using hb
    subst e
    exact ⟨h1, hL, h2, h3⟩
  · obtain ⟨o, es, ep, ho, r⟩ := hm
    exact ⟨o, es, ep, k _ o (Ne.symm hL) ho, r⟩
  · refine (I.hok b u e).stay (fun c v hc q => k c v ?_ q) (fun _ q => q) fun _ _ q => q
    rcases hc with z | z
    · rw [z]; exact nit b u e
    · exact nit c _ z
theorem Inv.tok (I : Inv X pins σ H s) (t : Nat) : Inv X pins σ H { s with toks := t } := I.un (h' := s.heap) (t' := t) Un.refl I.hok
/-- all objects kept -/
theorem Inv.kept {t' : Nat} (I : Inv X pins σ H s) (k : ∀ b u, s.heap.get? b = some u → h'.get? b = some u) : Inv X pins σ H { s with heap := h', toks := t' } := I.un (Un.kept k) (I.hok.kept k)
/-- a new object laid and tracked -/
theorem Inv.laid {a : Addr} {o : HO} {t' : Nat} (I : Inv X pins σ H s) (k : ∀ b u, s.heap.get? b = some u → h'.get? b = some u) (hp : s.heap.objs.size ≤ a) (new : ObjOk X.prog X.w (upd H a o) h' a o) :
    Inv X pins σ (upd H a o) { s with heap := h', toks := t' } := I.un (Un.laid k hp (I.hok.fresh hp)) (I.hok.laid k hp new)
/-- an object written -/
theorem Inv.write {x e : Addr} {o : HO} {t' : Nat} (I : Inv X pins σ H s) (mu : Mut (H x)) (he : e = x ∨ H e = some (.own x)) (k : ∀ b u, b ≠ e → s.heap.get? b = some u → h'.get? b = some u) (heo : ∃ u, h'.get? e = some u)
    (new : ObjOk X.prog X.w (upd H x o) h' x o) : Inv X pins σ (upd H x o) { s with heap := h', toks := t' } := I.un (Un.write mu he k heo) (I.hok.write mu he k heo new)
/-- forgetting slots, pins -/
theorem Inv.pins_of {pins' : List (Addr × Obj)} (I : Inv X pins σ H s) (h : ∀ p ∈ pins', s.heap.get? p.1 = some p.2 ∧ H p.1 = none ∧ p.1 ≠ X.env.locals ∧ p.1 ∉ X.fs ∧ ∀ v, p.2.data ≠ .cell v) : Inv X pins' σ H s :=
  ⟨I.ok, I.os, I.bare, I.base, I.loc, I.cell, I.free, I.freeC, fun p hp => (List.mem_append.mp hp).elim (fun z => I.pin p (List.mem_append_left _ z)) (h p), I.hok, I.len⟩

theorem nodup_ix {N : List Str} (hN : N.Nodup) {i j : Nat} {x : Str} (a : N[i]? = some x) (b : N[j]? = some x) : i = j := by
  obtain ⟨h1, e1⟩ := List.getElem?_eq_some_iff.mp a
  obtain ⟨h2, e2⟩ := List.getElem?_eq_some_iff.mp b
  exact (List.getElem_inj hN).mp (e1.trans e2.symm)

/-- a name is stored; what changed -/
theorem store_ok2 {M : Model} {A : Around} {E : Value → Shared → Prop} {i : Nat} {x : Str} {v : V} {u : Value} {Q : Unit → Shared → Prop} (I : Inv X pins σ H s) (hN : X.N.Nodup) (hi : X.N[i]? = some x) (hx : Loc X.env.scope x) (r : RelV v u)
    (h : ∀ s', Inv X pins (σ.set i (some v)) H s' → (∃ a, Heap.SameBut a s.heap s'.heap ∧ (a = X.env.locals ∨ X.env.cells.lookup x = some a)) → Q () s') (hf : X.fn x = true ∨ X.env.scope.names.lookup x = some .local := by first | exact .inl rfl | exact .inr rfl | assumption) : wpAny M A (storeName X.env x u) Q E s := by
  obtain ⟨m, hn, hl⟩ := id I.loc
  have hcls : (X.env.scope.kind == .class || (X.env.scope.kind == .module && X.env.locals != X.env.globals)) = false := by rw [I.ok.kind]; rfl
  have hiσ : i < σ.length := by rw [I.len]; exact (List.getElem?_eq_some_iff.mp hi).1
  have cne := I.cne
  have tracked : ∀ {a : Addr} {h' : Heap}, (∃ o, s.heap.get? a = some o ∧ H a = none) → Heap.SameBut a s.heap h' → HOk X.prog X.w H h' := fun {a h'} ha hs b ob e => by
    obtain ⟨_, _, hfree⟩ := ha
    refine (I.hok b ob e).stay (fun c w' hc q => (hs.2 c ?_).trans q) (fun _ q => q) fun _ _ q => q
    rintro rfl
    rcases hc with rfl | hc
    · rw [hfree] at e; cases e
    · rw [hfree] at hc; cases hc
  rcases hx with hk | hk
  · refine wpAny_storeName_local hk hn (fun h' hn' hs => ?_) hcls
    obtain ⟨oL, _, _, hoL, _⟩ := id hn
    refine h _ ⟨I.ok, I.os, I.bare, ⟨fun b o e n hb hx => ?_, fun b o e n hb hx => ?_, I.base.free, fun b o e hx => ?_, I.base.tups, I.base.frzs, I.base.tbls⟩, ⟨_, hn', fun j y v' e1 e2 e3 => ?_⟩, fun y c e => ?_, I.free, I.freeC, fun p hp => ?_, tracked ⟨oL, hoL, I.free⟩ hs, by simpa using I.len⟩ ⟨_, hs, .inl rfl⟩
    · exact (hs.2 b (Nat.ne_of_lt (Nat.lt_of_lt_of_le (Heap.lt_size e) I.ok.above))).trans (I.base.keep b o e n hb hx)
    · obtain ⟨sl, e1⟩ := I.base.slot b o e n hb hx
      exact ⟨sl, (hs.2 b (Nat.ne_of_lt (Nat.lt_of_lt_of_le (Heap.lt_size e) I.ok.above))).trans e1⟩
    · obtain ⟨o', e1⟩ := I.base.there b o e hx
      exact ⟨o', (hs.2 b (Nat.ne_of_lt (Nat.lt_of_lt_of_le (Heap.lt_size e) I.ok.above))).trans e1⟩
    · by_cases hj : j = i
      · subst hj
        rw [hi] at e1; cases e1
        rw [List.getElem?_set_self hiσ] at e2
        cases e2
        exact ⟨u, r, .inl ⟨hk, by simp⟩⟩
      · rw [List.getElem?_set_ne (Ne.symm hj)] at e2
        obtain ⟨u', r', q⟩ := hl j y v' e1 e2 e3
        refine ⟨u', r', ?_⟩
        rcases q with ⟨k, e⟩ | ⟨k, c, e, z⟩
        · refine .inl ⟨k, ?_⟩
          have : y ≠ x := fun e => hj (nodup_ix hN e1 (e ▸ hi))
          simp [this, e]
        · exact .inr ⟨k, c, e, z.sameBut hs (cne y c e)⟩
    · obtain ⟨w', z⟩ := I.cell y c e
      exact ⟨w', z.sameBut hs (cne y c e)⟩
    · obtain ⟨e, n, ne, nf, d⟩ := I.pin p hp
      exact ⟨(hs.2 p.1 ne).trans e, n, ne, nf, d⟩
  · have hfn : X.fn x = true := by
      rcases hf with z | z
      · exact z
      · rw [z] at hk; cases hk
    obtain ⟨c, hc⟩ := I.ok.has x (.inl hk)
    obtain ⟨w', z⟩ := I.cell x c hc
    refine wpAny_storeName_cell I.ok.kind hk hc z (fun h' hc' hs => ?_)
    obtain ⟨oc, hoc, hocd⟩ := id z
    refine h { s with heap := h' } ⟨I.ok, I.os, I.bare, ⟨fun b o e n hb hx => ?_, fun b o e n hb hx => ?_, I.base.free, fun b o e hx => ?_, I.base.tups, I.base.frzs, I.base.tbls⟩, ⟨m, hn.sameBut hs (Ne.symm (cne x c hc)), fun j y v' e1 e2 e3 => ?_⟩, fun y c' e => ?_, I.free, I.freeC, fun p hp => ?_, tracked ⟨oc, hoc, I.freeC x c hc⟩ hs, by simpa using I.len⟩ ⟨c, hs, .inr hc⟩
    · exact (hs.2 b (Nat.ne_of_lt (Nat.lt_of_lt_of_le (Heap.lt_size e) (I.ok.cab x c hfn hc)))).trans (I.base.keep b o e n hb hx)
    · obtain ⟨sl, e1⟩ := I.base.slot b o e n hb hx
      exact ⟨sl, (hs.2 b (Nat.ne_of_lt (Nat.lt_of_lt_of_le (Heap.lt_size e) (I.ok.cab x c hfn hc)))).trans e1⟩
    · obtain ⟨o', e1⟩ := I.base.there b o e hx
      exact ⟨o', (hs.2 b (Nat.ne_of_lt (Nat.lt_of_lt_of_le (Heap.lt_size e) (I.ok.cab x c hfn hc)))).trans e1⟩
    · by_cases hj : j = i
      · subst hj
        rw [hi] at e1; cases e1
        rw [List.getElem?_set_self hiσ] at e2
        cases e2
        exact ⟨u, r, .inr ⟨.inl hk, c, hc, hc'⟩⟩
      · rw [List.getElem?_set_ne (Ne.symm hj)] at e2
        obtain ⟨u', r', q⟩ := hl j y v' e1 e2 e3
        refine ⟨u', r', ?_⟩
        rcases q with q | ⟨k, c', e, z'⟩
        · exact .inl q
        · refine .inr ⟨k, c', e, z'.sameBut hs ?_⟩
          rintro rfl
          exact hj (nodup_ix hN e1 (I.ok.inj _ _ _ e hc ▸ hi))
    · by_cases hcc : c' = c
      · subst hcc; exact ⟨_, hc'⟩
      · obtain ⟨w2, z2⟩ := I.cell y c' e
        exact ⟨w2, z2.sameBut hs hcc⟩
    · obtain ⟨e, n, ne, nf, d⟩ := I.pin p hp
      refine ⟨(hs.2 p.1 ?_).trans e, n, ne, nf, d⟩
      intro q
      rw [q, hoc] at e
      have q' : oc = p.2 := Option.some.inj e
      exact d w' (by rw [← q']; exact hocd)
theorem store_ok {M : Model} {A : Around} {E : Value → Shared → Prop} {i : Nat} {x : Str} {v : V} {u : Value} {Q : Unit → Shared → Prop} (I : Inv X pins σ H s) (hN : X.N.Nodup) (hi : X.N[i]? = some x) (hx : Loc X.env.scope x) (r : RelV v u)
    (h : ∀ s', Inv X pins (σ.set i (some v)) H s' → Q () s') (hf : X.fn x = true ∨ X.env.scope.names.lookup x = some .local := by first | exact .inl rfl | exact .inr rfl | assumption) : wpAny M A (storeName X.env x u) Q E s :=
  store_ok2 I hN hi hx r (fun s' I' _ => h s' I') hf
/-- behind a call or a block, the state as it is -/
theorem Inv.call' {s' : Shared} {ch : List Addr} (I : Inv X pins σ H s) (ho : s'.os = s.os) (u : Un (frs X.stack) ch H H' s.heap s'.heap) (hok : HOk X.prog X.w H' s'.heap) (hg : AllBare s'.gens)
    (hch : ∀ b ∈ ch, (b ∈ X.ex ∨ X.s₀.heap.objs.size ≤ b) ∧ b ≠ X.env.locals ∧ (∀ x c, X.env.cells.lookup x = some c → c ≠ b) ∧ ∀ p ∈ X.pn ++ pins, p.1 ≠ b) : Inv X pins σ H' s' := by
  obtain ⟨h', g', d', t', o'⟩ := s'
  have e : o' = s.os := ho
  subst e
  exact I.call (g' := g') (t' := t') (d' := d') u hok hg hch
end

/-! ### the judgements -/
/-- an exception: its class, its own dict's address (where it has one), the abstract heap behind it -/
noncomputable abbrev XK := Value → Option Addr → Hp → Prop
noncomputable abbrev St := List (Option V)
noncomputable abbrev VK := V → Hp → Prop
/-- an expression's reading; a test's; an argument list's -/
noncomputable abbrev TE := St → Hp → VK → Prop
noncomputable abbrev TT := St → Hp → (Bool → Hp → Prop) → Prop
noncomputable abbrev TA := St → Hp → (List V → Hp → Prop) → Prop
/-- what is wanted behind a statement -/
structure Ends where
  nx : St → Hp → Prop
  rt : VK
  bk : St → Hp → Prop := fun _ _ => False
  ct : St → Hp → Prop := fun _ _ => False
noncomputable abbrev TS := Ends → St → Hp → Prop

noncomputable def EP (X : Cx) (pins : List (Addr × Obj)) (σ : St) (Q : VK) (u : Value) (s' : Shared) : Prop := ∃ v H', Inv X pins σ H' s' ∧ RelV v u ∧ Q v H'
noncomputable def TP (X : Cx) (pins : List (Addr × Obj)) (σ : St) (Q : Bool → Hp → Prop) (b : Bool) (s' : Shared) : Prop := ∃ H', Inv X pins σ H' s' ∧ Q b H'
noncomputable def AP (X : Cx) (pins : List (Addr × Obj)) (σ : St) (Q : List V → Hp → Prop) (us : List Value) (s' : Shared) : Prop := ∃ vs H', Inv X pins σ H' s' ∧ Vals vs us ∧ Q vs H'
noncomputable def SP (X : Cx) (pins : List (Addr × Obj)) (D : Ends) (f : Flow) (s' : Shared) : Prop :=
  match f with
  | .next => ∃ σ' H', Inv X pins σ' H' s' ∧ D.nx σ' H'
  | .brk => ∃ σ' H', Inv X pins σ' H' s' ∧ D.bk σ' H'
  | .cont => ∃ σ' H', Inv X pins σ' H' s' ∧ D.ct σ' H'
  | .ret u => ∃ v σ' H', Inv X pins σ' H' s' ∧ RelV v u ∧ D.rt v H'

noncomputable def PE (X : Cx) (e : Expr) (t : TE) : Prop :=
  ∀ (pins : List (Addr × Obj)) (s : Shared) (σ : St) (H : Hp) (Q : VK), Inv X pins σ H s → t σ H Q → wpAny (model X.prog X.w) X.A (eval e X.env) (EP X pins σ Q) X.xe s
noncomputable def PT (X : Cx) (e : Expr) (t : TT) : Prop :=
  ∀ (pins : List (Addr × Obj)) (s : Shared) (σ : St) (H : Hp) (Q : Bool → Hp → Prop), Inv X pins σ H s → t σ H Q → wpAny (model X.prog X.w) X.A (isTrue e X.env (eval e X.env)) (TP X pins σ Q) X.xe s
/-- a test whatever its 'whole' is (and, or) -/
noncomputable def PW (X : Cx) (e : Expr) (t : TT) : Prop :=
  ∀ (whole : Sem Value) (pins : List (Addr × Obj)) (s : Shared) (σ : St) (H : Hp) (Q : Bool → Hp → Prop), Inv X pins σ H s → t σ H Q → wpAny (model X.prog X.w) X.A (isTrue e X.env whole) (TP X pins σ Q) X.xe s
theorem PW.pt {X : Cx} {e : Expr} {t : TT} (h : PW X e t) : PT X e t := h _
/-- an argument list (no star), from the left -/
noncomputable def PA (X : Cx) (es : List Expr) (t : TA) : Prop :=
  ∀ (pos : Pos) (pins : List (Addr × Obj)) (s : Shared) (σ : St) (H : Hp) (Q : List V → Hp → Prop), Inv X pins σ H s → t σ H Q → wpAny (model X.prog X.w) X.A (spliced (backTo pos (starEach es X.env))) (AP X pins σ Q) X.xe s
noncomputable def PS (X : Cx) (st : Stmt) (t : TS) : Prop :=
  ∀ (pins : List (Addr × Obj)) (s : Shared) (σ : St) (H : Hp) (D : Ends), Inv X pins σ H s → t D σ H → wpAny (model X.prog X.w) X.A (exec st X.env) (SP X pins D) X.xe s
noncomputable def PSs (X : Cx) (st : List Stmt) (t : TS) : Prop :=
  ∀ (pins : List (Addr × Obj)) (s : Shared) (σ : St) (H : Hp) (D : Ends), Inv X pins σ H s → t D σ H → wpAny (model X.prog X.w) X.A (execs st X.env) (SP X pins D) X.xe s
/-- weaken the end -/
theorem thn {α : Type} {t : Sem α} {Q Q' : α → Shared → Prop} {M : Model} {A : Around} {E : Value → Shared → Prop} {s : Shared} (h : wpAny M A t Q E s) (hQ : ∀ a s, Q a s → Q' a s) : wpAny M A t Q' E s := wpAny_mono h hQ fun _ _ x => x
end L2

namespace L2
open PySem PySem.Spec PyProof.Rows
section
variable {X : Cx}

/-! ### names and constants -/
noncomputable def tVar (i : Nat) : TE := fun σ H Q => ∃ v, σ[i]? = some (some v) ∧ Q v H
noncomputable def tC (v : V) : TE := fun _ H Q => Q v H
theorem pe_var {i : Nat} {x : Str} {pos : Pos} (hN : X.N[i]? = some x) (hv : Vis X.env.scope x) (hd : (x == ("__debug__" : Str)) = false := by decide) (hcd : (x == ("__classdict__" : Str)) = false := by decide) : PE X (.Name x pos) (tVar i) := by
  intro pins s σ H Q I h
  obtain ⟨v, e, h⟩ := h
  obtain ⟨m, hn, hl⟩ := I.loc
  obtain ⟨u, r, l⟩ := hl i x v hN e hv
  have fin : EP X pins σ Q u s := ⟨v, H, I, r, h⟩
  rcases l with ⟨hk, hm⟩ | ⟨hk, c, hc, hcell⟩
  · exact wpAny_Name (wpAny_loadName_local I.ok.kind hk hn hm fin) hd
  · rcases hk with hk | hk
    · exact wpAny_Name (wpAny_loadName_cell I.ok.kind hk hc hcell fin) hd
    · exact wpAny_Name (wpAny_loadName_free I.ok.kind hk hc hcell fin hcd) hd
theorem pe_int {i j pos} : PE X (.Constant (.int i) j pos) (tC (.int i)) := fun _ _ _ H _ I h => wpAny_Constant_int ⟨.int i, H, I.tok _, ⟨_, rfl⟩, h⟩
theorem pe_bl {b j pos} : PE X (.Constant (.bool b) j pos) (tC (.bl b)) := fun _ _ _ H _ I h => Constant_bool ⟨.bl b, H, I, rfl, h⟩
theorem pe_non {j pos} : PE X (.Constant .none j pos) (tC .non) := fun _ _ _ H _ I h => Constant_none ⟨.non, H, I, rfl, h⟩
/-- a global name of the def -/
noncomputable def Gl (X : Cx) (x : Str) : Prop := X.env.kindOf x = some .globalImplicit
theorem ld_glob {E : Value → Shared → Prop} {pins : List (Addr × Obj)} {s : Shared} {σ : St} {H : Hp} {x : Str} {u : Value} {pos : Pos} {Q : Value → Shared → Prop} (I : Inv X pins σ H s) (hg : Gl X x) (hm : X.mg x = some u) (h : Q u s)
    (hd : (x == ("__debug__" : Str)) = false := by decide) : wpAny (model X.prog X.w) X.A (eval (.Name x pos) X.env) Q E s :=
  Calls.Name_function_global I.ok.kind hg (Calls.loadGlobal_global (by rw [I.ok.glob]; exact I.mod.glob.keeps I.bk) hm h) hd
theorem ld_blt {E : Value → Shared → Prop} {pins : List (Addr × Obj)} {s : Shared} {σ : St} {H : Hp} {x : Str} {u : Value} {pos : Pos} {Q : Value → Shared → Prop} (I : Inv X pins σ H s) (hg : Gl X x) (hm : X.mg x = none) (hv : bootBuiltins x = some u) (h : Q u s)
    (hn : x ≠ "__name__" := by decide) (hd : (x == ("__debug__" : Str)) = false := by decide) : wpAny (model X.prog X.w) X.A (eval (.Name x pos) X.env) Q E s := by
  obtain ⟨mb, h1, h2⟩ := I.mod.blt
  exact Calls.Name_function_global I.ok.kind hg (Calls.loadGlobal_builtin (by rw [I.ok.glob]; exact I.mod.glob.keeps I.bk) hm (by rw [I.ok.blt]; exact h1.keeps I.bk) ((h2 x hn).trans hv) h) hd
/-- a module's constant, a class, a function, as a value -/
theorem pe_bltn {x : Str} {v : V} {u : Value} {pos : Pos} (hg : Gl X x) (hm : X.mg x = none) (hv : bootBuiltins x = some u) (r : RelV v u) (hn : x ≠ "__name__" := by decide) (hd : (x == ("__debug__" : Str)) = false := by decide) : PE X (.Name x pos) (tC v) :=
  fun _ _ _ H _ I h => ld_blt I hg hm hv ⟨v, H, I, r, h⟩ hn hd

/-! ### arithmetic -/
variable {a b : Expr} {ta tb : TE} {pos : Pos}
/-! ### comparisons -/
/-- a comparison as a value, as a test -/
noncomputable def tB (t : TE) : TT := fun σ H Q => t σ H fun x H1 => ∃ c, x = .bl c ∧ Q c H1
/-- an expression whose value is a bool, as a test -/
theorem pt_val {e : Expr} {t : TE} (h : PE X e t) (he : ∀ whole, isTrue e X.env whole = (do let v ← whole; standAt e.pos; holding [v] (truthy v)) := by intro _; rfl) : PT X e (tB t) := by
  intro pins s σ H Q I hw
  refine isTrue_plain (thn (h pins s σ H _ I hw) fun v s1 ⟨x, H1, I1, r1, q1⟩ => ?_) (he _)
  obtain ⟨d, rfl, q⟩ := q1
  cases r1
  exact wpAny_truthy_bool ⟨H1, I1, q⟩

/-! ### and, or, not -/
variable {tA tB' : TT} {rest : List Expr}
noncomputable def tAnd (t u : TT) : TT := fun σ H Q => t σ H fun c H1 => if c = true then u σ H1 Q else Q false H1
noncomputable def tOr (t u : TT) : TT := fun σ H Q => t σ H fun c H1 => if c = true then Q true H1 else u σ H1 Q
noncomputable def tNot (t : TT) : TT := fun σ H Q => t σ H fun c H1 => Q (!c) H1
theorem pw_and1 (ha : PT X a tA) : PW X (.BoolOp .And [a] pos) tA := by
  intro wh pins s σ H Q I h
  refine isTrue_and (thn (ha pins s σ H Q I h) fun c s1 e => ?_)
  cases c with
  | true => exact isTrue_and_nil e
  | false => exact e
theorem pw_or1 (ha : PT X a tA) : PW X (.BoolOp .Or [a] pos) tA := by
  intro wh pins s σ H Q I h
  refine isTrue_or (thn (ha pins s σ H Q I h) fun c s1 e => ?_)
  cases c with
  | false => exact isTrue_or_nil e
  | true => exact e
theorem pw_and (ha : PT X a tA) (hb : PW X (.BoolOp .And (b :: rest) pos) tB') : PW X (.BoolOp .And (a :: b :: rest) pos) (tAnd tA tB') := by
  intro wh pins s σ H Q I h
  refine isTrue_and (thn (ha pins s σ H _ I h) fun c s1 ⟨H1, I1, q1⟩ => ?_)
  cases c with
  | true => exact hb wh pins s1 σ H1 Q I1 q1
  | false => exact ⟨H1, I1, q1⟩
theorem pw_or (ha : PT X a tA) (hb : PW X (.BoolOp .Or (b :: rest) pos) tB') : PW X (.BoolOp .Or (a :: b :: rest) pos) (tOr tA tB') := by
  intro wh pins s σ H Q I h
  refine isTrue_or (thn (ha pins s σ H _ I h) fun c s1 ⟨H1, I1, q1⟩ => ?_)
  cases c with
  | true => exact ⟨H1, I1, q1⟩
  | false => exact hb wh pins s1 σ H1 Q I1 q1
theorem pt_not (ha : PT X a tA) : PT X (.UnaryOp .Not a pos) (tNot tA) := by
  intro pins s σ H Q I h
  exact isTrue_not (ha pins s σ H (fun c H1 => Q (!c) H1) I h)
/-- .. as values (bools) -/
noncomputable def tAndV (ta tb : TE) : TE := fun σ H Q => ta σ H fun x H1 => ∃ c, x = .bl c ∧ if c = true then tb σ H1 Q else Q (.bl false) H1
theorem pe_one {op} {t : TE} (h : PE X a t) : PE X (.BoolOp op [a] pos) t := fun pins s σ H Q I hw => BoolOp_one (h pins s σ H Q I hw)
theorem pe_and (ha : PE X a ta) (hb : PE X (.BoolOp .And (b :: rest) pos) tb) : PE X (.BoolOp .And (a :: b :: rest) pos) (tAndV ta tb) := by
  intro pins s σ H Q I h
  refine BoolOp_and (thn (ha pins s σ H _ I h) fun v s1 ⟨x, H1, I1, r1, q1⟩ => ?_)
  obtain ⟨c, rfl, q1⟩ := q1
  cases r1
  refine wpAny_truthy_bool ?_
  cases c with
  | true => exact hb pins s1 σ H1 Q I1 q1
  | false => exact ⟨.bl false, H1, I1, rfl, q1⟩
end
end L2

namespace L2
open PySem PySem.Spec PyProof.Rows

/-! ### a list, a tuple that is read: tracked, frozen, or an object of the module -/
noncomputable def SqL (K : PySem.W.Frag) (H : Hp) (a : Addr) (xs : List V) : Prop :=
  Rd H a (.lst xs) ∨
    ∃ (o : Obj) (its : Array Value) (n : Nat), K.lookup a = some o ∧ o.cls = .type "list" ∧ o.dict = none ∧ o.data = .seq its n ∧ its.size ≤ sizeLine ∧ Vals xs its.toList
noncomputable def SqT (K : PySem.W.Frag) (H : Hp) (a : Addr) (xs : List V) : Prop :=
  Rd H a (.tup xs) ∨
    ∃ (o : Obj) (its : Array Value) (n : Nat), K.lookup a = some o ∧ o.cls = .type "tuple" ∧ o.data = .seq its n ∧ its.size ≤ sizeLine ∧ Vals xs its.toList
noncomputable def absV : Value → Option V
  | .none => some .non
  | .bool b => some (.bl b)
  | .int i _ => some (.int i)
  | .str x _ => some (.str x)
  | .bytes b _ => some (.byt b)
  | .float b _ => some (.flt b)
  | .ref a => some (.ref a)
  | .type n => some (.ty n)
  | _ => none
theorem RelV.abs {x : V} {u : Value} (r : RelV x u) : absV u = some x := by
  cases x with
  | non => cases r; rfl
  | bl _ => cases r; rfl
  | int _ => obtain ⟨t, rfl⟩ := r; rfl
  | str _ => obtain ⟨t, rfl⟩ := r; rfl
  | byt _ => obtain ⟨t, rfl⟩ := r; rfl
  | flt _ => obtain ⟨t, rfl⟩ := r; rfl
  | ref _ => cases r; rfl
  | ty _ => cases r; rfl
theorem RelV.inj {x y : V} {u : Value} (r : RelV x u) (q : RelV y u) : x = y := Option.some.inj (r.abs.symm.trans q.abs)
theorem Vals.inj : ∀ {xs ys : List V} {us : List Value}, Vals xs us → Vals ys us → xs = ys
  | _, _, _, .nil, .nil => rfl
  | _, _, _, .cons r t, .cons r' t' => by rw [r.inj r', Vals.inj t t']
section
variable {X : Cx} {pins : List (Addr × Obj)} {σ : St} {H : Hp} {s : Shared} {a : Addr} {xs ys : List V}
theorem SqL.of {K : PySem.W.Frag} (h : H a = some (.lst xs)) : SqL K H a xs := .inl (.inl h)
theorem SqT.of {K : PySem.W.Frag} (h : H a = some (.tup xs)) : SqT K H a xs := .inl (.inl h)
theorem Inv.list (I : Inv X pins σ H s) (h : SqL X.K H a xs) : ∃ its : List Value, Vals xs its ∧ PlainL s.heap a its.toArray ∧ xs.length ≤ sizeLine := by
  rcases h with h | ⟨o, its, n, hk, hc, hd, hs, hz, r⟩
  · obtain ⟨z, its, n, r, e⟩ := h.ok I.hok
    exact ⟨its, r, ⟨_, n, e, rfl, rfl, rfl⟩, z⟩
  · refine ⟨its.toList, r, ⟨o, n, I.kIn a o hk, hc, hd, by simpa using hs⟩, ?_⟩
    have e := r.length
    simp only [Array.length_toList] at e
    omega
theorem Inv.tuple (I : Inv X pins σ H s) (h : SqT X.K H a xs) : ∃ its : List Value, Vals xs its ∧ IsTup s.heap a its.toArray ∧ xs.length ≤ sizeLine := by
  rcases h with h | ⟨o, its, n, hk, hc, hs, hz, r⟩
  · obtain ⟨z, its, r, p⟩ := h.ok I.hok
    exact ⟨its, r, p, z⟩
  · refine ⟨its.toList, r, ⟨o, I.kIn a o hk, hc, n, by simpa using hs⟩, ?_⟩
    have e := r.length
    simp only [Array.length_toList] at e
    omega
theorem Inv.list_inj (I : Inv X pins σ H s) (h : SqL X.K H a xs) (h' : SqL X.K H a ys) : xs = ys := by
  obtain ⟨its, r, ⟨o, n, e, _, _, d⟩, _⟩ := I.list h
  obtain ⟨its', r', ⟨o', n', e', _, _, d'⟩, _⟩ := I.list h'
  rw [e] at e'; cases e'
  rw [d] at d'
  injection d' with d1 _
  have : its = its' := by simpa using congrArg Array.toList d1
  subst this
  exact r.inj r'
theorem Inv.tuple_inj (I : Inv X pins σ H s) (h : SqT X.K H a xs) (h' : SqT X.K H a ys) : xs = ys := by
  obtain ⟨its, r, ⟨o, e, _, n, d⟩, _⟩ := I.tuple h
  obtain ⟨its', r', ⟨o', e', _, n', d'⟩, _⟩ := I.tuple h'
  rw [e] at e'; cases e'
  rw [d] at d'
  injection d' with d1 _
  have : its = its' := by simpa using congrArg Array.toList d1
  subst this
  exact r.inj r'
end

/-! ### another wish about exceptions -/
noncomputable abbrev Cx.wish (X : Cx) (E : Value → Shared → Prop) : Cx := { X with xe := E }
/-- no exception leaves -/
noncomputable abbrev Cx.nox (X : Cx) : Cx := X.wish fun _ _ => False
theorem Cx.Ok.wish {X : Cx} (ok : X.Ok) (E : Value → Shared → Prop) : (X.wish E).Ok :=
  ⟨ok.mod, ok.kind, ok.glob, ok.blt, ok.above, ok.inj, ok.has, ok.cab, ok.hd, ok.frames, ok.stk, ok.exf, ok.bs, ok.bsz, ok.noex, ok.exfs, ok.funs, ok.frf⟩
theorem Cx.Ok.unwish {X : Cx} {E : Value → Shared → Prop} (ok : (X.wish E).Ok) : X.Ok :=
  ⟨ok.mod, ok.kind, ok.glob, ok.blt, ok.above, ok.inj, ok.has, ok.cab, ok.hd, ok.frames, ok.stk, ok.exf, ok.bs, ok.bsz, ok.noex, ok.exfs, ok.funs, ok.frf⟩
section
variable {X : Cx} {pins : List (Addr × Obj)} {σ : St} {H : Hp} {s : Shared} {E : Value → Shared → Prop}
theorem Inv.wish (I : Inv X pins σ H s) (E : Value → Shared → Prop) : Inv (X.wish E) pins σ H s := ⟨I.ok.wish E, I.os, I.bare, I.base, I.loc, I.cell, I.free, I.freeC, I.pin, I.hok, I.len⟩
theorem Inv.unwish (I : Inv (X.wish E) pins σ H s) : Inv X pins σ H s := ⟨I.ok.unwish, I.os, I.bare, I.base, I.loc, I.cell, I.free, I.freeC, I.pin, I.hok, I.len⟩
theorem SP.unwish {D : Ends} {f : Flow} {s' : Shared} (h : SP (X.wish E) pins D f s') : SP X pins D f s' := by
  cases f with
  | next => obtain ⟨σ', H', I, q⟩ := h; exact ⟨σ', H', I.unwish, q⟩
  | brk => obtain ⟨σ', H', I, q⟩ := h; exact ⟨σ', H', I.unwish, q⟩
  | cont => obtain ⟨σ', H', I, q⟩ := h; exact ⟨σ', H', I.unwish, q⟩
  | ret u => obtain ⟨v, σ', H', I, r, q⟩ := h; exact ⟨v, σ', H', I.unwish, r, q⟩
theorem PSs.nox {st : List Stmt} {t : TS} (h : PSs X.nox st t) : PSs X st t := fun pins s σ H D I hw =>
  wpAny_mono (h pins s σ H D (I.wish _) hw) (fun _ _ q => q.unwish) fun _ _ z => False.elim z
end

/-! ### blocks and small statements -/
section
variable {X : Cx} {st : Stmt} {rest : List Stmt} {t u : TS} {e : Expr} {te : TE} {pos : Pos}
noncomputable def tNext : TS := fun D σ H => D.nx σ H
noncomputable def tSeq (t u : TS) : TS := fun D σ H => t { D with nx := u D } σ H
theorem pss_nil : PSs X [] tNext := fun _ _ σ H _ I h => wpAny_execs_nil ⟨σ, H, I, h⟩
theorem pss_cons (h1 : PS X st t) (h2 : PSs X rest u) : PSs X (st :: rest) (tSeq t u) := by
  intro pins s σ H D I h
  refine wpAny_execs_cons (thn (h1 pins s σ H { D with nx := u D } I h) fun f s1 q => ?_)
  cases f with
  | next =>
    obtain ⟨σ', H', I', q⟩ := q
    exact h2 pins s1 σ' H' D I' q
  | ret v => exact q
  | brk => exact q
  | cont => exact q
theorem pss_one (h1 : PS X st t) : PSs X [st] t := by
  intro pins s σ H D I h
  refine wpAny_execs_cons (thn (h1 pins s σ H D I h) fun f s1 q => ?_)
  cases f with
  | next => exact wpAny_execs_nil q
  | ret v => exact q
  | brk => exact q
  | cont => exact q
/-- in a def's body nothing is shown -/
theorem Inv.quiet {pins : List (Addr × Obj)} {σ : St} {H : Hp} {s : Shared} (I : Inv X pins σ H s) : interactive X.env = false := by simp [interactive, I.ok.kind]
/-- an expression whose value is dropped -/
noncomputable def tDrop (te : TE) : TS := fun D σ H => te σ H fun _ H1 => D.nx σ H1
theorem ps_expr (he : PE X e te) (hs : swapsWith e none pos.line X.env = pure false := by rfl) : PS X (.Expr e pos) (tDrop te) := by
  intro pins s σ H D I h
  exact wpAny_Expr_any (thn (he pins s σ H _ I h) fun v s1 ⟨x, H1, I1, r1, q1⟩ => ⟨σ, H1, I1, q1⟩) I.quiet hs
noncomputable def tRet (te : TE) : TS := fun D σ H => te σ H D.rt
theorem ps_ret (he : PE X e te) : PS X (.Return (some e) pos) (tRet te) := by
  intro pins s σ H D I h
  exact wpAny_Return_some (thn (he pins s σ H _ I h) fun v s1 ⟨x, H1, I1, r1, q1⟩ => ⟨x, σ, H1, I1, r1, q1⟩)
noncomputable def tIfS (c : TT) (t u : TS) : TS := fun D σ H => c σ H fun b H1 => if b = true then t D σ H1 else u D σ H1
theorem ps_if {c : Expr} {a b : List Stmt} {tc : TT} (hc : PT X c tc) (ha : PSs X a t) (hb : PSs X b u) : PS X (.If c a b pos) (tIfS tc t u) := by
  intro pins s σ H D I h
  refine wpAny_If (thn (hc pins s σ H _ I h) fun d s1 ⟨H1, I1, q1⟩ => ?_)
  cases d with
  | true => exact ha pins s1 σ H1 D I1 q1
  | false => exact hb pins s1 σ H1 D I1 q1
end

/-! ### targets -/
noncomputable abbrev TG := V → St → Hp → (St → Hp → Prop) → Prop
noncomputable abbrev TGs := List V → St → Hp → (St → Hp → Prop) → Prop
noncomputable def PG (X : Cx) (target : Expr) (t : TG) : Prop :=
  ∀ (pins : List (Addr × Obj)) (s : Shared) (σ : St) (H : Hp) (v : V) (u : Value) (Q : St → Hp → Prop), Inv X pins σ H s → RelV v u → t v σ H Q →
    wpAny (model X.prog X.w) X.A (assign target X.env u) (fun _ s' => ∃ σ' H', Inv X pins σ' H' s' ∧ Q σ' H') X.xe s
/-- several targets, one after another -/
noncomputable def PGs (X : Cx) (ts : List Expr) (t : TGs) : Prop :=
  ∀ (pins : List (Addr × Obj)) (s : Shared) (σ : St) (H : Hp) (vs : List V) (us : List Value) (Q : St → Hp → Prop), Inv X pins σ H s → Vals vs us → t vs σ H Q →
    wpAny (model X.prog X.w) X.A (assignInOrder ((assignEach ts X.env).map (·.2)) us) (fun _ s' => ∃ σ' H', Inv X pins σ' H' s' ∧ Q σ' H') X.xe s
/-- o[i] = v, by values -/
noncomputable abbrev TSet := V → V → V → Hp → (Hp → Prop) → Prop
noncomputable def PSet (X : Cx) (t : TSet) : Prop :=
  ∀ (pins : List (Addr × Obj)) (s : Shared) (σ : St) (H : Hp) (o i v : V) (ov iv u : Value) (Q : Hp → Prop), Inv X pins σ H s → RelV o ov → RelV i iv → RelV v u → t o i v H Q →
    wpAny (model X.prog X.w) X.A (setItem ov iv u) (fun _ s' => ∃ H', Inv X pins σ H' s' ∧ Q H') X.xe s
section
variable {X : Cx} {pos : Pos}
noncomputable def gName (i : Nat) : TG := fun v σ H Q => Q (σ.set i (some v)) H
theorem pg_name {i : Nat} {x : Str} (hN : X.N.Nodup) (hi : X.N[i]? = some x) (hx : Loc X.env.scope x) (hf : X.fn x = true ∨ X.env.scope.names.lookup x = some .local := by first | exact .inl rfl | exact .inr rfl | assumption) : PG X (.Name x pos) (gName i) := by
  intro pins s σ H v u Q I r h
  exact wpAny_assign_Name (store_ok I hN hi hx r (fun s' I' => ⟨_, H, I', h⟩) hf)
noncomputable def gNil : TGs := fun vs σ H Q => vs = [] ∧ Q σ H
noncomputable def gCons (t : TG) (u : TGs) : TGs := fun vs σ H Q => ∃ v r, vs = v :: r ∧ t v σ H fun σ' H' => u r σ' H' Q
theorem pgs_nil : PGs X [] gNil := by
  intro pins s σ H vs us Q I r h
  obtain ⟨e, h⟩ := h
  subst e
  cases r
  exact assignInOrder_nil ⟨σ, H, I, h⟩
theorem pgs_cons {e : Expr} {es : List Expr} {t : TG} {u : TGs} (h1 : PG X e t) (h2 : PGs X es u)
    (hs : (assignEach (e :: es) X.env).map (·.2) = assign e X.env :: (assignEach es X.env).map (·.2) := by rfl) : PGs X (e :: es) (gCons t u) := by
  intro pins s σ H vs us Q I r h
  obtain ⟨v, vr, e1, h⟩ := h
  subst e1
  cases r with
  | cons r rr =>
    rw [hs]
    refine assignInOrder_cons (thn (h1 pins s σ H _ _ _ I r h) fun _ s1 ⟨σ1, H1, I1, q1⟩ => ?_)
    exact h2 pins s1 σ1 H1 _ _ Q I1 rr q1
/-- (a, b, ..) = a tuple of that length -/
noncomputable def gTup (K : PySem.W.Frag) (n : Nat) (t : TGs) : TG := fun v σ H Q => ∃ a xs, v = .ref a ∧ SqT K H a xs ∧ xs.length = n ∧ t xs σ H Q
theorem pg_tup {es : List Expr} {k : Nat} {t : TGs} {n : Nat} (hc : X.calm = true) (h : PGs X es t)
    (hn : (assignEach es X.env).length = n := by rfl) (hst : (assignEach es X.env).findIdx? (·.1) = none := by rfl) : PG X (.Tuple es k pos) (gTup X.K n t) := by
  intro pins s σ H v u Q I r hw
  obtain ⟨a, xs, e1, hq, hl, hw⟩ := hw
  subst e1
  cases r
  obtain ⟨its, rv, ht, hz⟩ := I.tuple hq
  refine assign_Tuple_tuple (I.ok.hd hc) ht (by simp [hn, ← hl, rv.length]) hst fun h' hx => ?_
  have I1 : Inv X pins σ H { s with heap := h' } := I.kept (t' := s.toks) fun b o e => hx b o (Nat.ne_of_lt (Heap.lt_size e)) e
  exact h pins _ σ H xs _ Q I1 (by simpa using rv) hw
/-- o[i] = .. -/
noncomputable def gSub (to ti : TE) (t : TSet) : TG := fun v σ H Q => to σ H fun o H1 => ti σ H1 fun i H2 => t o i v H2 fun H3 => Q σ H3
theorem pg_sub {o i : Expr} {to ti : TE} {t : TSet} (ho : PE X o to) (hi : PE X i ti) (hs : PSet X t)
    (ha : ∀ v, assign (.Subscript o i pos) X.env v = (do
      let ov ← holding [v] (eval o X.env)
      let iv ← holding [v, ov] (eval i X.env)
      standAt pos
      holding [v, ov, iv] (setItem ov iv v)
      release [v, ov, iv] []) := by intro _; rfl) : PG X (.Subscript o i pos) (gSub to ti t) := by
  intro pins s σ H v u Q I r h
  rw [ha]
  refine wpAny_bind (wpAny_holding (thn (ho pins s σ H _ I h) fun ov s1 ⟨x, H1, I1, r1, q1⟩ => ?_))
  refine wpAny_bind (wpAny_holding (thn (hi pins s1 σ H1 _ I1 q1) fun iv s2 ⟨y, H2, I2, r2, q2⟩ => ?_))
  refine wpAny_bind (wpAny_standAt (wpAny_bind (wpAny_holding (thn (hs pins s2 σ H2 x y v ov iv u _ I2 r1 r2 r q2) fun _ s3 ⟨H3, I3, q3⟩ => ?_))))
  exact wpAny_release ⟨σ, H3, I3, q3⟩
/-- target = value -/
noncomputable def tAsg (te : TE) (g : TG) : TS := fun D σ H => te σ H fun x H1 => g x σ H1 D.nx
theorem ps_asg {tg e : Expr} {te : TE} {g : TG} (he : PE X e te) (hg : PG X tg g) (hs : swapsWithSole [tg] e pos.line X.env = pure false := by rfl) (hw : swappedStores [tg] e X.env = pure none := by rfl)
    (h1 : (assignEach [tg] X.env).map (·.2) = [assign tg X.env] := by rfl) : PS X (.Assign [tg] e pos) (tAsg te g) := by
  intro pins s σ H D I h
  refine wpAny_Assign_stores (thn (he pins s σ H _ I h) fun v s1 ⟨x, H1, I1, r1, q1⟩ => ?_) hs hw
  rw [h1]
  exact thn (hg pins s1 σ H1 x v _ I1 r1 q1) fun _ s2 q => q
/-- name = value -/
theorem ps_set {i : Nat} {x : Str} {e : Expr} {te : TE} {pos' : Pos} (hN : X.N.Nodup) (hi : X.N[i]? = some x) (hx : Loc X.env.scope x) (he : PE X e te) (hs : swapsWith e (some (.Name x pos')) pos.line X.env = pure false := by rfl) (hf : X.fn x = true ∨ X.env.scope.names.lookup x = some .local := by first | exact .inl rfl | exact .inr rfl | assumption) :
    PS X (.Assign [.Name x pos'] e pos) (tAsg te (gName i)) := by
  intro pins s σ H D I h
  refine wpAny_Assign_Name (thn (he pins s σ H _ I h) fun v s1 ⟨y, H1, I1, r1, q1⟩ => ?_) hs
  exact store_ok I1 hN hi hx r1 (fun s2 I2 => ⟨_, H1, I2, q1⟩) hf
/-- a, b = x, y with plain local names: stored from the right; the pair itself is not tracked (the opening rows as in PyProof/Rows/TupAssign.lean:23) -/
noncomputable def tPar (i j : Nat) (ta : TA) : TS := fun D σ H => ta σ H fun vs H1 => ∃ v w, vs = [v, w] ∧ D.nx ((σ.set i (some v)).set j (some w)) H1
theorem ps_par {i j : Nat} {x y : Str} {a b : Expr} {ta : TA} {px py pt : Pos} {kt k2 pt2} (hc : X.calm = true) (hN : X.N.Nodup) (hi : X.N[i]? = some x) (hj : X.N[j]? = some y) (hij : i ≠ j)
    (hx : X.env.scope.names.lookup x = some .local) (hy : X.env.scope.names.lookup y = some .local) (ha : PA X [a, b] ta)
    (hw : swappedStores [.Tuple [.Name x px, .Name y py] kt pt] (.Tuple [a, b] k2 pt2) X.env = pure (some [x, y]))
    (hs : swapsWithSole [.Tuple [.Name x px, .Name y py] kt pt] (.Tuple [a, b] k2 pt2) pos.line X.env = pure false := by rfl) :
    PS X (.Assign [.Tuple [.Name x px, .Name y py] kt pt] (.Tuple [a, b] k2 pt2) pos) (tPar i j ta) := by
  intro pins s σ H D I h
  rw [exec_Assign_arm]
  refine wpAny_bind (wpAny_standAt ?_)
  rw [hs]
  refine wpAny_bind (wpAny_pure ?_)
  rw [if_neg (by decide)]
  refine wpAny_bind (Tuple_ (thn (ha _ pins s σ H _ I h) fun us s1 ⟨vs, H1, I1, r1, q1⟩ => ?_))
  obtain ⟨v, w, e1, q1⟩ := q1
  subst e1
  obtain ⟨u1, u2, rfl, rv, rw'⟩ : ∃ u1 u2, us = [u1, u2] ∧ RelV v u1 ∧ RelV w u2 := by
    cases r1 with
    | cons p q =>
      cases q with
      | cons p' q' =>
        cases q'
        exact ⟨_, _, rfl, p, p'⟩
  refine wpAny_newObj_type ?_ (by show 2 ≤ sizeLine; decide)
  have I2 : Inv X pins σ H1 { s1 with heap := s1.heap.push { cls := .type "tuple", data := .seq [u1, u2].toArray } } := I1.kept (t' := s1.toks) fun b o e => Heap.get?_push_of_some _ e
  rw [hw]
  refine wpAny_bind (wpAny_pure ?_)
  show wpAny (model X.prog X.w) X.A (do rule "assign.swapped-stores"; let items ← unpackItems (.ref s1.heap.objs.size) 2 none; assignInOrder [fun v => bindName X.env y v, fun v => bindName X.env x v] items.reverse; pure Flow.next) _ _ _
  refine wpAny_bind (wpAny_rule (wpAny_bind (unpackItems_tuple (items := #[u1, u2]) (I.ok.hd hc) (IsTup.new s1.heap _) fun h' hx' => ?_)))
  have I3 := I2.kept (h' := h') (t' := s1.toks) fun b o e => hx' b o (Nat.ne_of_lt (Heap.lt_size e)) e
  show wpAny _ _ (assignInOrder [fun v => bindName X.env y v, fun v => bindName X.env x v] [u2, u1] >>= fun _ => pure Flow.next) _ _ _
  refine wpAny_bind (assignInOrder_cons (wpAny_bindName (store_ok I3 hN hj (.inl hy) rw' (fun s2 I4 => ?_) (.inr hy))))
  refine assignInOrder_cons (wpAny_bindName (store_ok I4 hN hi (.inl hx) rv (fun s3 I5 => assignInOrder_nil (wpAny_pure ?_)) (.inr hx)))
  rw [List.set_comm _ _ (Ne.symm hij)] at I5
  exact ⟨_, H1, I5, q1⟩
end

/-! ### while -/
section
variable {X : Cx} {pos : Pos}
/-- the invariant W with its measure -/
noncomputable def tWhile (c : TT) (tb : TS) : TS := fun D σ H => ∃ W : Nat → St → Hp → Prop, (∃ m, W m σ H) ∧ ∀ m σ H, W m σ H →
  c σ H fun b H1 => if b = true then ∃ N : St → Hp → Prop, (∀ σ' H', N σ' H' → ∃ m', m' < m ∧ W m' σ' H') ∧ tb { D with nx := N, ct := N, bk := D.nx } σ H1 else D.nx σ H1
theorem ps_while {c : Expr} {body : List Stmt} {tc : TT} {tb : TS} (hp : PassesOwn (model X.prog X.w) X.A X.env X.xe) (hc : PT X c tc) (hb : PSs X body tb) : PS X (.While c body [] pos) (tWhile tc tb) := by
  intro pins s σ H D I h
  obtain ⟨W, ⟨m0, w0⟩, turn⟩ := h
  refine wpAny_While (codeAny_whileLoop (fun n s' => ∃ σ' H', Inv X pins σ' H' s' ∧ W n σ' H') ?_ m0 ⟨σ, H, I, w0⟩)
  rintro n s1 ⟨σ1, H1, I1, w1⟩
  refine wpAny_passesOwn hp (thn (hc pins s1 σ1 H1 _ I1 (turn n σ1 H1 w1)) fun b s2 ⟨H2, I2, q2⟩ => ?_)
  cases b with
  | true =>
    obtain ⟨N, hN, q2⟩ := q2
    rw [if_pos rfl]
    refine wpAny_passesOwn hp (thn (hb pins s2 σ1 H2 _ I2 q2) fun f s3 q3 => ?_)
    cases f with
    | next =>
      obtain ⟨σ3, H3, I3, n3⟩ := q3
      obtain ⟨m', hm, w3⟩ := hN σ3 H3 n3
      exact ⟨m', hm, σ3, H3, I3, w3⟩
    | cont =>
      obtain ⟨σ3, H3, I3, n3⟩ := q3
      obtain ⟨m', hm, w3⟩ := hN σ3 H3 n3
      exact ⟨m', hm, σ3, H3, I3, w3⟩
    | brk => exact q3
    | ret v => exact q3
  | false =>
    rw [if_neg Bool.false_ne_true]
    exact wpAny_execs_nil ⟨σ1, H2, I2, q2⟩
end

/-! ### what a loop or a comprehension walks -/
/-- at turn i: it yields x (the heap may grow), or it stops -/
structure It where
  go : Nat → Hp → Prop
  yld : Nat → Hp → V → Hp → Prop
  stop : Nat → Hp → Prop
/-- the iterator's own objects may turn: they are not the frame's, not pinned, younger than the entry (or a comprehension's own) -/
noncomputable def FpOk (X : Cx) (pins : List (Addr × Obj)) (H : Hp) (b : Addr) : Prop :=
  H b = none ∧ b ≠ X.env.locals ∧ b ∉ X.fs ∧ (b ∈ X.ex ∨ X.s₀.heap.objs.size ≤ b) ∧ (∀ x c, X.env.cells.lookup x = some c → c ≠ b) ∧ ∀ p ∈ X.pn ++ pins, p.1 ≠ b
theorem Inv.fpOk {X : Cx} {pins : List (Addr × Obj)} {σ : St} {H H' : Hp} {s : Shared} {b : Addr} (I : Inv X pins σ H s) (hb : s.heap.objs.size ≤ b) (hn : H' b = none) : FpOk X pins H' b := by
  refine ⟨hn, Nat.ne_of_gt (Nat.lt_of_lt_of_le I.lt hb), I.nofs hb, .inr (Nat.le_trans I.sz hb), fun x c e z => ?_, fun p hp z => ?_⟩
  · obtain ⟨v, q⟩ := I.cell x c e
    exact absurd (Nat.lt_of_lt_of_le q.lt (by rw [z]; exact hb)) (Nat.lt_irrefl _)
  · exact absurd (Nat.lt_of_lt_of_le (Heap.lt_size (I.pin p hp).1) (by rw [z]; exact hb)) (Nat.lt_irrefl _)
structure Turn (P : Program) (w : World) (K : PySem.W.Frag) (tg : Expr) (J : It) (fp : List Addr) (it : Addr) (tn : Nat → Heap → Prop) : Prop where
  mem : it ∈ fp
  obj : ∀ i h, tn i h → ∀ b ∈ fp, ∃ o, h.get? b = some o ∧ ∀ v, o.data ≠ .cell v
  keep : ∀ i h h', tn i h → (∀ b ∈ fp, ∀ o, h.get? b = some o → h'.get? b = some o) → tn i h'
  item : ∀ (X : Cx), X.prog = P → X.w = w → X.K = K → X.calm = true → ∀ (i : Nat) (pins : List (Addr × Obj)) (s : Shared) (σ : St) (H : Hp) (E : Value → Shared → Prop), Inv X pins σ H s → (∀ b ∈ fp, FpOk X pins H b) → tn i s.heap → J.go i H →
    wpAny (model P w) X.A (pyNext (.ref it)) (fun r s1 => ∃ u, r = some u ∧
      wpAny (model P w) X.A (letOwnedTupleGo tg (.ref it) u) (fun _ s2 => ∃ x H', Inv X pins σ H' s2 ∧ RelV x u ∧ J.yld i H x H' ∧ tn (i + 1) s2.heap ∧ ∀ b ∈ fp, H' b = none) E s1) E s
  done : ∀ (X : Cx), X.prog = P → X.w = w → X.K = K → X.calm = true → ∀ (i : Nat) (pins : List (Addr × Obj)) (s : Shared) (σ : St) (H : Hp) (E : Value → Shared → Prop), Inv X pins σ H s → (∀ b ∈ fp, FpOk X pins H b) → tn i s.heap → J.stop i H →
    wpAny (model P w) X.A (pyNext (.ref it)) (fun r s1 => r = none ∧ Inv X pins σ H s1) E s
  self : ∀ (A : Around) (i : Nat) (s : Shared) (Q : Value → Shared → Prop) (E : Value → Shared → Prop), tn i s.heap → Q (.ref it) s → wpAny (model P w) A (pyIter (.ref it)) Q E s
noncomputable abbrev TI := St → Hp → (It → Hp → Prop) → Prop
/-- an iterator has come -/
noncomputable def PIE (X : Cx) (pins : List (Addr × Obj)) (σ : St) (tg : Expr) (R : It → Hp → Prop) (itv : Value) (s2 : Shared) : Prop :=
  ∃ (it : Addr) (fp : List Addr) (tn : Nat → Heap → Prop) (J : It) (H' : Hp), itv = .ref it ∧ Inv X pins σ H' s2 ∧ Turn X.prog X.w X.K tg J fp it tn ∧ tn 0 s2.heap ∧ (∀ b ∈ fp, FpOk X pins H' b) ∧ R J H'
noncomputable def PI (X : Cx) (tg iter : Expr) (wi : TI) : Prop :=
  ∀ (pins : List (Addr × Obj)) (s : Shared) (σ : St) (H : Hp) (R : It → Hp → Prop), Inv X pins σ H s → wi σ H R →
    wpAny (model X.prog X.w) X.A (eval iter X.env) (fun v s1 => wpAny (model X.prog X.w) X.A (pyIter v) (PIE X pins σ tg R) X.xe s1) X.xe s

/-- the step ahead of the store is nothing for an iterator that keeps no tuple -/
theorem go_of {M : Model} {A : Around} {E : Value → Shared → Prop} {s : Shared} {tg : Expr} {it : Addr} {u : Value} {o : Obj} {n : String} {vs : Array Value} {Q : Unit → Shared → Prop} (ho : s.heap.get? it = some o) (hc : o.cls = .type n) (hd : o.data = .fields vs)
    (hn : ["enumerate", "zip", "dict_itemiterator", "dict_reverseitemiterator", "odict_iterator", "itertools.zip_longest", "itertools.pairwise"].contains n = false) (hQ : Q () s) : wpAny M A (letOwnedTupleGo tg (.ref it) u) Q E s := by
  unfold letOwnedTupleGo
  cases tg <;> first
    | exact wpAny_pure hQ
    | (cases u <;> first
        | exact wpAny_pure hQ
        | (refine wpAny_bind (wpAny_load ho ?_)
           rw [hc, hd]
           show wpAny M A (if (["enumerate", "zip", "dict_itemiterator", "dict_reverseitemiterator", "odict_iterator", "itertools.zip_longest", "itertools.pairwise"].contains n && vs[0]? == some (rawInt _)) = true then _ else _) Q E s
           rw [if_neg (by intro h; rw [hn, Bool.false_and] at h; cases h)]
           exact wpAny_pure hQ))

/-- the list at a, as it stands at each turn (a loop may append to it) -/
noncomputable def Itl (K : PySem.W.Frag) (a : Addr) : It :=
  ⟨fun i H => ∃ xs x, SqL K H a xs ∧ xs[i]? = some x, fun i H x H' => H' = H ∧ ∀ xs, SqL K H a xs → xs[i]? = some x, fun i H => ∃ xs, SqL K H a xs ∧ xs.length ≤ i⟩
noncomputable def Itt (K : PySem.W.Frag) (a : Addr) : It :=
  ⟨fun i H => ∃ xs x, SqT K H a xs ∧ xs[i]? = some x, fun i H x H' => H' = H ∧ ∀ xs, SqT K H a xs → xs[i]? = some x, fun i H => ∃ xs, SqT K H a xs ∧ xs.length ≤ i⟩
/-- lo, lo + 1, .. (n of them) -/
noncomputable def Itr (lo : Int) (n : Nat) : It := ⟨fun i _ => i < n, fun i H x H' => H' = H ∧ x = .int (lo + i), fun i _ => n ≤ i⟩
theorem turn_list {P : Program} {w : World} {K : PySem.W.Frag} {tg : Expr} (a it : Addr) : Turn P w K tg (Itl K a) [it] it (fun i h => h.IsListIter it a i) where
  mem := by simp
  obj := fun i h st b hb => by
    have e : b = it := by simpa using hb
    subst e
    obtain ⟨o, e, c, d⟩ := st
    exact ⟨o, e, fun v z => by rw [d] at z; cases z⟩
  keep := fun i h h' st k => st.at fun o e => k it (by simp) o e
  item := by
    intro X hP hw hK hc i pins s σ H E I hf st hg
    subst hP hw hK
    obtain ⟨xs, x, hq, hx⟩ := hg
    obtain ⟨its, rv, p, hz⟩ := I.list hq
    obtain ⟨u, hu, ru⟩ := rv.get hx
    obtain ⟨f0, f1, f2, f3, f4, f5⟩ := hf it (by simp)
    refine wpAny_pyNext_list_item st p.isList (x := u) (by simpa using hu) fun h' st' sb => ?_
    have I1 : Inv X pins σ H { s with heap := h' } := I.turned (t' := s.toks) (fun b o hb e => (sb.2 b hb).trans e) f0 f1 f3 f4 f5
    obtain ⟨o, e, c, d⟩ := id st'
    exact ⟨u, rfl, go_of (s := { s with heap := h' }) e c d (by decide) ⟨x, H, I1, ru, ⟨rfl, fun ys hy => by rw [I.list_inj hy hq]; exact hx⟩, st', fun b hb => (hf b hb).1⟩⟩
  done := by
    intro X hP hw hK hc i pins s σ H E I hf st hg
    subst hP hw hK
    obtain ⟨xs, hq, hx⟩ := hg
    obtain ⟨its, rv, p, hz⟩ := I.list hq
    obtain ⟨f0, f1, f2, f3, f4, f5⟩ := hf it (by simp)
    have hl := rv.length
    exact wpAny_pyNext_list_end (I.ok.hd hc) st p.isList (by simp; omega) fun h' eb => ⟨rfl, I.turned (t' := s.toks) (fun b o hb e => eb b o hb e) f0 f1 f3 f4 f5⟩
  self := fun _ _ _ _ _ st h => wpAny_pyIter_listiter st h
theorem turn_tuple {P : Program} {w : World} {K : PySem.W.Frag} {tg : Expr} (a it : Addr) : Turn P w K tg (Itt K a) [it] it (fun i h => h.IsTupleIter it a i) where
  mem := by simp
  obj := fun i h st b hb => by
    have e : b = it := by simpa using hb
    subst e
    obtain ⟨o, e, c, d⟩ := st
    exact ⟨o, e, fun v z => by rw [d] at z; cases z⟩
  keep := fun i h h' st k => st.at fun o e => k it (by simp) o e
  item := by
    intro X hP hw hK hc i pins s σ H E I hf st hg
    subst hP hw hK
    obtain ⟨xs, x, hq, hx⟩ := hg
    obtain ⟨its, rv, p, hz⟩ := I.tuple hq
    obtain ⟨u, hu, ru⟩ := rv.get hx
    obtain ⟨f0, f1, f2, f3, f4, f5⟩ := hf it (by simp)
    refine wpAny_pyNext_tuple_item st (show s.heap.IsTuple a its.toArray from p) (x := u) (by simpa using hu) fun h' st' sb => ?_
    have I1 : Inv X pins σ H { s with heap := h' } := I.turned (t' := s.toks) (fun b o hb e => (sb.2 b hb).trans e) f0 f1 f3 f4 f5
    obtain ⟨o, e, c, d⟩ := id st'
    exact ⟨u, rfl, go_of (s := { s with heap := h' }) e c d (by decide) ⟨x, H, I1, ru, ⟨rfl, fun ys hy => by rw [I.tuple_inj hy hq]; exact hx⟩, st', fun b hb => (hf b hb).1⟩⟩
  done := by
    intro X hP hw hK hc i pins s σ H E I hf st hg
    subst hP hw hK
    obtain ⟨xs, hq, hx⟩ := hg
    obtain ⟨its, rv, p, hz⟩ := I.tuple hq
    obtain ⟨f0, f1, f2, f3, f4, f5⟩ := hf it (by simp)
    have hl := rv.length
    exact wpAny_pyNext_tuple_end (I.ok.hd hc) st (show s.heap.IsTuple a its.toArray from p) (by simp; omega) fun h' eb => ⟨rfl, I.turned (t' := s.toks) (fun b o hb e => eb b o hb e) f0 f1 f3 f4 f5⟩
  self := fun _ _ _ _ _ st h => wpAny_pyIter_tupleiter st h
theorem turn_range {P : Program} {w : World} {K : PySem.W.Frag} {tg : Expr} (it : Addr) (lo : Int) (n : Nat) : Turn P w K tg (Itr lo n) [it] it (fun i h => IsRangeIter h it (lo + (i : Nat) * 1) ((n : Int) - (i : Nat)) 1) where
  mem := by simp
  obj := fun i h st b hb => by
    have e : b = it := by simpa using hb
    subst e
    exact ⟨_, st, fun v z => by
      have z' : Data.fields _ = Data.cell v := z
      cases z'⟩
  keep := fun i h h' st k => k it (by simp) _ st
  item := by
    intro X hP hw hK hc i pins s σ H E I hf st hg
    subst hP hw hK
    obtain ⟨f0, f1, f2, f3, f4, f5⟩ := hf it (by simp)
    have W := Walks.range (prog := X.prog) (w := X.w) (I.ok.hd hc) it lo 1 n
    refine W.item i s _ _ hg st fun v h' tk hv st' kk => ?_
    obtain ⟨t, rfl⟩ := hv
    have I1 : Inv X pins σ H { s with heap := h', toks := tk } := I.turned (fun b o hb e => kk b o (by simpa using hb) e) f0 f1 f3 f4 f5
    refine ⟨_, rfl, go_of (s := { s with heap := h', toks := tk }) (n := "range_iterator") st' rfl rfl (by decide) ⟨.int (lo + i), H, I1, ⟨t, ?_⟩, ⟨rfl, rfl⟩, st', fun b hb => (hf b hb).1⟩⟩
    rw [Int.mul_one]
  done := by
    intro X hP hw hK hc i pins s σ H E I hf st hg
    subst hP hw hK
    obtain ⟨f0, f1, f2, f3, f4, f5⟩ := hf it (by simp)
    exact wpAny_pyNext_range_end (I.ok.hd hc) st (by have : n ≤ i := hg; omega) fun h' eb => ⟨rfl, I.turned (t' := s.toks) (fun b o hb e => eb b o hb e) f0 f1 f3 f4 f5⟩
  self := fun _ _ _ _ _ st h => wpAny_pyIter_rangeiter st h
end L2

namespace L2
open PySem PySem.Spec PyProof.Rows
section
variable {X : Cx} {tg : Expr}
noncomputable def iList (K : PySem.W.Frag) (tl : TE) : TI := fun σ H R => tl σ H fun x H1 => ∃ a, x = .ref a ∧ (∃ xs, SqL K H1 a xs) ∧ R (Itl K a) H1
noncomputable def iTup (K : PySem.W.Frag) (tl : TE) : TI := fun σ H R => tl σ H fun x H1 => ∃ a, x = .ref a ∧ (∃ xs, SqT K H1 a xs) ∧ R (Itt K a) H1
theorem pi_list {l : Expr} {tl : TE} (hl : PE X l tl) : PI X tg l (iList X.K tl) := by
  intro pins s σ H R I h
  refine thn (hl pins s σ H _ I h) fun v s1 ⟨x, H1, I1, r1, q1⟩ => ?_
  obtain ⟨a, e, ⟨xs, hq⟩, q⟩ := q1
  subst e
  cases r1
  obtain ⟨its, rv, p, hz⟩ := I1.list hq
  refine wpAny_pyIter_list p.isList ?_
  refine ⟨s1.heap.objs.size, [s1.heap.objs.size], _, _, H1, rfl, I1.kept (t' := s1.toks) fun b o e => Heap.get?_push_of_some _ e, turn_list a _, ⟨_, Heap.get?_push_size _ rfl, rfl, rfl⟩, fun b hb => ?_, q⟩
  have e : b = s1.heap.objs.size := by simpa using hb
  subst e
  exact I1.fpOk (Nat.le_refl _) (I1.hok.fresh (Nat.le_refl _))
theorem pi_tup {l : Expr} {tl : TE} (hl : PE X l tl) : PI X tg l (iTup X.K tl) := by
  intro pins s σ H R I h
  refine thn (hl pins s σ H _ I h) fun v s1 ⟨x, H1, I1, r1, q1⟩ => ?_
  obtain ⟨a, e, ⟨xs, hq⟩, q⟩ := q1
  subst e
  cases r1
  obtain ⟨its, rv, p, hz⟩ := I1.tuple hq
  refine wpAny_pyIter_tuple (show s1.heap.IsTuple a its.toArray from p) ?_
  refine ⟨s1.heap.objs.size, [s1.heap.objs.size], _, _, H1, rfl, I1.kept (t' := s1.toks) fun b o e => Heap.get?_push_of_some _ e, turn_tuple a _, ⟨_, Heap.get?_push_size _ rfl, rfl, rfl⟩, fun b hb => ?_, q⟩
  have e : b = s1.heap.objs.size := by simpa using hb
  subst e
  exact I1.fpOk (Nat.le_refl _) (I1.hok.fresh (Nat.le_refl _))
/-- a range object just made, walked -/
theorem range_it {pins : List (Addr × Obj)} {σ : St} {H : Hp} {s : Shared} {R : It → Hp → Prop} {E : Value → Shared → Prop} {lo hi : Int} {t u v : Tok} {tk : Nat} (I : Inv X pins σ H s) (h1 : -(2 ^ 62) ≤ lo) (h2 : lo < 2 ^ 62) (h3 : -(2 ^ 62) ≤ hi) (h4 : hi < 2 ^ 62)
    (q : R (Itr lo (hi - lo).toNat) H) : wpAny (model X.prog X.w) X.A (pyIter (.ref s.heap.objs.size)) (PIE X pins σ tg R) E { s with heap := s.heap.push { cls := .type "range", data := .fields #[.int lo t, .int hi u, .int 1 v] }, toks := tk } := by
  refine wpAny_pyIter_range (IsRange.new ..) (small_one h1 h2 h3 h4) ?_
  have I1 : Inv X pins σ H { s with heap := s.heap.push { cls := .type "range", data := .fields #[.int lo t, .int hi u, .int 1 v] }, toks := tk } := I.kept fun b o e => Heap.get?_push_of_some _ e
  refine ⟨(s.heap.push { cls := .type "range", data := .fields #[.int lo t, .int hi u, .int 1 v] }).objs.size, [(s.heap.push { cls := .type "range", data := .fields #[.int lo t, .int hi u, .int 1 v] }).objs.size], _, _, H, rfl,
    I1.kept (t' := tk) fun b o e => Heap.get?_push_of_some _ e, turn_range _ lo (hi - lo).toNat, ?_, fun b hb => ?_, q⟩
  · have e1 : lo + ((0 : Nat) : Int) * 1 = lo := by simp
    have e2 : (((hi - lo).toNat : Nat) : Int) - ((0 : Nat) : Int) = Builtin.Range.rangeSize lo hi 1 := by rw [rangeSize_one]; split <;> omega
    show IsRangeIter _ _ (lo + ((0 : Nat) : Int) * 1) ((((hi - lo).toNat : Nat) : Int) - ((0 : Nat) : Int)) 1
    rw [e1, e2]
    exact Heap.get?_push_size _ rfl
  · have e : b = (s.heap.push { cls := .type "range", data := .fields #[.int lo t, .int hi u, .int 1 v] }).objs.size := by simpa using hb
    subst e
    exact I1.fpOk (Nat.le_refl _) (I1.hok.fresh (Nat.le_refl _))
noncomputable def iRng1 (ta : TA) : TI := fun σ H R => ta σ H fun vs H1 => ∃ j : Int, vs = [.int j] ∧ -(2 ^ 62) ≤ j ∧ j < 2 ^ 62 ∧ R (Itr 0 j.toNat) H1
theorem pi_range1 {a : Expr} {ta : TA} {p pos : Pos} (hg : Gl X "range") (hm : X.mg "range" = none) (ha : PA X [a] ta) (hs : starEach [a] X.env = [(false, eval a X.env)] := by rfl) : PI X tg (.Call (.Name "range" p) [a] [] pos) (iRng1 ta) := by
  intro pins s σ H R I h
  refine Call_ (ld_blt I hg hm boot_range (PyProof.Rows.callWith_type1 (thn (ha pos pins s σ H _ I h) fun us s1 ⟨vs, H1, I1, r1, q1⟩ => ?_) hs rfl))
  obtain ⟨j, e, q1, q2, q⟩ := q1
  subst e
  cases r1 with
  | cons r rr =>
    cases rr
    obtain ⟨t, rfl⟩ := r
    exact call_range_1 (range_it I1 (by omega) (by omega) q1 q2 (by simpa using q))
/-! ### for -/
/-- W: the invariant by the turn and a measure; N: what the body is to reach -/
noncomputable def tFor (wi : TI) (g : TG) (tb : TS) : TS := fun D σ H => wi σ H fun J H1 => ∃ W : Nat → Nat → St → Hp → Prop, (∃ m, W 0 m σ H1) ∧ ∀ i m σ H, W i m σ H →
  (J.stop i H ∧ D.nx σ H) ∨ (J.go i H ∧ ∃ N : St → Hp → Prop, (∀ σ' H', N σ' H' → ∃ m', m' < m ∧ W (i + 1) m' σ' H') ∧ ∀ x H', J.yld i H x H' → g x σ H' fun σ2 H2 => tb { D with nx := N, ct := N, bk := D.nx } σ2 H2)
/-- the records at fp as they stand -/
noncomputable def pinsAt (fp : List Addr) (h : Heap) : List (Addr × Obj) := fp.filterMap fun b => (h.get? b).map fun o => (b, o)
theorem mem_pinsAt {fp : List Addr} {h : Heap} {b : Addr} {o : Obj} (hb : b ∈ fp) (e : h.get? b = some o) : (b, o) ∈ pinsAt fp h := List.mem_filterMap.mpr ⟨b, hb, by rw [e]; rfl⟩
theorem of_pinsAt {fp : List Addr} {h : Heap} {p : Addr × Obj} (hp : p ∈ pinsAt fp h) : p.1 ∈ fp ∧ h.get? p.1 = some p.2 := by
  obtain ⟨b, hb, e⟩ := List.mem_filterMap.mp hp
  cases q : h.get? b with
  | none => rw [q] at e; cases e
  | some o =>
    rw [q] at e
    have e' : (b, o) = p := Option.some.inj e
    subst e'
    exact ⟨hb, q⟩
theorem Inv.pinned {pins : List (Addr × Obj)} {σ : St} {H : Hp} {s : Shared} {fp : List Addr} (I : Inv X pins σ H s) (hf : ∀ b ∈ fp, FpOk X pins H b) (ho : ∀ b ∈ fp, ∃ o, s.heap.get? b = some o ∧ ∀ v, o.data ≠ .cell v) : Inv X (pins ++ pinsAt fp s.heap) σ H s :=
  I.pins_of fun p hp => (List.mem_append.mp hp).elim (fun z => I.pin p (List.mem_append_right _ z)) fun z => by
    obtain ⟨hb, e⟩ := of_pinsAt z
    obtain ⟨f0, f1, f2, _⟩ := hf p.1 hb
    obtain ⟨o, e', d⟩ := ho p.1 hb
    rw [e] at e'; cases e'
    exact ⟨e, f0, f1, f2, d⟩
theorem Inv.unpinned {pins pl : List (Addr × Obj)} {σ : St} {H : Hp} {s : Shared} (I : Inv X (pins ++ pl) σ H s) : Inv X pins σ H s := I.pins_of fun p hp => I.pin p (List.mem_append_right _ (List.mem_append_left _ hp))
theorem ps_for {iter : Expr} {body : List Stmt} {wi : TI} {g : TG} {tb : TS} {pos : Pos} (hp : PassesOwn (model X.prog X.w) X.A X.env X.xe) (hc : X.calm = true) (hi : PI X tg iter wi) (hg : PG X tg g) (hb : PSs X body tb)
    (hs : ∀ x, foldedSetIterable iter X.env x = pure x := by intro _; rfl) : PS X (.For tg iter body [] pos) (tFor wi g tb) := by
  intro pins s σ H D I h
  refine wpAny_For (thn (hi pins s σ H _ I h) fun v s1 h1 => thn h1 fun itv s2 h2 => ?_) hs
  obtain ⟨it, fp, tn, J, H2, e, I2, T, st2, f2, W, ⟨m0, w0⟩, turn⟩ := h2
  subst e
  -- what stays true of the iterator's objects through the loop
  have stat : ∀ {H' : Hp}, (∀ b ∈ fp, H' b = none) → ∀ b ∈ fp, FpOk X pins H' b := fun hn b hb => ⟨hn b hb, (f2 b hb).2⟩
  refine codeAny_forLoop_any (fun n s' => ∃ i σ' H', Inv X pins σ' H' s' ∧ tn i s'.heap ∧ (∀ b ∈ fp, H' b = none) ∧ W i n σ' H') ?_ m0 ⟨0, σ, H2, I2, st2, fun b hb => (f2 b hb).1, w0⟩
  rintro n s3 ⟨i, σ3, H3, I3, st3, fr3, w3⟩
  rcases turn i n σ3 H3 w3 with ⟨stop, qn⟩ | ⟨go, N, hN, step⟩
  · refine wpAny_passesOwn hp (thn (T.done X rfl rfl rfl hc i pins s3 σ3 H3 X.xe I3 (stat fr3) st3 stop) fun r s4 ⟨hr, I4⟩ => ?_)
    subst hr
    exact wpAny_execs_nil ⟨σ3, H3, I4, qn⟩
  · refine wpAny_passesOwn hp (thn (T.item X rfl rfl rfl hc i pins s3 σ3 H3 X.xe I3 (stat fr3) st3 go) fun r s4 ⟨u, hr, h4⟩ => ?_)
    subst hr
    refine wpAny_passesOwn hp (thn h4 fun _ s5 ⟨x, H5, I5, r5, y5, st5, fr5⟩ => ?_)
    have I5' := I5.pinned (stat fr5) (T.obj _ _ st5)
    refine wpAny_passesOwn hp (thn (hg _ s5 σ3 H5 x u _ I5' r5 (step x H5 y5)) fun _ s6 ⟨σ6, H6, I6, q6⟩ => ?_)
    refine wpAny_passesOwn hp (thn (hb _ s6 σ6 H6 _ I6 q6) fun f s7 q7 => ?_)
    have again : ∀ {σ7 : St} {H7 : Hp}, Inv X (pins ++ pinsAt fp s5.heap) σ7 H7 s7 → N σ7 H7 → ∃ m, m < n ∧ ∃ i σ' H', Inv X pins σ' H' s7 ∧ tn i s7.heap ∧ (∀ b ∈ fp, H' b = none) ∧ W i m σ' H' := fun {σ7 H7} I7 n7 => by
      obtain ⟨m', hm, w7⟩ := hN σ7 H7 n7
      refine ⟨m', hm, i + 1, σ7, H7, I7.unpinned, T.keep _ _ _ st5 fun b hb o e => (I7.pin (b, o) (List.mem_append_right _ (List.mem_append_right _ (mem_pinsAt hb e)))).1, fun b hb => ?_, w7⟩
      obtain ⟨o, e, d⟩ := T.obj _ _ st5 b hb
      exact (I7.pin (b, o) (List.mem_append_right _ (List.mem_append_right _ (mem_pinsAt hb e)))).2.1
    cases f with
    | next => obtain ⟨σ7, H7, I7, n7⟩ := q7; exact again I7 n7
    | cont => obtain ⟨σ7, H7, I7, n7⟩ := q7; exact again I7 n7
    | brk => obtain ⟨σ7, H7, I7, q7⟩ := q7; exact ⟨σ7, H7, I7.unpinned, q7⟩
    | ret v => obtain ⟨x7, σ7, H7, I7, r7, q7⟩ := q7; exact ⟨x7, σ7, H7, I7.unpinned, r7, q7⟩
end

/-! ### the forms one uses -/
/-- over a list that the body leaves as it is -/
theorem for_list {K : PySem.W.Frag} {a : Addr} {xs : List V} {g : TG} {tb : TS} {D : Ends} {σ : St} {H : Hp} (Pv : Nat → St → Hp → Prop) (h0 : Pv 0 σ H) (hl : ∀ i σ H, i ≤ xs.length → Pv i σ H → SqL K H a xs)
    (hs : ∀ i x σ H, xs[i]? = some x → Pv i σ H → g x σ H fun σ2 H2 => tb { D with nx := Pv (i + 1), ct := Pv (i + 1), bk := D.nx } σ2 H2) (hd : ∀ σ H, Pv xs.length σ H → D.nx σ H) :
    ∃ W : Nat → Nat → St → Hp → Prop, (∃ m, W 0 m σ H) ∧ ∀ i m σ H, W i m σ H →
      ((Itl K a).stop i H ∧ D.nx σ H) ∨ ((Itl K a).go i H ∧ ∃ N : St → Hp → Prop, (∀ σ' H', N σ' H' → ∃ m', m' < m ∧ W (i + 1) m' σ' H') ∧ ∀ x H', (Itl K a).yld i H x H' → g x σ H' fun σ2 H2 => tb { D with nx := N, ct := N, bk := D.nx } σ2 H2) := by
  refine ⟨fun i m σ H => m = xs.length - i ∧ i ≤ xs.length ∧ Pv i σ H, ⟨xs.length, by simp, Nat.zero_le _, h0⟩, ?_⟩
  rintro i m σ H ⟨rfl, hi, p⟩
  have q := hl i σ H hi p
  by_cases hlt : i < xs.length
  · refine .inr ⟨⟨xs, xs[i], q, by simp [hlt]⟩, Pv (i + 1), fun σ' H' p' => ⟨xs.length - (i + 1), by omega, rfl, hlt, p'⟩, fun x H' y => ?_⟩
    obtain ⟨e, y⟩ := y
    subst e
    exact hs i x σ _ (y xs q) p
  · have e : i = xs.length := by omega
    subst e
    exact .inl ⟨⟨xs, q, Nat.le_refl _⟩, hd σ H p⟩
theorem for_range {lo : Int} {n : Nat} {g : TG} {tb : TS} {D : Ends} {σ : St} {H : Hp} (Pv : Nat → St → Hp → Prop) (h0 : Pv 0 σ H)
    (hs : ∀ i σ H, i < n → Pv i σ H → g (.int (lo + i)) σ H fun σ2 H2 => tb { D with nx := Pv (i + 1), ct := Pv (i + 1), bk := D.nx } σ2 H2) (hd : ∀ σ H, Pv n σ H → D.nx σ H) :
    ∃ W : Nat → Nat → St → Hp → Prop, (∃ m, W 0 m σ H) ∧ ∀ i m σ H, W i m σ H →
      ((Itr lo n).stop i H ∧ D.nx σ H) ∨ ((Itr lo n).go i H ∧ ∃ N : St → Hp → Prop, (∀ σ' H', N σ' H' → ∃ m', m' < m ∧ W (i + 1) m' σ' H') ∧ ∀ x H', (Itr lo n).yld i H x H' → g x σ H' fun σ2 H2 => tb { D with nx := N, ct := N, bk := D.nx } σ2 H2) := by
  refine ⟨fun i m σ H => m = n - i ∧ i ≤ n ∧ Pv i σ H, ⟨n, by simp, Nat.zero_le _, h0⟩, ?_⟩
  rintro i m σ H ⟨rfl, hi, p⟩
  by_cases hlt : i < n
  · refine .inr ⟨hlt, Pv (i + 1), fun σ' H' p' => ⟨n - (i + 1), by omega, rfl, hlt, p'⟩, fun x H' y => ?_⟩
    obtain ⟨e, y⟩ := y
    subst e y
    exact hs i σ _ hlt p
  · have e : i = n := by omega
    subst e
    exact .inl ⟨Nat.le_refl _, hd σ H p⟩
/-- while, by a word and a measure of the state -/
theorem while_by {c : TT} {tb : TS} {D : Ends} {σ : St} {H : Hp} (Pv : St → Hp → Prop) (μ : St → Hp → Nat) (h0 : Pv σ H)
    (hs : ∀ σ H, Pv σ H → c σ H fun b H1 => if b = true then tb { D with nx := fun σ' H' => Pv σ' H' ∧ μ σ' H' < μ σ H, ct := fun σ' H' => Pv σ' H' ∧ μ σ' H' < μ σ H, bk := D.nx } σ H1 else D.nx σ H1)
    (mono : ∀ σ H Q Q', (∀ b H1, Q b H1 → Q' b H1) → c σ H Q → c σ H Q') : tWhile c tb D σ H := by
  refine ⟨fun m σ H => m = μ σ H ∧ Pv σ H, ⟨_, rfl, h0⟩, ?_⟩
  rintro m σ H ⟨rfl, p⟩
  refine mono σ H _ _ (fun b H1 q => ?_) (hs σ H p)
  cases b with
  | true => exact ⟨_, fun σ' H' ⟨p', l⟩ => ⟨_, l, rfl, p'⟩, q⟩
  | false => exact q
end L2

namespace L2
open PySem PySem.Spec PyProof.Rows

noncomputable abbrev R2 := V → V → Hp → VK → Prop
/-- a two-place operation on values: f is binaryOp op, inplaceOp op or compareOp op -/
noncomputable def OpR (X : Cx) (f : Value → Value → Sem Value) (r : R2) : Prop :=
  ∀ (pins : List (Addr × Obj)) (s : Shared) (σ : St) (H : Hp) (x y : V) (v u : Value) (Q : VK), Inv X pins σ H s → RelV x v → RelV y u → r x y H Q →
    wpAny (model X.prog X.w) X.A (f v u) (EP X pins σ Q) X.xe s
/-- a one-place operation -/
noncomputable def UnR (X : Cx) (f : Value → Sem Value) (r : V → Hp → VK → Prop) : Prop :=
  ∀ (pins : List (Addr × Obj)) (s : Shared) (σ : St) (H : Hp) (x : V) (v : Value) (Q : VK), Inv X pins σ H s → RelV x v → r x H Q →
    wpAny (model X.prog X.w) X.A (f v) (EP X pins σ Q) X.xe s
/-- a call of a value that is known (a builtin, a type) with values -/
noncomputable def CallR (X : Cx) (f : Value) (r : List V → Hp → VK → Prop) : Prop :=
  ∀ (pins : List (Addr × Obj)) (s : Shared) (σ : St) (H : Hp) (xs : List V) (us : List Value) (Q : VK), Inv X pins σ H s → Vals xs us → r xs H Q →
    wpAny (model X.prog X.w) X.A (call f us) (EP X pins σ Q) X.xe s
/-- a value's truth -/
noncomputable def tOp (r : R2) (ta tb : TE) : TE := fun σ H Q => ta σ H fun x H1 => tb σ H1 fun y H2 => r x y H2 Q
noncomputable def tUn (r : V → Hp → VK → Prop) (ta : TE) : TE := fun σ H Q => ta σ H fun x H1 => r x H1 Q
/-- ints in, under C, and a value out -/
noncomputable def rI (C : Int → Int → Prop) (g : Int → Int → V) : R2 := fun x y H Q => ∃ i j, x = .int i ∧ y = .int j ∧ C i j ∧ Q (g i j) H
noncomputable def rI0 (g : Int → Int → V) : R2 := fun x y H Q => ∃ i j, x = .int i ∧ y = .int j ∧ Q (g i j) H
noncomputable def rU (g : Int → V) : V → Hp → VK → Prop := fun x H Q => ∃ i, x = .int i ∧ Q (g i) H

section
variable {X : Cx} {a b c : Expr} {ta tb tc : TE} {pos : Pos}

theorem binT (ha : PE X a ta) (hb : PE X b tb) {pins : List (Addr × Obj)} {s : Shared} {σ : St} {H : Hp} {R : V → V → Hp → Prop} (I : Inv X pins σ H s)
    (h : ta σ H fun x H1 => tb σ H1 fun y H2 => R x y H2) {Q : Value → Shared → Prop} {f : Value → Value → Sem Value}
    (hf : ∀ v u s2 x y H2, Inv X pins σ H2 s2 → RelV x v → RelV y u → R x y H2 → wpAny (model X.prog X.w) X.A (f v u) Q X.xe s2) :
    wpAny (model X.prog X.w) X.A (eval a X.env) (fun v s₁ => wpAny (model X.prog X.w) X.A (eval b X.env) (fun u s₂ => wpAny (model X.prog X.w) X.A (f v u) Q X.xe s₂) X.xe s₁) X.xe s := by
  refine thn (ha pins s σ H _ I h) fun v s1 ⟨x, H1, I1, r1, q1⟩ => ?_
  refine thn (hb pins s1 σ H1 _ I1 q1) fun u s2 ⟨y, H2, I2, r2, q2⟩ => ?_
  exact hf v u s2 x y H2 I2 r1 r2 q2

theorem pe_op {op : Operator} {r : R2} (ho : OpR X (binaryOp op) r) (ha : PE X a ta) (hb : PE X b tb) : PE X (.BinOp a op b pos) (tOp r ta tb) := by
  intro pins s σ H Q I h
  exact wpAny_BinOp (binT ha hb I h fun v u s2 x y H2 I2 rx ry q => ho pins s2 σ H2 x y v u Q I2 rx ry q)
theorem pe_un {op : UnaryOp} {r : V → Hp → VK → Prop} (ho : UnR X (unaryOp op) r) (ha : PE X a ta) : PE X (.UnaryOp op a pos) (tUn r ta) := by
  intro pins s σ H Q I h
  exact UnaryOp_ (thn (ha pins s σ H _ I h) fun v s1 ⟨x, H1, I1, r1, q1⟩ => ho pins s1 σ H1 x v Q I1 r1 q1)
/-! ### ints -/
theorem opI {f : Value → Value → Sem Value} {C : Int → Int → Prop} {g : Int → Int → Int}
    (rule : ∀ (i j : Int) (t u : Tok) (s : Shared) (Q : Value → Shared → Prop) (E : Value → Shared → Prop), C i j → Q (.int (g i j) s.toks) { s with toks := s.toks + 1 } → wpAny (model X.prog X.w) X.A (f (.int i t) (.int j u)) Q E s) :
    OpR X f (rI C fun i j => .int (g i j)) := by
  intro pins s σ H x y v u Q I rx ry h
  obtain ⟨i, j, rfl, rfl, hc, q⟩ := h
  obtain ⟨t, rfl⟩ := rx
  obtain ⟨t', rfl⟩ := ry
  exact rule i j t t' s _ _ hc ⟨.int (g i j), H, I.tok _, ⟨_, rfl⟩, q⟩
theorem opI0 {f : Value → Value → Sem Value} {g : Int → Int → Int}
    (rule : ∀ (i j : Int) (t u : Tok) (s : Shared) (Q : Value → Shared → Prop) (E : Value → Shared → Prop), Q (.int (g i j) s.toks) { s with toks := s.toks + 1 } → wpAny (model X.prog X.w) X.A (f (.int i t) (.int j u)) Q E s) :
    OpR X f (rI0 fun i j => .int (g i j)) := by
  intro pins s σ H x y v u Q I rx ry h
  obtain ⟨i, j, rfl, rfl, q⟩ := h
  obtain ⟨t, rfl⟩ := rx
  obtain ⟨t', rfl⟩ := ry
  exact rule i j t t' s _ _ ⟨.int (g i j), H, I.tok _, ⟨_, rfl⟩, q⟩
theorem opB0 {f : Value → Value → Sem Value} {g : Int → Int → Bool}
    (rule : ∀ (i j : Int) (t u : Tok) (s : Shared) (Q : Value → Shared → Prop) (E : Value → Shared → Prop), Q (.bool (g i j)) s → wpAny (model X.prog X.w) X.A (f (.int i t) (.int j u)) Q E s) :
    OpR X f (rI0 fun i j => .bl (g i j)) := by
  intro pins s σ H x y v u Q I rx ry h
  obtain ⟨i, j, rfl, rfl, q⟩ := h
  obtain ⟨t, rfl⟩ := rx
  obtain ⟨t', rfl⟩ := ry
  exact rule i j t t' s _ _ ⟨.bl (g i j), H, I, rfl, q⟩

noncomputable def CDiv (i j : Int) : Prop := 0 < j ∧ j < 1073741824
noncomputable def CPow (i j : Int) : Prop := 0 ≤ j ∧ j ≤ 1000000 ∧ i.natAbs < 2 ^ 64
noncomputable def CMul (i j : Int) : Prop := (-(2 ^ 64) < i ∧ i < 2 ^ 64) ∨ (-(2 ^ 64) < j ∧ j < 2 ^ 64)
theorem CMul.ok {i j : Int} (h : CMul i j) : IntMulOk i j := by
  rcases h with ⟨h1, h2⟩ | ⟨h1, h2⟩
  · exact .of_left (intBits_le_64 h1 h2)
  · exact .of_right (intBits_le_64 h1 h2)
theorem op_add : OpR X (binaryOp .Add) (rI0 fun i j => .int (i + j)) := opI0 fun _ _ _ _ _ _ _ q => add_int q
theorem op_sub : OpR X (binaryOp .Sub) (rI0 fun i j => .int (i - j)) := opI0 fun _ _ _ _ _ _ _ q => sub_int q
/-- // by a positive divisor -/
theorem op_fdiv : OpR X (binaryOp .FloorDiv) (rI CDiv fun i j => .int (i / j)) := opI fun i j _ _ _ _ _ hc q => by
  have h1 : (0 : Int) < j := hc.1
  have h2 : j < 1073741824 := hc.2
  exact floordiv_int (by omega) (by rw [Int.fdiv_eq_ediv_of_nonneg i (by omega)]; exact q) (.inl (PyProof.noPylong_small (by omega)))
/-- % by a positive divisor of any size -/
theorem op_mod : OpR X (binaryOp .Mod) (rI (fun _ j => 0 < j) fun i j => .int (i % j)) := opI fun i j _ _ _ _ _ hc q => by
  have h1 : (0 : Int) < j := hc
  exact mod_int' (by omega) (by rw [Int.fmod_eq_emod_of_nonneg i (by omega)]; exact q)
theorem op_modN : OpR X (binaryOp .Mod) (rI (fun _ j => j ≠ 0) fun i j => .int (i.fmod j)) := opI fun _ _ _ _ _ _ _ hc q => mod_int' hc q
theorem op_pow : OpR X (binaryOp .Pow) (rI CPow fun i j => .int (i ^ j.toNat)) := opI fun _ _ _ _ _ _ _ hc q => pow_int_small hc.1 hc.2.1 hc.2.2 q
theorem unI {f : Value → Sem Value} {g : Int → Int}
    (rule : ∀ (i : Int) (t : Tok) (s : Shared) (Q : Value → Shared → Prop) (E : Value → Shared → Prop), Q (.int (g i) s.toks) { s with toks := s.toks + 1 } → wpAny (model X.prog X.w) X.A (f (.int i t)) Q E s) :
    UnR X f (rU fun i => .int (g i)) := by
  intro pins s σ H x v Q I rx h
  obtain ⟨i, rfl, q⟩ := h
  obtain ⟨t, rfl⟩ := rx
  exact rule i t s _ _ ⟨.int (g i), H, I.tok _, ⟨_, rfl⟩, q⟩
theorem un_neg : UnR X (unaryOp .USub) (rU fun i => .int (-i)) := unI fun _ _ _ _ _ q => neg_int q
/-! ### bools among ints: n += (a < b) -/
end

/-! ### comparisons -/
/-- the scalars that == tells apart as data does -/
noncomputable def scal : V → V → Bool
  | .non, .non => true | .non, .int _ => true | .int _, .non => true | .non, .bl _ => true | .bl _, .non => true | .non, .str _ => true | .str _, .non => true
  | .int _, .int _ => true | .bl _, .bl _ => true | .str _, .str _ => true | .byt _, .byt _ => true
  | .int _, .str _ => true | .str _, .int _ => true | .bl _, .str _ => true | .str _, .bl _ => true
  | _, _ => false
noncomputable def rEq : R2 := fun x y H Q => scal x y = true ∧ Q (.bl (decide (x = y))) H
noncomputable def rNe : R2 := fun x y H Q => scal x y = true ∧ Q (.bl (!decide (x = y))) H

theorem dec_int {i j : Int} : decide (V.int i = V.int j) = (i == j) := by
  rw [Bool.eq_iff_iff]
  simp
theorem dec_bl {i j : Bool} : decide (V.bl i = V.bl j) = (i == j) := by
  rw [Bool.eq_iff_iff]
  simp
theorem dec_str {i j : Str} : decide (V.str i = V.str j) = (i == j) := by
  rw [Bool.eq_iff_iff]
  simp
theorem dec_byt {i j : Array UInt8} : decide (V.byt i = V.byt j) = (i.toList == j.toList) := by
  rw [Bool.eq_iff_iff]
  cases i
  cases j
  simp

section
variable {X : Cx} {a b c : Expr} {ta tb tc : TE} {pos : Pos}
theorem fin_bl {pins : List (Addr × Obj)} {σ : St} {H : Hp} {s : Shared} {Q : VK} {k k' : Bool} (I : Inv X pins σ H s) (q : Q (.bl k) H) (e : k = k') : EP X pins σ Q (.bool k') s := by
  subst e
  exact ⟨.bl k, H, I, rfl, q⟩
theorem op_eq : OpR X (compareOp .Eq) rEq := by
  intro pins s σ H x y v u Q I rx ry h
  obtain ⟨hs, q⟩ := h
  cases x with
  | non =>
    cases rx
    cases y with
    | non => cases ry; exact PySem.EqNone.eq_none_none (fin_bl I q (by simp))
    | bl j => cases ry; exact PySem.EqNone.eq_none_bool (fin_bl I q (by simp))
    | int j => obtain ⟨t', rfl⟩ := ry; exact PySem.EqNone.eq_none_int (fin_bl I q (by simp))
    | str j => obtain ⟨t', rfl⟩ := ry; exact PySem.EqNone.eq_none_str (fin_bl I q (by simp))
    | _ => exact absurd (show false = true from hs) Bool.false_ne_true
  | bl i =>
    cases rx
    cases y with
    | non => cases ry; exact PySem.EqNone.eq_bool_none (fin_bl I q (by simp))
    | bl j => cases ry; exact eq_bool (fin_bl I q dec_bl)
    | str j => obtain ⟨t', rfl⟩ := ry; exact PySem.EqMixed.eq_bool_str (fin_bl I q (by simp))
    | _ => exact absurd (show false = true from hs) Bool.false_ne_true
  | int i =>
    obtain ⟨t, rfl⟩ := rx
    cases y with
    | non => cases ry; exact PySem.EqNone.eq_int_none (fin_bl I q (by simp))
    | int j => obtain ⟨t', rfl⟩ := ry; exact eq_int (fin_bl I q dec_int)
    | str j => obtain ⟨t', rfl⟩ := ry; exact PySem.EqMixed.eq_int_str (fin_bl I q (by simp))
    | _ => exact absurd (show false = true from hs) Bool.false_ne_true
  | str i =>
    obtain ⟨t, rfl⟩ := rx
    cases y with
    | non => cases ry; exact PySem.EqNone.eq_str_none (fin_bl I q (by simp))
    | bl j => cases ry; exact PySem.EqMixed.eq_str_bool (fin_bl I q (by simp))
    | int j => obtain ⟨t', rfl⟩ := ry; exact PySem.EqMixed.eq_str_int (fin_bl I q (by simp))
    | str j => obtain ⟨t', rfl⟩ := ry; exact eq_str (fin_bl I q dec_str)
    | _ => exact absurd (show false = true from hs) Bool.false_ne_true
  | byt i =>
    obtain ⟨t, rfl⟩ := rx
    cases y with
    | byt j => obtain ⟨t', rfl⟩ := ry; exact PySem.W.eq_bytes (fin_bl I q dec_byt)
    | _ => exact absurd (show false = true from hs) Bool.false_ne_true
  | _ => cases y <;> exact absurd (show false = true from hs) Bool.false_ne_true
theorem op_ne : OpR X (compareOp .NotEq) rNe := by
  intro pins s σ H x y v u Q I rx ry h
  obtain ⟨hs, q⟩ := h
  cases x with
  | non =>
    cases rx
    cases y with
    | non => cases ry; exact PySem.EqNone.ne_none_none (fin_bl I q (by simp))
    | bl j => cases ry; exact PySem.EqNone.ne_none_bool (fin_bl I q (by simp))
    | int j => obtain ⟨t', rfl⟩ := ry; exact PySem.EqNone.ne_none_int (fin_bl I q (by simp))
    | str j => obtain ⟨t', rfl⟩ := ry; exact PySem.EqNone.ne_none_str (fin_bl I q (by simp))
    | _ => exact absurd (show false = true from hs) Bool.false_ne_true
  | bl i =>
    cases rx
    cases y with
    | non => cases ry; exact PySem.EqNone.ne_bool_none (fin_bl I q (by simp))
    | bl j => cases ry; exact ne_bool (fin_bl I q (congrArg not dec_bl))
    | str j => obtain ⟨t', rfl⟩ := ry; exact PySem.EqMixed.ne_bool_str (fin_bl I q (by simp))
    | _ => exact absurd (show false = true from hs) Bool.false_ne_true
  | int i =>
    obtain ⟨t, rfl⟩ := rx
    cases y with
    | non => cases ry; exact PySem.EqNone.ne_int_none (fin_bl I q (by simp))
    | int j => obtain ⟨t', rfl⟩ := ry; exact ne_int (fin_bl I q (congrArg not dec_int))
    | str j => obtain ⟨t', rfl⟩ := ry; exact PySem.EqMixed.ne_int_str (fin_bl I q (by simp))
    | _ => exact absurd (show false = true from hs) Bool.false_ne_true
  | str i =>
    obtain ⟨t, rfl⟩ := rx
    cases y with
    | non => cases ry; exact PySem.EqNone.ne_str_none (fin_bl I q (by simp))
    | bl j => cases ry; exact PySem.EqMixed.ne_str_bool (fin_bl I q (by simp))
    | int j => obtain ⟨t', rfl⟩ := ry; exact PySem.EqMixed.ne_str_int (fin_bl I q (by simp))
    | str j => obtain ⟨t', rfl⟩ := ry; exact ne_str (fin_bl I q (congrArg not dec_str))
    | _ => exact absurd (show false = true from hs) Bool.false_ne_true
  | byt i =>
    obtain ⟨t, rfl⟩ := rx
    cases y with
    | byt j => obtain ⟨t', rfl⟩ := ry; exact PySem.W.ne_bytes (fin_bl I q (congrArg not dec_byt))
    | _ => exact absurd (show false = true from hs) Bool.false_ne_true
  | _ => cases y <;> exact absurd (show false = true from hs) Bool.false_ne_true

theorem op_lt : OpR X (compareOp .Lt) (rI0 fun i j => .bl (decide (i < j))) := opB0 fun _ _ _ _ _ _ _ q => lt_int q
theorem op_le : OpR X (compareOp .LtE) (rI0 fun i j => .bl (decide (i ≤ j))) := opB0 fun _ _ _ _ _ _ _ q => le_int q
theorem op_gt : OpR X (compareOp .Gt) (rI0 fun i j => .bl (decide (j < i))) := opB0 fun _ _ _ _ _ _ _ q => gt_int q
/-- is None, is not None: the right side a value none -/
theorem op_isN : OpR X (compareOp .Is) (fun x y H Q => y = .non ∧ Q (.bl (decide (x = .non))) H) := by
  intro pins s σ H x y v u Q I rx ry h
  obtain ⟨rfl, q⟩ := h
  cases ry
  refine is_none_gen (fin_bl I q ?_)
  cases x <;> first
    | (cases rx; rfl)
    | (obtain ⟨t, rfl⟩ := rx; rfl)
/-- two rules for one operation: by cases -/
theorem nomark (b : Expr) {op : CmpOp} (h : op ≠ .In := by decide) (h2 : op ≠ .NotIn := by decide) : behindInMarks op b = false := by
  have e1 : (op == CmpOp.In) = false := by cases op <;> first | rfl | exact absurd rfl h
  have e2 : (op == CmpOp.NotIn) = false := by cases op <;> first | rfl | exact absurd rfl h2
  cases b <;> simp [behindInMarks, e1, e2]
/-- a comparison as a value; hm: nomark b, or (for in, not in) by with_unfolding_all rfl -/
theorem pe_cmpR {op : CmpOp} {r : R2} (ho : OpR X (compareOp op) r) (ha : PE X a ta) (hb : PE X b tb) (hm : behindInMarks op b = false) : PE X (.Compare a [op] [b] pos) (tOp r ta tb) := by
  intro pins s σ H Q I h
  exact wpAny_Compare1 (binT ha hb I h fun v u s2 x y H2 I2 rx ry q => ho pins s2 σ H2 x y v u Q I2 rx ry q) hm
/-- a reading of a value as a test -/
noncomputable def tTest (t : TE) : TT := fun σ H Q => t σ H fun x H' => ∃ k, x = .bl k ∧ Q k H'
theorem pt_cmpR {op : CmpOp} {r : R2} (ho : OpR X (compareOp op) r) (ha : PE X a ta) (hb : PE X b tb) (hm : behindInMarks op b = false) : PT X (.Compare a [op] [b] pos) (tTest (tOp r ta tb)) := by
  intro pins s σ H Q I h
  refine wpAny_isTrue_Compare1 (thn (ha pins s σ H _ I h) fun v s1 ⟨x, H1, I1, r1, q1⟩ => thn (hb pins s1 σ H1 _ I1 q1) fun u s2 ⟨y, H2, I2, r2, q2⟩ =>
    thn (ho pins s2 σ H2 x y v u _ I2 r1 r2 q2) fun c s3 ⟨z, H3, I3, r3, k, e, q3⟩ => ?_) hm
  subst e
  cases r3
  exact wpAny_truthy_bool ⟨H3, I3, q3⟩
/-! ### truth -/
/-- a value's truth by the abstract heap -/
theorem line63 : (sizeLine : Nat) < 2 ^ 63 := by rw [sizeLine_eq]; decide
/-! ### strs and bytes -/
/-! ### scalar builtins, by CallR -/
theorem vals1 {x : V} {us : List Value} (r : Vals [x] us) : ∃ u, us = [u] ∧ RelV x u := by
  cases r with
  | cons r1 r2 => cases r2; exact ⟨_, rfl, r1⟩
theorem call_abs : CallR X (.builtin "abs") (fun xs H Q => ∃ i, xs = [.int i] ∧ Q (.int (if i < 0 then -i else i)) H) := by
  intro pins s σ H xs us Q I r h
  obtain ⟨i, rfl, q⟩ := h
  obtain ⟨u, rfl, t, rfl⟩ := vals1 r
  exact call_abs_int fun u tk => ⟨.int (if i < 0 then -i else i), H, I.tok _, ⟨_, rfl⟩, q⟩
end
end L2

namespace L2
open PySem PySem.Spec PyProof.Rows

/-! ### an instance, its attributes a map -/
structure ObjM (h : Heap) (x dx C : Addr) (mA : Str → Option Value) : Prop where
  obj : h.get? x = some (PySem.W.instObj C dx)
  ns : h.Ns1 dx mA
  ne : dx ≠ x

theorem lookIn_ns {h : Heap} {dx : Addr} {mA : Str → Option Value} (n : h.Ns1 dx mA) : ∃ od, h.get? dx = some od ∧ ∀ name, PySem.W.lookIn name od = some (mA name) := by
  obtain ⟨o, es, ep, ho, hd, hk, _, hm⟩ := n
  refine ⟨o, ho, fun name => ?_⟩
  have e := hm name
  unfold nsFind findBy at e
  rw [← Array.find?_toList] at e
  unfold PySem.W.lookIn
  rw [hd]
  dsimp only
  split
  · rename_i y q
    rw [q] at e
    exact congrArg some e
  · rename_i q
    rw [q] at e
    have a : es.toList.any (·.refKey) = false := by
      rw [List.any_eq_false]
      intro y hy
      obtain ⟨z, t, hkey⟩ := hk y (Array.mem_toList_iff.mp hy)
      simp [DictEntry.refKey, hkey]
    have a' : ¬ es.toList.any (·.refKey) = true := by rw [a]; exact Bool.false_ne_true
    rw [if_neg a']
    exact congrArg some e

theorem ObjM.look {h : Heap} {x dx C : Addr} {mA : Str → Option Value} (I : ObjM h x dx C mA) : ∃ od, PySem.W.InstAt h x (PySem.W.instObj C dx) C (some od) ∧ ∀ name, PySem.W.lookIn name od = some (mA name) :=
  let ⟨od, ho, hl⟩ := lookIn_ns I.ns
  ⟨od, ⟨I.obj, rfl, rfl, ho⟩, hl⟩

section
variable {prog : Program} {w : World} {A : Around} {E : Value → Shared → Prop} {s : Shared} {K : PySem.W.Frag} {x dx C f : Addr} {mA : Str → Option Value} {name : Str} {v : Value}

end

/-! ### the attributes as a list of pairs -/
noncomputable def putF (f : Str) (v : V) : List (Str × V) → List (Str × V)
  | [] => [(f, v)]
  | (g, x) :: r => if g = f then (g, v) :: r else (g, x) :: putF f v r
theorem RelO.some_of {v : V} {o : Option Value} (r : RelO (some v) o) : ∃ u, o = some u ∧ RelV v u := by
  cases o with
  | none => exact (show False from r).elim
  | some u => exact ⟨u, rfl, r⟩
section
variable {P : Program} {w : World} {H H' : Hp} {h h' : Heap} {a C dx : Addr} {fs fs' : List (Str × V)}
theorem ins_get (hok : HOk P w H h) (e : H a = some (.ins C dx fs)) : ∃ mA, ObjM h a dx C mA ∧ (∀ f, RelO (fs.lookup f) (mA f)) ∧ PySem.Within mA (fs.map (·.1)) ∧ fs.length ≤ 1000 ∧ H dx = some (.own a) := by
  obtain ⟨d, z, ne, ob, mA, n, r, q⟩ := (show ObjOk P w H h a (.ins C dx fs) from hok a _ e)
  exact ⟨mA, ⟨ob, n, ne⟩, r, q, z, d⟩
end

/-! ### what of the text a class must have -/
structure Cls (K : PySem.W.Frag) (C : Addr) : Prop where
  pg : PySem.W.plainGet K C Str.empty = true
  hd : PySem.W.hasDictIn K C = true
  po : PySem.W.plainOver K C = true
  sa : PySem.W.findIn K (.ref C) "__setattr__" = some (some (.builtin "object.__setattr__"))
theorem Cls.get {K : PySem.W.Frag} {C : Addr} (c : Cls K C) (f : Str) : PySem.W.plainGet K C f = true := c.pg
section
variable {X : Cx} {pins : List (Addr × Obj)} {σ : St} {H : Hp} {s : Shared} {a C dx : Addr} {fs : List (Str × V)} {f : Str} {v : V} {A : Around} {E : Value → Shared → Prop}

end

/-! ### readings and rules -/
section
variable {X : Cx} {o e value : Expr} {f : Str} {pos pos' tpos : Pos} {ta tv : TE}
end

/-! ### isinstance -/
section
variable {X : Cx} {pins : List (Addr × Obj)} {σ : St} {H : Hp} {s : Shared} {A : Around} {E : Value → Shared → Prop} {Q : Value → Shared → Prop} {c : Value} {b : Bool}
/-- the type of a value, as the fragment's deciders take it; for an instance its class -/
inductive TyOf (K : PySem.W.Frag) (H : Hp) : V → Value → Prop where
  | non : TyOf K H .non (.type "NoneType")
  | bl (x : Bool) : TyOf K H (.bl x) (.type "bool")
  | int (i : Int) : TyOf K H (.int i) (.type "int")
  | str (x : Str) : TyOf K H (.str x) (.type "str")
  | flt (x : UInt64) : TyOf K H (.flt x) (.type "float")
  | lst {a : Addr} {xs : List V} (e : H a = some (.lst xs)) : TyOf K H (.ref a) (.type "list")
  | frz {a : Addr} {o : Obj} {xs : List V} (e : H a = some (.frz o (.lst xs))) : TyOf K H (.ref a) (.type "list")
  | tup {a : Addr} {xs : List V} (e : H a = some (.tup xs)) : TyOf K H (.ref a) (.type "tuple")
  | dK {a : Addr} {kvs : List (Key × V)} (e : H a = some (.dK kvs)) : TyOf K H (.ref a) (.type "dict")
  | dT {a : Addr} {kvs : List (List Key × V)} (e : H a = some (.dT kvs)) : TyOf K H (.ref a) (.type "dict")
  | ins {a C dx : Addr} {fs : List (Str × V)} (e : H a = some (.ins C dx fs)) (cl : Cls K C) (ha : PySem.W.findIn K (.ref C) "__class__" = some (some (.builtin "object.__class__")))
      (hn : PySem.W.specialIn K (.builtin "object.__class__") "__get__" = some (some (.builtin "getset_descriptor.__get__"))) (htk : PySem.W.takesIn K (.builtin "object.__class__") = some true)
      (hm : PySem.W.mroIn K C (.type "object") = some true) : TyOf K H (.ref a) (.ref C)
/-- isinstance(x, c) for one class c, a built-in or an own one: kitOne's answer -/
theorem isinst_ok {x : V} {u t : Value} (I : Inv X pins σ H s) (rx : RelV x u) (ty : TyOf X.K H x t) (e : PySem.W.kitOne X.K t c = some b) (h : ∀ tk, Q (.bool b) { s with toks := tk }) :
    wpAny (model X.prog X.w) A (call (.builtin "isinstance") [u, c]) Q E s := by
  cases ty with
  | non => cases (show u = Value.none from rx); exact PySem.W.kia_one PySem.W.kitx_none I.kIn True.intro e (fun z => nomatch z) h
  | bl y => cases (show u = Value.bool y from rx); exact PySem.W.kia_one PySem.W.kitx_bool I.kIn True.intro e (fun z => nomatch z) h
  | int i => obtain ⟨t, q⟩ := (show ∃ t, u = Value.int i t from rx); cases q; exact PySem.W.kia_one PySem.W.kitx_int I.kIn True.intro e (fun z => nomatch z) h
  | str y => obtain ⟨t, q⟩ := (show ∃ t, u = Value.str y t from rx); cases q; exact PySem.W.kia_one PySem.W.kitx_str I.kIn True.intro e (fun z => nomatch z) h
  | flt y => obtain ⟨t, q⟩ := (show ∃ t, u = Value.float y t from rx); cases q; exact PySem.W.kia_one PySem.W.kitx_float I.kIn True.intro e (fun z => nomatch z) h
  | @lst a xs ea =>
    cases (show u = Value.ref a from rx)
    obtain ⟨_, _, n, _, h1⟩ := (show ObjOk X.prog X.w H s.heap a (.lst xs) from I.hok a _ ea)
    exact PySem.W.kia_one PySem.W.kitx_list I.kIn ⟨_, h1, rfl⟩ e (fun z => nomatch z) h
  | @frz a ob xs ea =>
    cases (show u = Value.ref a from rx)
    obtain ⟨_, _, _, n, _, h1⟩ := (show ObjOk X.prog X.w H s.heap a (.frz ob (.lst xs)) from I.hok a _ ea)
    exact PySem.W.kia_one PySem.W.kitx_list I.kIn ⟨_, h1, rfl⟩ e (fun z => nomatch z) h
  | @tup a xs ea =>
    cases (show u = Value.ref a from rx)
    obtain ⟨_, _, _, p⟩ := (show ObjOk X.prog X.w H s.heap a (.tup xs) from I.hok a _ ea)
    obtain ⟨o, h1, h2, _⟩ := p
    exact PySem.W.kia_one PySem.W.kitx_tuple I.kIn ⟨o, h1, h2⟩ e (fun z => nomatch z) h
  | @dK a kvs ea =>
    cases (show u = Value.ref a from rx)
    obtain ⟨_, _, vs, _, p⟩ := (show ObjOk X.prog X.w H s.heap a (.dK kvs) from I.hok a _ ea)
    obtain ⟨o, es, ep, h1, h2, _⟩ := p
    exact PySem.W.kia_one PySem.W.kitx_dict I.kIn ⟨o, h1, h2.1⟩ e (fun z => nomatch z) h
  | @dT a kvs ea =>
    cases (show u = Value.ref a from rx)
    obtain ⟨_, _, xs, _, o, es, ep, h1, h2, _⟩ := (show ObjOk X.prog X.w H s.heap a (.dT kvs) from I.hok a _ ea)
    exact PySem.W.kia_one PySem.W.kitx_dict I.kIn ⟨o, h1, h2.1⟩ e (fun z => nomatch z) h
  | @ins a C dx fs ea cl ha hn htk hm =>
    cases (show u = Value.ref a from rx)
    obtain ⟨mA, O, _⟩ := ins_get I.hok ea
    obtain ⟨od, J, _⟩ := O.look
    exact PySem.W.kia_one (PySem.W.kitx_own (cl.get _) cl.hd ha hn htk hm) I.kIn J e (fun z => nomatch z) h
end
end L2

namespace L2
open PySem PySem.Spec PyProof.Rows

/-! ### room -/
structure Room (k : Nat) (A : Around) : Prop where
  hd : A.handled = none
  dp : A.depth + 3 * k + 5 < recursionLimit
  un : A.units + 16 * k + 200 < cLine
theorem Room.mono {j k : Nat} {A : Around} (r : Room k A) (h : j ≤ k) : Room j A := ⟨r.hd, by have := r.dp; omega, by have := r.un; omega⟩
theorem Room.deeper {k : Nat} {A : Around} (r : Room (k + 1) A) (env : Env) : Room k (A.deeper env) :=
  ⟨r.hd, by have := r.dp; show A.depth + 1 + 3 * k + 5 < _; omega, by have := r.un; show A.units + 3 + 16 * k + 200 < _; omega⟩
theorem Room.in1 {k : Nat} {A : Around} (r : Room (k + 1) A) : Room k A.in1 :=
  ⟨r.hd, by have := r.dp; show A.depth + 3 * k + 5 < _; omega, by have := r.un; show A.units + 1 + 16 * k + 200 < _; omega⟩
theorem Room.depth {k : Nat} {A : Around} (r : Room k A) : A.depth < recursionLimit := by have := r.dp; omega
theorem Room.units {k : Nat} {A : Around} (r : Room k A) : A.units + 64 < cLine := by have := r.un; omega
/-! ### argument lists and displays -/
noncomputable def tNil : TA := fun _ H Q => Q [] H
noncomputable def tCons (ta : TE) (tr : TA) : TA := fun σ H Q => ta σ H fun x H1 => tr σ H1 fun xs H2 => Q (x :: xs) H2
section
variable {X : Cx} {e : Expr} {es : List Expr} {te : TE} {t : TA} {pos : Pos}
theorem pa_nil : PA X [] tNil := fun _ _ _ _ H Q I h => Calls.spliced_nil ⟨[], H, I, .nil, h⟩
theorem pa_cons (ha : PE X e te) (hr : PA X es t) (hs : starEach (e :: es) X.env = (false, eval e X.env) :: starEach es X.env := by rfl) : PA X (e :: es) (tCons te t) := by
  intro pos pins s σ H Q I h
  rw [hs]
  show wpAny _ _ (spliced ((false, eval e X.env) :: backTo pos (starEach es X.env))) _ _ s
  refine Calls.spliced_cons (thn (ha pins s σ H _ I h) fun u s1 ⟨x, H1, I1, r1, q1⟩ => ?_)
  exact thn (hr pos pins s1 σ H1 _ I1 q1) fun us s2 ⟨xs, H2, I2, r2, q2⟩ => ⟨x :: xs, H2, I2, .cons r1 r2, q2⟩

/-- a tuple, a list of written items -/
noncomputable def tTup (t : TA) : TE := fun σ H Q => t σ H fun xs H1 => xs.length ≤ sizeLine ∧ ∀ p, H1 p = none → Q (.ref p) (upd H1 p (.tup xs))
noncomputable def tLst (t : TA) : TE := fun σ H Q => t σ H fun xs H1 => xs.length ≤ sizeLine ∧ ∀ p, H1 p = none → Q (.ref p) (upd H1 p (.lst xs))
theorem pe_tup {x1} (h : PA X es t) : PE X (.Tuple es x1 pos) (tTup t) := by
  intro pins s σ H Q I hq
  refine wpAny_Tuple_spliced (thn (h pos pins s σ H _ I hq) fun us s1 ⟨xs, H1, I1, r, z, q⟩ => ⟨by rw [← r.length]; exact z, ?_⟩)
  have hf : H1 s1.heap.objs.size = none := I1.hok.fresh (Nat.le_refl _)
  refine ⟨.ref s1.heap.objs.size, upd H1 s1.heap.objs.size (.tup xs), I1.laid (t' := s1.toks) (fun b u e => Heap.get?_push_of_some _ e) (Nat.le_refl _) ?_, rfl, q _ hf⟩
  exact ⟨z, us, r, ⟨_, Heap.get?_push_size _ rfl, rfl, _, rfl⟩⟩
theorem pe_lst (h : PA X es t) : PE X (.List es pos) (tLst t) := by
  intro pins s σ H Q I hq
  refine wpAny_List_spliced (thn (h pos pins s σ H _ I hq) fun us s1 ⟨xs, H1, I1, r, z, q⟩ => ⟨by rw [← r.length]; exact z, ?_⟩)
  have hf : H1 s1.heap.objs.size = none := I1.hok.fresh (Nat.le_refl _)
  refine ⟨.ref s1.heap.objs.size, upd H1 s1.heap.objs.size (.lst xs), I1.laid (t' := s1.toks) (fun b u e => Heap.get?_push_of_some _ e) (Nat.le_refl _) ?_, rfl, q _ hf⟩
  exact ⟨z, us, 0, r, Heap.get?_push_size _ rfl⟩
end

/-! ### what a def promises -/
/-- a def's promise: the bound arguments in the parameters' order, the heap, the wanted end, the wanted exception -/
noncomputable abbrev Sp := List V → Hp → VK → XK → Prop
/-- how an exception lies behind a call (file 08 gives it): the callers' frames, abstract heap and state ahead of the call, the wish, the exception, the state -/
noncomputable abbrev CXT := List Env → Hp → Shared → XK → Value → Shared → Prop

/-- the state at a call -/
structure Env0 (P : Program) (w : World) (K : PySem.W.Frag) (mg : Str → Option Value) (base : Heap) (A : Around) (outer : List Env) (s : Shared) (H : Hp) : Prop where
  frames : A.frames = some outer
  mod : Mod K mg base
  bs : ∀ b o, base.get? b = some o → s.heap.get? b = some o ∧ H b = none
  bsz : base.objs.size ≤ s.heap.objs.size
  funs : s.heap.FunFrames base outer
  frf : ∀ b ∈ frs outer, H b = none
  hok : HOk P w H s.heap
  bare : AllBare s.gens
/-- a call's end -/
noncomputable def CE (outer : List Env) (P : Program) (w : World) (H : Hp) (s : Shared) (Q : VK) (u : Value) (s' : Shared) : Prop :=
  ∃ v H', s'.os = s.os ∧ AllBare s'.gens ∧ Un (frs outer) [] H H' s.heap s'.heap ∧ HOk P w H' s'.heap ∧ RelV v u ∧ Q v H'
noncomputable def CR (CX : CXT) (outer : List Env) (P : Program) (w : World) (H : Hp) (s : Shared) (Q : VK) (E : XK) (r : Result) (s' : Shared) : Prop :=
  match r with
  | .ok (.ret u) => CE outer P w H s Q u s'
  | .ok _ => False
  | .error e => CX outer H s E e s'
structure FnOk (P : Program) (w : World) (K : PySem.W.Frag) (mg : Str → Option Value) (base : Heap) (CX : CXT) (k : Nat) (f : Addr) (fd : FuncData) (ps : List Str) (sp : Sp) : Prop where
  len : ∀ vs H Q E, sp vs H Q E → vs.length = ps.length
  run : ∀ (A : Around) (outer : List Env) (s : Shared) (H : Hp) (args : Args) (us : List Value) (vs : List V) (Q : VK) (E : XK), Room k A → Env0 P w K mg base A outer s H → BindsTo s fd args (ps.zip us) → Vals vs us → sp vs H Q E →
    codeAny (model P w) A (.call (.ref f) args) (CR CX outer P w H s Q E) s
theorem FnOk.mono {P : Program} {w : World} {K : PySem.W.Frag} {mg : Str → Option Value} {base : Heap} {CX : CXT} {j k : Nat} {f : Addr} {fd : FuncData} {ps : List Str} {sp : Sp} (F : FnOk P w K mg base CX j f fd ps sp) (h : j ≤ k) :
    FnOk P w K mg base CX k f fd ps sp := ⟨F.len, fun A outer s H args us vs Q E hr => F.run A outer s H args us vs Q E (hr.mono h)⟩
/-- a weaker promise -/
theorem Env0.in1 {P : Program} {w : World} {K : PySem.W.Frag} {mg : Str → Option Value} {base : Heap} {A : Around} {outer : List Env} {s : Shared} {H : Hp} (e : Env0 P w K mg base A outer s H) :
    Env0 P w K mg base A.in1 outer s H := ⟨e.frames, e.mod, e.bs, e.bsz, e.funs, e.frf, e.hok, e.bare⟩

section
variable {X : Cx} {pins : List (Addr × Obj)} {σ : St} {H : Hp} {s s' : Shared}
/-- from a body: what a callee wants -/
theorem Inv.env0 (I : Inv X pins σ H s) : Env0 X.prog X.w X.K X.mg X.base X.A X.stack s H :=
  ⟨I.ok.frames, I.ok.mod, I.bs, Nat.le_trans I.ok.bsz I.sz, I.stack, I.stkFree, I.hok, I.bare⟩
/-- behind a call -/
theorem Inv.after {Q : VK} {u : Value} (I : Inv X pins σ H s) (h : CE X.stack X.prog X.w H s Q u s') : EP X pins σ Q u s' := by
  obtain ⟨v, H', os, bare, un, hok, r, q⟩ := h
  obtain ⟨hh, g, d, t, os'⟩ := s'
  obtain rfl : os' = s.os := os
  exact ⟨v, H', I.call (h' := hh) (g' := g) (d' := d) (t' := t) (ch := []) un hok bare (fun b z => absurd z (by simp)), r, q⟩
end

/-! ### calls -/
/-- f(..): the written arguments, then the defaults dvs; E: what is wanted of an exception -/
noncomputable def tCall (sp : Sp) (dvs : List V) (E : XK) (t : TA) : TE := fun σ H Q => t σ H fun vs H1 => sp (vs ++ dvs) H1 Q E
/-- how the parameters are bound: us the positional arguments, kw the keywords' values by name, ds the defaults that fill up -/
noncomputable def Binds (K : PySem.W.Frag) (fd : FuncData) (ps : List Str) (ds : List Value) : Prop :=
  ∀ (s : Shared) (us : List Value), K.In s.heap → (us ++ ds).length = ps.length → BindsTo s fd ⟨us, []⟩ (ps.zip (us ++ ds))
/-- every parameter is given -/
theorem Binds.all {K : PySem.W.Frag} {fd : FuncData} {ps : List Str} (h : ∀ us : List Value, us.length = ps.length → bindArgs fd ⟨us, []⟩ = pure (ps.zip us)) : Binds K fd ps [] := fun s us _ hl => by
  rw [List.append_nil] at hl ⊢
  exact .of_eq (h us hl)

/-- an exception of a callee reaches what this body wants of exceptions -/
noncomputable def Passes (CX : CXT) (X : Cx) (E : XK) : Prop := ∀ (pins : List (Addr × Obj)) (σ : St) (H : Hp) (s : Shared) (e : Value) (s' : Shared), Inv X pins σ H s → CX X.stack H s E e s' → X.xe e s'

section
variable {X : Cx} {CX : CXT} {k : Nat} {f C : Addr} {fd : FuncData} {ps : List Str} {sp : Sp} {dvs : List V} {ds : List Value} {E : XK} {x m : Str} {p pos apos : Pos} {e o : Expr} {es : List Expr} {ta : TE} {t : TA}

/-- the callee runs -/
theorem run_fn {pins : List (Addr × Obj)} {σ : St} {H : Hp} {s : Shared} {Q : VK} {us : List Value} {vs : List V} (F : FnOk X.prog X.w X.K X.mg X.base CX k f fd ps sp) (hr : Room k X.A) (hb : Binds X.K fd ps ds) (hd : Vals dvs ds) (hx : Passes CX X E)
    (I : Inv X pins σ H s) (r : Vals vs us) (h : sp (vs ++ dvs) H Q E) : wpAny (model X.prog X.w) X.A (call (.ref f) us) (EP X pins σ Q) X.xe s := by
  have r2 : Vals (vs ++ dvs) (us ++ ds) := r.append hd
  have hl : (us ++ ds).length = ps.length := by rw [← r2.length]; exact F.len _ _ _ _ h
  refine wpAny_call (codeAny_mono (F.run X.A X.stack s H ⟨us, []⟩ (us ++ ds) (vs ++ dvs) Q E hr I.env0 (hb s us I.kIn hl) r2 h) fun r s' hq => ?_)
  cases r with
  | error e => exact hx pins σ H s e s' I hq
  | ok fl =>
    cases fl with
    | ret u => exact I.after hq
    | next => exact False.elim hq
    | brk => exact False.elim hq
    | cont => exact False.elim hq

theorem pe_call (F : FnOk X.prog X.w X.K X.mg X.base CX k f fd ps sp) (hr : Room k X.A) (hg : Gl X x) (hm : X.mg x = some (.ref f)) (hk : PySem.W.keepIn X.K (.ref f) = true) (hb : Binds X.K fd ps ds) (hd : Vals dvs ds) (hx : Passes CX X E)
    (ha : PA X (e :: es) t) (hdb : (x == ("__debug__" : Str)) = false := by decide) (he : starEach (e :: es) X.env = (false, eval e X.env) :: starEach es X.env := by rfl) (hpl : (backTo pos (starEach es X.env)).any (·.1) = false := by rfl) :
    PE X (.Call (.Name x p) (e :: es) [] pos) (tCall sp dvs E t) := by
  intro pins s σ H Q I h
  refine wpAny_Call_Name_kw (ld_glob I hg hm ?_ hdb)
  refine PySem.W.callWith_K (h₀ := X.base) I.ok.mod.kin hk (thn (ha pos pins s σ H _ I h) fun us s1 ⟨vs, H1, I1, r, q⟩ => ⟨I1.kIn, ?_⟩) he hpl
  exact run_fn F hr hb hd hx I1 r q
end

/-! ### keywords -/
/-- the values of the keywords, from the left -/
noncomputable def PK (X : Cx) (kws : List Keyword) (t : TA) : Prop :=
  ∀ (pos : Pos) (pins : List (Addr × Obj)) (s : Shared) (σ : St) (H : Hp) (Q : List V → Hp → Prop), Inv X pins σ H s → t σ H Q → wpAny (model X.prog X.w) X.A (evalAll ((backToKw pos (keywordEach kws X.env)).map (·.2))) (AP X pins σ Q) X.xe s
section
variable {X : Cx} {CX : CXT} {k : Nat} {f C : Addr} {fd : FuncData} {ps ks : List Str} {sp : Sp} {E : XK} {x m : Str} {p pos apos kpos : Pos} {e o : Expr} {es : List Expr} {kws : List Keyword} {te ta : TE} {t tk : TA} {nm : Option Str}
variable {g : List Value → List Value → List Value} {gV : List V → List V → List V}
end

/-! ### a def's body keeps its promise -/
/-- names: the parameters first -/
structure FnScope (N P : List Str) (sc : Scope) : Prop where
  kind : sc.kind = .function
  co : sc.isCoroutine = false
  gen : sc.isGenerator = false
  nd : N.Nodup
  pre : N.take P.length = P
  par : ∀ x ∈ P, sc.names.lookup x = some .local ∨ sc.names.lookup x = some .cell
  nofree : ∀ y ∈ sc.names, y.2 ≠ .free

theorem bindL_out {kindOf : Str → Option NameKind} {x : Str} : ∀ {binds : List (Str × Value)} {m : Str → Option Value}, (∀ v, (x, v) ∉ binds) → bindL kindOf binds m x = m x
  | [], _, _ => rfl
  | (n, v) :: r, m, h => by
    unfold bindL
    rw [bindL_out fun w hw => h w (List.mem_cons_of_mem _ hw)]
    split
    · have : x ≠ n := by rintro rfl; exact h v List.mem_cons_self
      simp [this]
    · rfl
theorem bindC_out {kindOf : Str → Option NameKind} {x : Str} : ∀ {binds : List (Str × Value)} {m : Str → Option Value}, (∀ v, (x, v) ∉ binds) → bindC kindOf binds m x = m x
  | [], _, _ => rfl
  | (n, v) :: r, m, h => by
    unfold bindC
    rw [bindC_out fun w hw => h w (List.mem_cons_of_mem _ hw)]
    split
    · rfl
    · have : x ≠ n := by rintro rfl; exact h v List.mem_cons_self
      simp [this]
theorem bindL_get {kindOf : Str → Option NameKind} {x : Str} {v : Value} : ∀ {P : List Str} {vs : List Value} {i : Nat} {m : Str → Option Value}, P.Nodup → P[i]? = some x → vs[i]? = some v → kindOf x = some .local →
    bindL kindOf (P.zip vs) m x = some v
  | [], _, _, _, _, h, _, _ => by simp at h
  | _ :: _, [], _, _, _, _, h, _ => by simp at h
  | p :: P, w :: vs, 0, m, nd, h1, h2, hk => by
    simp at h1 h2; subst h1; subst h2
    show bindL kindOf ((p, w) :: P.zip vs) m p = _
    unfold bindL
    rw [bindL_out fun v hv => (List.nodup_cons.mp nd).1 (List.of_mem_zip hv).1, if_pos hk]
    simp
  | p :: P, w :: vs, i + 1, m, nd, h1, h2, hk => by
    show bindL kindOf ((p, w) :: P.zip vs) m x = _
    unfold bindL
    exact bindL_get (i := i) (List.nodup_cons.mp nd).2 (by simpa using h1) (by simpa using h2) hk
theorem bindC_get {kindOf : Str → Option NameKind} {x : Str} {v : Value} : ∀ {P : List Str} {vs : List Value} {i : Nat} {m : Str → Option Value}, P.Nodup → P[i]? = some x → vs[i]? = some v → kindOf x ≠ some .local →
    bindC kindOf (P.zip vs) m x = some v
  | [], _, _, _, _, h, _, _ => by simp at h
  | _ :: _, [], _, _, _, _, h, _ => by simp at h
  | p :: P, w :: vs, 0, m, nd, h1, h2, hk => by
    simp at h1 h2; subst h1; subst h2
    show bindC kindOf ((p, w) :: P.zip vs) m p = _
    unfold bindC
    rw [bindC_out fun v hv => (List.nodup_cons.mp nd).1 (List.of_mem_zip hv).1, if_neg hk]
    simp
  | p :: P, w :: vs, i + 1, m, nd, h1, h2, hk => by
    show bindC kindOf ((p, w) :: P.zip vs) m x = _
    unfold bindC
    exact bindC_get (i := i) (List.nodup_cons.mp nd).2 (by simpa using h1) (by simpa using h2) hk

/-- the names' values at the entry -/
noncomputable def start (N : List Str) (vs : List V) : St := vs.map some ++ List.replicate (N.length - vs.length) none

/-- the context of a def's body, at its entry; an exception leaves the frame, then lies as CX says -/
noncomputable def cxOf (CX : CXT) (P : Program) (w : World) (K : PySem.W.Frag) (mg : Str → Option Value) (base : Heap) (N : List Str) (qual : Str) (scope : Scope) (f : Addr) (cd : Value) (A : Around) (outer : List Env) (s : Shared) (H : Hp) (E : XK) : Cx where
  prog := P
  w := w
  K := K
  mg := mg
  base := base
  A := A.deeper (envOfC qual scope s.heap.objs.size f cd)
  N := N
  s₀ := s
  H₀ := H
  env := envOfC qual scope s.heap.objs.size f cd
  outer := outer
  stack := envOfC qual scope s.heap.objs.size f cd :: outer
  ex := []
  calm := true
  fn := fun _ => true
  pn := []
  xe := fun e s' => wpAny (model P w) (A.deeper (envOfC qual scope s.heap.objs.size f cd)) (leaving (envOfC qual scope s.heap.objs.size f cd) e) (fun _ s'' => CX outer H s E e s'') (fun e' s'' => CX outer H s E e' s'') s'

theorem cell_has {sc : Scope} {n : Nat} {x : Str} (h : sc.names.lookup x = some .cell) : ∃ c, (cellsFrom n sc.names []).lookup x = some c := by
  have q := PySem.W.cellsFrom_some sc.names n [] (.inl h)
  exact Option.isSome_iff_exists.mp q

theorem inv_start {CX : CXT} {P : Program} {w : World} {K : PySem.W.Frag} {mg : Str → Option Value} {base : Heap} {N ps : List Str} {qual : Str} {scope : Scope} {f : Addr} {cd : Value} {A : Around} {outer : List Env} {s s1 : Shared} {H : Hp} {E : XK} {us : List Value} {vs : List V}
    (S : FnScope N ps scope) (hd : A.handled = none) (e0 : Env0 P w K mg base A outer s H) (hl : vs.length = ps.length) (r : Vals vs us)
    (x : InCallC s s.heap.objs.size (bindL (envOfC qual scope s.heap.objs.size f cd).kindOf (ps.zip us) fun _ => none) (cellsFrom (s.heap.objs.size + 1) scope.names []) (bindC (envOfC qual scope s.heap.objs.size f cd).kindOf (ps.zip us) fun _ => none) s1) :
    Inv (cxOf CX P w K mg base N qual scope f cd A outer s H E) [] (start N vs) H s1 := by
  have hpl : ps.length ≤ N.length := by have := congrArg List.length S.pre; rw [List.length_take] at this; omega
  obtain ⟨h1, tk, rfl, hk⟩ := x.done
  have noA : ∀ b : Addr, b ∉ (cxOf CX P w K mg base N qual scope f cd A outer s H E).ex := fun b z => absurd (show b ∈ ([] : List Addr) from z) (by simp)
  refine ⟨⟨e0.mod, S.kind, rfl, rfl, Nat.le_refl _, fun y z c h1 h2 => ?_, fun y hy => ?_, fun y c _ h => ?_, fun _ => hd, Around.frames_deeper e0.frames, .inr ⟨rfl, rfl⟩, fun b z => absurd z (noA b), e0.bs, e0.bsz, fun b _ _ => noA b, fun b z => absurd z (noA b), e0.funs, e0.frf⟩,
    rfl, e0.bare, Un.kept hk, ⟨_, x.toInCall.ns, fun i y v h1 h2 h3 => ?_⟩, fun y c h => ⟨_, x.cell y c h⟩, e0.hok.fresh (Nat.le_refl _), fun y c h => ?_, fun p hp => absurd (show p ∈ ([] : List (Addr × Obj)) from hp) (by simp), e0.hok.kept hk, ?_⟩
  · exact name_of_addr x.apart (PySem.mem_of_lookup h1) (PySem.mem_of_lookup h2)
  · have hy : scope.names.lookup y = some .cell ∨ scope.names.lookup y = some .free := hy
    rcases hy with hy | hy
    · exact cell_has hy
    · exact absurd rfl (S.nofree _ (PySem.mem_of_lookup hy))
  · exact Nat.le_of_lt (x.above y c (PySem.mem_of_lookup h))
  · have hi : i < vs.length := by
      unfold start at h2
      by_cases hi : i < vs.length
      · exact hi
      · rw [List.getElem?_append_right (by simpa using hi)] at h2
        rw [List.getElem?_replicate] at h2
        split at h2 <;> cases h2
    have ha : vs[i]? = some v := by
      unfold start at h2
      rw [List.getElem?_append_left (by simpa using hi), List.getElem?_map] at h2
      cases e : vs[i]? with
      | none => rw [e] at h2; cases h2
      | some a => rw [e] at h2; cases h2; rfl
    obtain ⟨u, hu, rv⟩ := r.get ha
    have hp : ps[i]? = some y := by
      rw [← S.pre, List.getElem?_take_of_lt (by omega)]; exact h1
    have ndP : ps.Nodup := by rw [← S.pre]; exact S.nd.sublist (List.take_sublist _ _)
    refine ⟨u, rv, ?_⟩
    rcases S.par y (List.mem_of_getElem? hp) with k | k
    · exact .inl ⟨k, bindL_get ndP hp hu k⟩
    · obtain ⟨c, e⟩ := cell_has (n := s.heap.objs.size + 1) k
      refine .inr ⟨.inl k, c, e, ?_⟩
      have q := x.cell y c e
      rw [bindC_get ndP hp hu (by show scope.names.lookup y ≠ _; rw [k]; decide)] at q
      exact q
  · exact e0.hok.fresh (Nat.le_of_lt (x.above y c (PySem.mem_of_lookup h)))
  · unfold start
    show _ = N.length
    rw [List.length_append, List.length_map, List.length_replicate]
    omega

/-- THE RULE: a def (or a method) of the text, by its body. The body's reading t is chosen for each entry; it is run at the parameters' values -/
theorem fn_of {CX : CXT} {P : Program} {w : World} {K : PySem.W.Frag} {mg : Str → Option Value} {base : Heap} {k : Nat} {f : Addr} {name qual : Str} {params : Arguments} {body : List Stmt} {scope : Scope} {dV kV doc pm cdv ct oc : Value} {an od : Option Addr}
    {osl : Array (Option Value)} {N ps : List Str} {sp : Sp} (lk : K.lookup f = some ⟨oc, od, .func (PySem.W.fnOf name qual params body scope dV kV doc pm an cdv ct), osl⟩) (hcd : PySem.W.codeIn K cdv qual = true) (S : FnScope N ps scope)
    (len : ∀ vs H Q E, sp vs H Q E → vs.length = ps.length)
    (hbody : ∀ (A : Around) (outer : List Env) (s : Shared) (H : Hp) (vs : List V) (Q : VK) (E : XK), Room k (A.deeper (envOfC qual scope s.heap.objs.size f cdv)) → sp vs H Q E →
      ∃ t, PSs (cxOf CX P w K mg base N qual scope f cdv A outer s H E) body t ∧ t { nx := fun _ H' => Q .non H', rt := Q } (start N vs) H) :
    FnOk P w K mg base CX (k + 1) f (PySem.W.fnOf name qual params body scope dV kV doc pm an cdv ct) ps sp := by
  refine ⟨len, fun A outer s H args us vs Q E hr e0 hb r hsp => ?_⟩
  have hl := len _ _ _ _ hsp
  have KX : K.In s.heap := e0.mod.kin.keeps fun b o e => (e0.bs b o e).1
  have lim : s.heap.NoLimit := e0.mod.nolimit.keeps fun b o e => (e0.bs b o e).1
  have hkind : ∀ y ∈ ps.zip us, scope.names.lookup y.1 = some .local ∨ (scope.names.lookup y.1 = some .cell ∧ ((cellsFrom (s.heap.objs.size + 1) scope.names []).lookup y.1).isSome = true) := fun ⟨n, v⟩ hy => by
    rcases S.par n (List.of_mem_zip hy).1 with q | q
    · exact .inl q
    · exact .inr ⟨q, PySem.W.cellsFrom_some _ _ _ (.inl q)⟩
  refine codeAny_call_function hr.depth (KX _ _ lk) rfl S.co S.gen rfl (PySem.W.codeRec_of KX hcd) (hb _ _ _ _ ?_)
  refine wpAny_newFunctionEnv_cells S.kind hkind fun env he s1 x => ?_
  subst he
  refine ⟨lim.keeps x.toInCall.keep, codeAny_func ?_⟩
  obtain ⟨t, ht, hq⟩ := hbody A outer s H vs Q E (hr.deeper _) hsp
  have I : Inv (cxOf CX P w K mg base N qual scope f cdv A outer s H E) [] (start N vs) H s1 := inv_start S hr.hd e0 hl r x
  refine wpAny_mono (ht [] s1 (start N vs) H _ I hq) (fun fl s' hs => ?_) fun e s' hs => hs
  have fin : ∀ {σ' : St} {H' : Hp} {v : V} {u : Value}, Inv (cxOf CX P w K mg base N qual scope f cdv A outer s H E) [] σ' H' s' → RelV v u → Q v H' → CE outer P w H s Q u s' :=
    fun {σ' H' v u} J rv q => ⟨v, H', J.os, J.bare, J.base, J.hok, rv, q⟩
  cases fl with
  | ret u =>
    obtain ⟨v, σ', H', J, rv, q⟩ := hs
    exact fin J rv q
  | next =>
    obtain ⟨σ', H', J, q⟩ := hs
    exact fin (v := V.non) (u := Value.none) J rfl q
  | brk =>
    obtain ⟨_, _, _, q⟩ := hs
    exact False.elim q
  | cont =>
    obtain ⟨_, _, _, q⟩ := hs
    exact False.elim q
end L2

namespace L2
open PySem PySem.Spec PyProof.Rows
section
variable {X : Cx} {x : Str} {p pos : Pos} {e : Expr} {es : List Expr} {t : TA} {id T : String} {r : List V → Hp → VK → Prop}

noncomputable def tCB (r : List V → Hp → VK → Prop) (t : TA) : TE := fun σ H Q => t σ H fun vs H1 => r vs H1 Q
/-- f(e, ..), f a built-in function -/
theorem pe_callB (hc : CallR X (.builtin id) r) (hg : Gl X x) (hm : X.mg x = none) (hv : bootBuiltins x = some (.builtin id)) (ha : PA X (e :: es) t) (hn : x ≠ "__name__" := by decide) (hdb : (x == ("__debug__" : Str)) = false := by decide)
    (he : starEach (e :: es) X.env = (false, eval e X.env) :: starEach es X.env := by rfl) (hpl : (backTo pos (starEach es X.env)).any (·.1) = false := by rfl) : PE X (.Call (.Name x p) (e :: es) [] pos) (tCB r t) := by
  intro pins s σ H Q I h
  refine wpAny_Call_Name_kw (ld_blt I hg hm hv ?_ hn hdb)
  exact PyProof.Rows.callWith_builtin1 (thn (ha pos pins s σ H _ I h) fun us s1 ⟨vs, H1, I1, r1, q1⟩ => hc pins s1 σ H1 vs us Q I1 r1 q1) he hpl
/-- T(e, ..), T a built-in type -/
theorem pe_callTy (hc : CallR X (.type T) r) (hg : Gl X x) (hm : X.mg x = none) (hv : bootBuiltins x = some (.type T)) (ha : PA X (e :: es) t) (hn : x ≠ "__name__" := by decide) (hdb : (x == ("__debug__" : Str)) = false := by decide)
    (he : starEach (e :: es) X.env = (false, eval e X.env) :: starEach es X.env := by rfl) (hpl : (backTo pos (starEach es X.env)).any (·.1) = false := by rfl) : PE X (.Call (.Name x p) (e :: es) [] pos) (tCB r t) := by
  intro pins s σ H Q I h
  refine wpAny_Call_Name_kw (ld_blt I hg hm hv ?_ hn hdb)
  exact PyProof.Rows.callWith_type1 (thn (ha pos pins s σ H _ I h) fun us s1 ⟨vs, H1, I1, r1, q1⟩ => hc pins s1 σ H1 vs us Q I1 r1 q1) he hpl
end
end L2

namespace HT
open PySem PyProof.Rows

/-- t < u of tuples of ints -/
noncomputable def lexLt : List Int → List Int → Bool
  | [], [] => false
  | [], _ :: _ => true
  | _ :: _, [] => false
  | x :: xs, y :: ys => if x = y then lexLt xs ys else decide (x < y)
theorem lexLt_cons (x y : Int) (xs ys : List Int) : lexLt (x :: xs) (y :: ys) = if x = y then lexLt xs ys else decide (x < y) := rfl
theorem lexLt_nil_nil : lexLt [] [] = false := rfl
theorem lexLt_nil_cons (y : Int) (ys : List Int) : lexLt [] (y :: ys) = true := rfl
theorem lexLt_cons_nil (x : Int) (xs : List Int) : lexLt (x :: xs) [] = false := rfl

theorem eqAt_int (A : Around) (s : Shared) (a : Int) (t : Tok) (c : Int) (u : Tok) : ∃ e, SeqAt.EqAt A s (.int a t) (.int c u) e ∧ (e = true ↔ a = c) :=
  ⟨(a == c), SeqAt.EqAt.int_int a t c u, by simp⟩
theorem rcLt_int (A : Around) (s : Shared) (a : Int) (t : Tok) (c : Int) (u : Tok) (prog : Program) (w : World) (E : Value → Shared → Prop) (Q : Value → Shared → Prop) (h : Q (.bool (decide (a < c))) s) :
    wpAny (model prog w) A (richCompare .Lt (.int a t) (.int c u)) Q E s :=
  (PyProof.Rows.lt_int h : wpAny (model prog w) A (compareOp .Lt (.int a t) (.int c u)) Q E s)

section
open PySem.SeqAt
open PySem.AutoSeq1 (wpAny_loadPart')
open PySem.MeetsSeq PySem.MeetsSeq2 PySem.MeetsSeq3

theorem tuple_lt_ints (l b : Addr) (items items2 : Array Value) (n n2 : Nat) (dd dd2 : Option Addr) (sl sl2 : Array (Option Value)) (ns ms : List Int) (hi : IntsAre items.toList ns) (hj : IntsAre items2.toList ms) :
    Meets (Builtin.«tuple.__lt__» ⟨[.ref l, .ref b], []⟩)
      (fun _ R s => s.heap.get? l = some { cls := .type "tuple", dict := dd, data := .seq items n, slots := sl } ∧ s.heap.get? b = some { cls := .type "tuple", dict := dd2, data := .seq items2 n2, slots := sl2 } ∧
        R (.ok (.ret (.bool (lexLt ns ms)))) s) :=
  .of_wp fun prog w A R s h => by
    obtain ⟨hp, g, d, tk, os⟩ := s; obtain ⟨hl, hb, h⟩ := h
    have f2 := AutoSeq1.sub_tuple_tuple
    have z1 : items.size = ns.length := by rw [← hi.length]; simp
    have z2 : items2.size = ms.length := by rw [← hj.length]; simp
    wp_walk using wpAny_loadPart' hl, wpAny_loadPart' hb, wpAny_forIn_list _ (fun rest b s' => b.1 = none ∧ s' = ⟨hp, g, d, tk, os⟩ ∧ ∃ (vs ws : List Value) (ns' ms' : List Int), rest = vs.zip ws ∧
      IntsAre vs ns' ∧ IntsAre ws ms' ∧ ns'.length + items2.size = ms'.length + items.size ∧ R (.ok (.ret (.bool (lexLt ns' ms')))) ⟨hp, g, d, tk, os⟩) _
    case turn =>
      rintro ⟨y, x⟩ rest b s' ⟨hb', rfl, vs, ws, ns', ms', hz, hvi, hwi, hlen, hR⟩
      cases hvi with
      | nil => rw [List.zip_nil_left] at hz; cases hz
      | cons a t hvi' =>
        cases hwi with
        | nil => rw [List.zip_nil_right] at hz; cases hz
        | cons c u hwi' =>
          rw [List.zip_cons_cons] at hz
          injection hz with hyx hrest
          injection hyx with hy hx
          subst hy hx
          rw [lexLt_cons] at hR
          simp only [List.length_cons] at hlen
          obtain ⟨e, he, hiff⟩ := eqAt_int A.in1 ⟨hp, g, d, tk, os⟩ a t c u
          refine wpAny_bind (he prog w _ _ ?_)
          cases e with
          | true =>
            rw [if_pos (hiff.mp rfl)] at hR
            wp_walk
            exact ⟨rfl, rfl, _, _, _, _, hrest, hvi', hwi', by omega, hR⟩
          | false =>
            rw [if_neg (fun q => absurd (hiff.mpr q) Bool.false_ne_true)] at hR
            have hri := rcLt_int A.in1 ⟨hp, g, d, tk, os⟩ a t c u prog w
            wp_walk using hri
            exact ⟨_, rfl, by simpa using hR⟩
    case fin =>
      rintro ⟨b1, b2⟩ s' ⟨hb', rfl, vs, ws, ns', ms', hz, hvi, hwi, hlen, hR⟩
      simp only at hb'
      subst hb'
      have hv : lexLt ns' ms' = decide (items.size < items2.size) := by
        cases hvi with
        | nil =>
          cases hwi with
          | nil =>
            simp only [List.length_nil] at hlen
            rw [lexLt_nil_nil]
            exact (decide_eq_false (by omega)).symm
          | cons c u hw =>
            simp only [List.length_nil, List.length_cons] at hlen
            rw [lexLt_nil_cons]
            exact (decide_eq_true (by omega)).symm
        | cons a t hv =>
          cases hwi with
          | nil =>
            simp only [List.length_nil, List.length_cons] at hlen
            rw [lexLt_cons_nil]
            exact (decide_eq_false (by omega)).symm
          | cons c u hw =>
            rw [List.zip_cons_cons] at hz
            cases hz
      rw [hv] at hR
      wp_walk
      exact ⟨_, rfl, by simpa [Builtin.Tuple.tupleCompareSizes] using hR⟩
    case h =>
      exact ⟨rfl, rfl, items.toList, items2.toList, ns, ms, rfl, hi, hj, by omega, h⟩
end

section
variable {prog : Program} {w : World} {A : Around} {E : Value → Shared → Prop} {s : Shared}

theorem lt_tupInts {l b : Addr} {items items2 : Array Value} {ns ms : List Int} {Q : Value → Shared → Prop} (hl : IsTup s.heap l items) (hb : IsTup s.heap b items2) (hi : IntsAre items.toList ns) (hj : IntsAre items2.toList ms)
    (hu : A.units < cLine) (h : Q (.bool (lexLt ns ms)) s) : wpAny (model prog w) A (compareOp .Lt (.ref l) (.ref b)) Q E s := by
  obtain ⟨⟨cls, dd, data, sl⟩, ho, hc, n, hd⟩ := id hl
  obtain ⟨⟨cls2, dd2, data2, sl2⟩, ho2, hc2, n2, hd2⟩ := id hb
  simp only at hc hd hc2 hd2
  subst hc hd hc2 hd2
  exact richCompare_meets_room (op := .Lt) ⟨_, ho, rfl⟩ ⟨_, ho2, rfl⟩ PySem.F.slot_tuple_lt PySem.F.entry_tuple_lt (PySem.F.args_tuple_lt_2 _ _) (tuple_lt_ints l b items items2 n n2 dd dd2 sl sl2 ns ms hi hj)
    ⟨ho, ho2, show Value.bool (lexLt ns ms) ≠ Value.notImplemented ∧ Q (.bool (lexLt ns ms)) s from ⟨(fun x => nomatch x), h⟩⟩ hu

/-! ### t[a:b], not the whole -/
/-- a slice's bound as a place among n (d where it is left out) -/
noncomputable def sIx (n d : Nat) : Option Int → Nat
  | none => d
  | some v => if v < 0 then (v + (n : Int)).toNat else min v.toNat n
theorem sIx_none (n d : Nat) : sIx n d none = d := rfl
theorem sIx_nat (n d k : Nat) : sIx n d (some (k : Int)) = min k n := by
  show (if (k : Int) < 0 then ((k : Int) + (n : Int)).toNat else min (k : Int).toNat n) = min k n
  rw [if_neg (by omega), Int.toNat_natCast]
end
end HT

namespace L2
open PySem PySem.Spec PyProof.Rows

/-! ### the parts of a slice -/
noncomputable abbrev TO := St → Hp → (Option Int → Hp → Prop) → Prop
/-- a slice's part (left out, or an int) -/
noncomputable def PO (X : Cx) (e : Option Expr) (t : TO) : Prop :=
  ∀ (pins : List (Addr × Obj)) (s : Shared) (σ : St) (H : Hp) (Q : Option Int → Hp → Prop), Inv X pins σ H s → t σ H Q →
    wpAny (model X.prog X.w) X.A (evalPart e X.env) (fun u s' => ∃ o H', Inv X pins σ H' s' ∧ IsPart u o ∧ Q o H') X.xe s
noncomputable def tNoPart : TO := fun _ H Q => Q none H
noncomputable def tPart (t : TE) : TO := fun σ H Q => t σ H fun x H1 => ∃ i, x = .int i ∧ Q (some i) H1

section
variable {X : Cx} {e : Expr} {te : TE} {lo hi : Option Expr} {tl th : TO} {pos p2 : Pos}

theorem po_none : PO X none tNoPart := by
  intro pins s σ H Q I h
  rw [evalPart_none]
  exact wpAny_pure ⟨none, H, I, .none, h⟩
theorem po_some (h : PE X e te) : PO X (some e) (tPart te) := by
  intro pins s σ H Q I hw
  rw [evalPart_some]
  refine thn (h pins s σ H _ I hw) fun u s1 ⟨x, H1, I1, r1, q1⟩ => ?_
  obtain ⟨i, rfl, q⟩ := q1
  obtain ⟨t, rfl⟩ := r1
  exact ⟨some i, H1, I1, .int i t, q⟩

/-- what a slice of a value is, by values: the slice object stands at sl -/
noncomputable def SlR (X : Cx) (r : V → Option Int → Option Int → Hp → VK → Prop) : Prop :=
  ∀ (pins : List (Addr × Obj)) (s : Shared) (σ : St) (H : Hp) (x : V) (v vl vu : Value) (lo hi : Option Int) (sl : Addr) (Q : VK), Inv X pins σ H s → RelV x v → s.heap.IsSliceOf sl vl vu .none → IsPart vl lo → IsPart vu hi → r x lo hi H Q →
    ∃ T id, typeLookup (.type T) "__getitem__" = pure (some (.builtin id)) ∧ s.TypeIs v T ∧ wpAny (model X.prog X.w) X.A (getItem v (.ref sl)) (EP X pins σ Q) X.xe s
noncomputable def tSl (r : V → Option Int → Option Int → Hp → VK → Prop) (te : TE) (tl th : TO) : TE := fun σ H Q => te σ H fun x H1 => tl σ H1 fun l H2 => th σ H2 fun u H3 => r x l u H3 Q
/-- a[lo:hi], any a -/
theorem pe_slice {r : V → Option Int → Option Int → Hp → VK → Prop} (hr : SlR X r) (he : PE X e te) (hl : PO X lo tl) (hu : PO X hi th) : PE X (.Subscript e (.Slice lo hi none p2) pos) (tSl r te tl th) := by
  intro pins s σ H Q I h
  refine Subscript_ (thn (he pins s σ H _ I h) fun v s1 ⟨x, H1, I1, r1, q1⟩ => ?_)
  refine wpAny_Slice (thn (hl pins s1 σ H1 _ I1 q1) fun vl s2 ⟨l, H2, I2, pl, q2⟩ => thn (hu pins s2 σ H2 _ I2 q2) fun vu s3 ⟨u, H3, I3, pu, q3⟩ => ?_)
  rw [evalPart_none]
  refine wpAny_pure ?_
  have I4 : Inv X pins σ H3 { s3 with heap := s3.heap.push { cls := .type "slice", data := .fields #[vl, vu, .none] } } := I3.kept (t' := s3.toks) fun b ob q => Heap.get?_push_of_some _ q
  obtain ⟨T, id, hT, ht, hg⟩ := hr pins { s3 with heap := s3.heap.push { cls := .type "slice", data := .fields #[vl, vu, .none] } } σ H3 x v vl vu l u s3.heap.objs.size Q I4 r1 (Heap.IsSliceOf.new ..) pl pu q3
  show wpAny (model X.prog X.w) X.A (subscriptTail e (.Slice lo hi none p2) v (.ref s3.heap.objs.size)) (EP X pins σ Q) X.xe { s3 with heap := s3.heap.push { cls := .type "slice", data := .fields #[vl, vu, .none] } }
  exact tail_any (ops := [.ref s3.heap.objs.size, v]) ht hT hg (by with_unfolding_all rfl)

/-- the items of xs[lo:hi] -/
noncomputable def cutV (xs : List V) (lo hi : Option Int) : List V := (xs.drop (HT.sIx xs.length 0 lo)).take (HT.sIx xs.length xs.length hi - HT.sIx xs.length 0 lo)
theorem cutV_length (xs : List V) (lo hi : Option Int) : (cutV xs lo hi).length ≤ xs.length := by
  unfold cutV
  rw [List.length_take, List.length_drop]
  omega
/-! ### t < u, t + u -/
end
end L2

namespace L2
open PySem PySem.Spec PyProof.Rows

/-! ### places -/
/-- the place that an index of any sign means -/
noncomputable def ixN (n : Nat) (i : Int) : Option Nat := if 0 ≤ i then (if i < n then some i.toNat else none) else if -(n : Int) ≤ i then some (i + n).toNat else none
noncomputable def atI {α : Type} (xs : List α) (i : Int) : Option α := (ixN xs.length i).bind fun j => xs[j]?
theorem ixN_seq {n : Nat} {i : Int} {j : Nat} (h : ixN n i = some j) : seqIndex? i n = some j ∧ j < n ∧ -(n : Int) ≤ i ∧ i < n := by
  unfold ixN at h
  by_cases h0 : 0 ≤ i
  · rw [if_pos h0] at h
    by_cases h1 : i < n
    · rw [if_pos h1] at h
      have e : i.toNat = j := Option.some.inj h
      exact ⟨by rw [seqIndex_of h0 h1, e], by omega, by omega, h1⟩
    · rw [if_neg h1] at h; cases h
  · rw [if_neg h0] at h
    by_cases h1 : -(n : Int) ≤ i
    · rw [if_pos h1] at h
      have e : (i + n).toNat = j := Option.some.inj h
      exact ⟨by rw [seqIndex_neg (by omega) h1, e], by omega, h1, by omega⟩
    · rw [if_neg h1] at h; cases h
theorem atI_get {α : Type} {xs : List α} {i : Int} {v : α} (h : atI xs i = some v) : ∃ j, seqIndex? i xs.length = some j ∧ xs[j]? = some v ∧ j < xs.length ∧ -(xs.length : Int) ≤ i ∧ i < xs.length := by
  unfold atI at h
  cases e : ixN xs.length i with
  | none => rw [e] at h; cases h
  | some j =>
    rw [e] at h
    obtain ⟨h1, h2, h3, h4⟩ := ixN_seq e
    exact ⟨j, h1, h, h2, h3, h4⟩
theorem atI_nat {α : Type} {xs : List α} {j : Nat} {v : α} (h : xs[j]? = some v) : atI xs (j : Int) = some v := by
  have hj : j < xs.length := (List.getElem?_eq_some_iff.mp h).1
  have e : ixN xs.length (j : Int) = some j := by
    unfold ixN
    rw [if_pos (by omega), if_pos (by omega)]; simp
  unfold atI; rw [e]; exact h
theorem atI_last {α : Type} (xs : List α) (v : α) : atI (xs ++ [v]) (-1) = some v := by
  have hl : (xs ++ [v]).length = xs.length + 1 := by simp
  have e : ixN (xs ++ [v]).length (-1) = some xs.length := by
    unfold ixN
    rw [hl, if_neg (by decide), if_pos (by omega)]
    congr 1
    omega
  unfold atI
  rw [e]
  show (xs ++ [v])[xs.length]? = some v
  simp

/-! ### what may be subscripted -/
/-- what stands as an index of a plain subscript -/
noncomputable def PlainIx (b : Expr) : Prop := ∀ o i, subscripted b false o i = operate [o, i] (getItem o i)
/-- a subscript by values -/
noncomputable def IxR (X : Cx) (r : R2) : Prop :=
  ∀ (value slice : Expr) (pins : List (Addr × Obj)) (s : Shared) (σ : St) (H : Hp) (x y : V) (v u : Value) (Q : VK), Inv X pins σ H s → RelV x v → RelV y u → r x y H Q →
    subscripted slice false v u = operate [v, u] (getItem v u) → wpAny (model X.prog X.w) X.A (subscriptTail value slice v u) (EP X pins σ Q) X.xe s
/-- a call of a builtin's method by values: the receiver, the arguments -/
noncomputable def MtR (X : Cx) (id : String) (r : V → List V → Hp → VK → Prop) : Prop :=
  ∀ (pins : List (Addr × Obj)) (s : Shared) (σ : St) (H : Hp) (x : V) (xs : List V) (v : Value) (us : List Value) (Q : VK), Inv X pins σ H s → RelV x v → Vals xs us → r x xs H Q →
    wpAny (model X.prog X.w) X.A (call (.builtin id) (v :: us)) (EP X pins σ Q) X.xe s
section
variable {X : Cx} {a b : Expr} {ta tb : TE} {pos : Pos}
/-- a[b] -/
theorem pe_ix {r : R2} (hr : IxR X r) (ha : PE X a ta) (hb : PE X b tb) (hs : PlainIx b) : PE X (.Subscript a b pos) (tOp r ta tb) := by
  intro pins s σ H Q I h
  exact Subscript_ (binT ha hb I h fun v u s2 x y H2 I2 rx ry q => hr a b pins s2 σ H2 x y v u Q I2 rx ry q (hs _ _))

noncomputable def rIxL (K : PySem.W.Frag) : R2 := fun x y H Q => ∃ p xs i v, x = .ref p ∧ y = .int i ∧ SqL K H p xs ∧ atI xs i = some v ∧ Q v H
noncomputable def rIxT (K : PySem.W.Frag) : R2 := fun x y H Q => ∃ p xs i v, x = .ref p ∧ y = .int i ∧ SqT K H p xs ∧ atI xs i = some v ∧ Q v H
theorem ix_list : IxR X (rIxL X.K) := by
  intro value slice pins s σ H x y v u Q I rx ry h hs
  obtain ⟨p, xs, i, z, rfl, rfl, hq, he, q⟩ := h
  cases rx
  obtain ⟨t, rfl⟩ := ry
  obtain ⟨its, r, pl, hz⟩ := I.list hq
  obtain ⟨j, h1, h2, h3, h4, h5⟩ := atI_get he
  obtain ⟨w, ew, rw'⟩ := r.get h2
  have hl := r.length
  have hn := line63
  have fin : EP X pins σ Q w s := ⟨z, H, I, rw', q⟩
  by_cases h0 : 0 ≤ i
  · have hj : i.toNat = j := by
      rw [seqIndex_of h0 h5] at h1
      exact Option.some.inj h1
    exact item_listR pl.isList h0 (by omega) (by rw [hj]; simpa using ew) fin hs
  · have hj : (i + (its.toArray.size : Int)).toNat = j := by
      rw [seqIndex_neg (by omega) h4] at h1
      rw [List.size_toArray, ← hl]
      exact Option.some.inj h1
    exact subscriptTail_builtinR (x := w) pl.isList.typeIs slot_list_getitem.lookup
      (wpAny_getItem_list_neg (Q := fun r s' => r = w ∧ EP X pins σ Q r s') pl.isList (by omega) (by rw [List.size_toArray] <;> omega) (by omega) (by rw [hj]; simpa using ew) ⟨rfl, fin⟩) hs
theorem ix_tup : IxR X (rIxT X.K) := by
  intro value slice pins s σ H x y v u Q I rx ry h hs
  obtain ⟨p, xs, i, z, rfl, rfl, hq, he, q⟩ := h
  cases rx
  obtain ⟨t, rfl⟩ := ry
  obtain ⟨its, r, pl, hz⟩ := I.tuple hq
  obtain ⟨j, h1, h2, h3, h4, h5⟩ := atI_get he
  obtain ⟨w, ew, rw'⟩ := r.get h2
  have hl := r.length
  have hn := line63
  have fin : EP X pins σ Q w s := ⟨z, H, I, rw', q⟩
  exact subscriptTail_builtinR (x := w) pl.typeIs slot_tuple_getitem.lookup
    (getItem_tuple (j := j) (Q := fun r s' => r = w ∧ EP X pins σ Q r s') pl (by omega) (by omega) (by rw [List.size_toArray, ← hl]; exact h1) (by simpa using ew) ⟨rfl, fin⟩) hs
/-! ### xs[i] = v, any sign -/
/-- the list's object behind a store -/
theorem Inv.lst {pins : List (Addr × Obj)} {σ : St} {H : Hp} {s : Shared} {p : Addr} {xs : List V} (I : Inv X pins σ H s) (h : H p = some (.lst xs)) :
    ∃ (its : List Value) (n : Nat), Vals xs its ∧ s.heap.get? p = some { cls := .type "list", data := .seq its.toArray n } ∧ xs.length ≤ sizeLine := by
  obtain ⟨z, its, n, r, e⟩ := I.hok p _ h
  exact ⟨its, n, r, e, z⟩
/-! ### slices -/
theorem slice_bounds (lo hi : Option Int) (n : Nat) : (sliceBounds lo hi none n).1 = ((HT.sIx n 0 lo : Nat) : Int) ∧ (sliceBounds lo hi none n).2.1 = ((HT.sIx n n hi : Nat) : Int) ∧ (sliceBounds lo hi none n).2.2 = 1 := by
  refine ⟨?_, ?_, rfl⟩
  · cases lo with
    | none => simp [sliceBounds, HT.sIx]
    | some i =>
      simp only [sliceBounds, HT.sIx, Option.getD_none, show (1 : Int) > 0 by decide, if_true]
      by_cases h : i < 0
      · simp only [h, if_true] <;> omega
      · simp only [h, if_false] <;> omega
  · cases hi with
    | none => simp [sliceBounds, HT.sIx]
    | some i =>
      simp only [sliceBounds, HT.sIx, Option.getD_none, show (1 : Int) > 0 by decide, if_true]
      by_cases h : i < 0
      · simp only [h, if_true] <;> omega
      · simp only [h, if_false] <;> omega
theorem slicePick_cut (its : List Value) (lo hi : Option Int) : slicePick its.toArray lo hi none = ((its.drop (HT.sIx its.length 0 lo)).take (HT.sIx its.length its.length hi - HT.sIx its.length 0 lo)).toArray := by
  obtain ⟨h1, h2, h3⟩ := slice_bounds lo hi its.toArray.size
  unfold slicePick
  rw [h1, h2, h3]
  simp only [sliceRange_one, pick_run, List.size_toArray] <;> rfl
/-- xs[lo:hi] of a list: a new list -/
noncomputable def rSlL (K : PySem.W.Frag) : V → Option Int → Option Int → Hp → VK → Prop := fun x lo hi H Q => ∃ a xs, x = .ref a ∧ SqL K H a xs ∧ ∀ p, H p = none → Q (.ref p) (upd H p (.lst (cutV xs lo hi)))
theorem sl_list : SlR X (rSlL X.K) := by
  intro pins s σ H x v vl vu lo hi sl Q I rx hs pl pu h
  obtain ⟨a, xs, rfl, hx, q⟩ := h
  cases rx
  obtain ⟨its, r, ht, hz⟩ := I.list hx
  have hlen := r.length
  refine ⟨"list", _, slot_list_getitem.lookup, ht.isList.typeIs, ?_⟩
  refine wpAny_getItem_list_slice ht.isList hs pl pu .none (by simp) ?_ (by rw [List.size_toArray] <;> omega)
  rw [slicePick_cut, ← hlen]
  refine ⟨.ref s.heap.objs.size, _, I.laid (t' := s.toks) (o := .lst (cutV xs lo hi)) (fun b ob q => Heap.get?_push_of_some _ q) (Nat.le_refl _) ?_, rfl, q _ (I.hok.fresh (Nat.le_refl _))⟩
  exact ⟨Nat.le_trans (cutV_length xs lo hi) hz, _, 0, (r.drop (HT.sIx xs.length 0 lo)).take (HT.sIx xs.length xs.length hi - HT.sIx xs.length 0 lo), Heap.get?_push_size _ rfl⟩

/-! ### in, not in: flat items -/
/-! ### len, list(x), tuple(x) of any list or tuple that is read -/
theorem call_len_seq : CallR X (.builtin "len") (fun xs H Q => ∃ p ys, xs = [.ref p] ∧ (SqL X.K H p ys ∨ SqT X.K H p ys) ∧ Q (.int ys.length) H) := by
  intro pins s σ H xs us Q I r h
  obtain ⟨p, ys, rfl, hq, q⟩ := h
  obtain ⟨u, rfl, rx⟩ := vals1 r
  cases rx
  have hn := line63
  rcases hq with hq | hq
  · obtain ⟨its, r', pl, hz⟩ := I.list hq
    have hlen := r'.length
    exact Calls.call_len_list pl.isList (by simp only [List.size_toArray] <;> omega) ⟨.int ys.length, H, I.tok _, ⟨s.toks + 1, by rw [List.size_toArray, hlen]⟩, q⟩
  · obtain ⟨its, r', pl, hz⟩ := I.tuple hq
    have hlen := r'.length
    exact len_tuple pl (by simp only [List.size_toArray] <;> omega) ⟨.int ys.length, H, I.tok _, ⟨s.toks + 1, by rw [List.size_toArray, hlen]⟩, q⟩
theorem call_list_of : CallR X (.type "list") (fun xs H Q => ∃ p ys, xs = [.ref p] ∧ (SqL X.K H p ys ∨ SqT X.K H p ys) ∧ ∀ l, H l = none → Q (.ref l) (upd H l (.lst ys))) := by
  intro pins s σ H xs us Q I r h
  obtain ⟨p, ys, rfl, hq, q⟩ := h
  obtain ⟨u, rfl, rx⟩ := vals1 r
  cases rx
  have fin : ∀ (its : List Value), Vals ys its → ys.length ≤ sizeLine → ∀ (h' : Heap) (c' : Nat), (∀ b o', s.heap.get? b = some o' → h'.get? b = some o') →
      h'.get? s.heap.objs.size = some { cls := .type "list", dict := none, data := .seq its.toArray c', slots := #[] } → EP X pins σ Q (.ref s.heap.objs.size) { s with heap := h' } := fun its r' hz h' c' kp e =>
    ⟨.ref s.heap.objs.size, _, I.laid (t' := s.toks) kp (Nat.le_refl _) (show ObjOk X.prog X.w _ h' _ (.lst ys) from ⟨hz, its, c', r', e⟩), rfl, q _ (I.hok.fresh (Nat.le_refl _))⟩
  rcases hq with hq | hq
  · obtain ⟨its, r', pl, hz⟩ := I.list hq
    have hlen := r'.length
    obtain ⟨o, ho, hc, n, hd⟩ := pl.isList
    exact call_list_seq p (.inl rfl) ho hc hd (fun h' c' kp e => fin its r' hz h' c' kp e) (by simp only [List.size_toArray] <;> omega)
  · obtain ⟨its, r', pl, hz⟩ := I.tuple hq
    have hlen := r'.length
    obtain ⟨o, ho, hc, n, hd⟩ := pl
    exact call_list_seq p (.inr rfl) ho hc hd (fun h' c' kp e => fin its r' hz h' c' kp e) (by simp only [List.size_toArray] <;> omega)
/-! ### the call of a builtin's method: o.m(..) -/
/-- the value is of that builtin type -/
noncomputable def tyV (K : PySem.W.Frag) (T : String) (x : V) (H : Hp) : Prop := match x with
  | .str _ => T = "str"
  | .int _ => T = "int"
  | .ref p => (T = "list" ∧ ∃ xs, SqL K H p xs) ∨ (T = "tuple" ∧ ∃ o, K.lookup p = some o ∧ o.cls = .type "tuple" ∧ o.dict = none) ∨
      (T = "dict" ∧ ((∃ kvs, H p = some (.dK kvs)) ∨ ∃ kvs, H p = some (.dT kvs))) ∨ (T = "set" ∧ ∃ S n, H p = some (.set S n))
  | _ => False
theorem tyV_is {pins : List (Addr × Obj)} {σ : St} {H : Hp} {s : Shared} {T : String} {x : V} {v : Value} (I : Inv X pins σ H s) (r : RelV x v) (ty : tyV X.K T x H) :
    s.TypeIs v T ∧ ∀ a, v = .ref a → ∃ ob, s.heap.get? a = some ob ∧ ob.dict = none := by
  cases x with
  | str z =>
    obtain ⟨t, rfl⟩ := r
    cases (show T = "str" from ty)
    exact ⟨typeIs_str s z t, fun _ e => nomatch e⟩
  | int i =>
    obtain ⟨t, rfl⟩ := r
    cases (show T = "int" from ty)
    exact ⟨typeIs_int s i t, fun _ e => nomatch e⟩
  | ref p =>
    cases r
    rcases ty with ⟨rfl, xs, hq⟩ | ⟨rfl, o, hk, hc, hd⟩ | ⟨rfl, hk⟩ | ⟨rfl, S, n, hk⟩
    · obtain ⟨its, _, pl, _⟩ := I.list hq
      refine ⟨pl.isList.typeIs, fun a e => ?_⟩
      cases e
      obtain ⟨o, n, e, c, hd, _⟩ := pl
      exact ⟨o, e, hd⟩
    · refine ⟨⟨o, I.kIn p o hk, hc⟩, fun a e => ?_⟩
      cases e
      exact ⟨o, I.kIn _ o hk, hd⟩
    · have z : ∃ o, s.heap.get? p = some o ∧ o.ExactDict := by
        rcases hk with ⟨kvs, hk⟩ | ⟨kvs, hk⟩
        · obtain ⟨_, _, _, _, o, _, _, e, ex, _⟩ := I.hok p _ hk
          exact ⟨o, e, ex⟩
        · obtain ⟨_, _, _, _, o, _, _, e, ex, _⟩ := I.hok p _ hk
          exact ⟨o, e, ex⟩
      obtain ⟨o, e, ex⟩ := z
      refine ⟨⟨o, e, ex.1⟩, fun a e2 => ?_⟩
      cases e2
      exact ⟨o, e, ex.2.1⟩
    · obtain ⟨o, _, _, _, e, ex, _⟩ := I.hok p _ hk
      refine ⟨⟨o, e, ex.1⟩, fun a e2 => ?_⟩
      cases e2
      exact ⟨o, e, ex.2.1⟩
  | _ => exact False.elim ty
noncomputable def tBM0 (K : PySem.W.Frag) (T : String) (r : V → List V → Hp → VK → Prop) (to : TE) : TE := fun σ H Q => to σ H fun x H1 => tyV K T x H1 ∧ r x [] H1 Q
noncomputable def tBM (K : PySem.W.Frag) (T : String) (r : V → List V → Hp → VK → Prop) (to : TE) (t : TA) : TE := fun σ H Q => to σ H fun x H1 => tyV K T x H1 ∧ t σ H1 fun xs H2 => r x xs H2 Q
variable {o e : Expr} {es : List Expr} {to : TE} {t : TA} {name : Str} {apos cpos : Pos} {T id : String} {r : V → List V → Hp → VK → Prop}
theorem pe_bm0 (pa : PlainAttrs T) (slot : Slot T name id) (hty : typeOf (.builtin id) = pure (.type "method_descriptor")) (hm : MtR X id r) (ho : PE X o to)
    (hbase : attributeBase o name X.env (eval o X.env) = eval o X.env := by rfl) (hline : (apos.endLine == cpos.line) = true := by rfl) : PE X (.Call (.Attribute o name apos) [] [] cpos) (tBM0 X.K T r to) := by
  intro pins s σ H Q I h
  refine wpAny_Call_method0_late hbase hline (thn (ho pins s σ H _ I h) fun v s1 ⟨x, H1, I1, r1, ty, q1⟩ => ?_)
  obtain ⟨h1, h2⟩ := tyV_is I1 r1 ty
  exact ⟨T, id, pa, slot, hty, h1, h2, Calls.callWith_builtin rfl (PySem.evalArgs_none (hm pins s1 σ H1 x [] v [] Q I1 r1 .nil q1))⟩
theorem pe_bm (pa : PlainAttrs T) (slot : Slot T name id) (hty : typeOf (.builtin id) = pure (.type "method_descriptor")) (hm : MtR X id r) (ho : PE X o to) (ha : PA X (e :: es) t)
    (hbase : attributeBase o name X.env (eval o X.env) = eval o X.env := by rfl)
    (hfew : ((backTo cpos (starEach (e :: es) X.env)).all (fun x => !x.1) && (backToKw cpos (keywordEach [] X.env)).all (fun x => x.1.isSome)
      && decide ((e :: es).length + ([] : List Keyword).length + (if ([] : List Keyword).isEmpty then 0 else 1) < 30)) = true := by rfl)
    (hline : (apos.endLine == cpos.line) = true := by rfl) (hs : starEach (e :: es) X.env = (false, eval e X.env) :: starEach es X.env := by rfl) (hplain : (backTo cpos (starEach es X.env)).any (·.1) = false := by rfl) :
    PE X (.Call (.Attribute o name apos) (e :: es) [] cpos) (tBM X.K T r to t) := by
  intro pins s σ H Q I h
  refine wpAny_Call_method_late hbase hfew hline rfl (thn (ho pins s σ H _ I h) fun v s1 ⟨x, H1, I1, r1, ty, q1⟩ => ?_)
  obtain ⟨h1, h2⟩ := tyV_is I1 r1 ty
  refine ⟨T, id, pa, slot, hty, h1, h2, ?_⟩
  have hA := ha cpos pins s1 σ H1 _ I1 q1
  rw [hs] at hA ⊢
  refine Calls.callWith_builtin (by show (false || (backTo cpos (starEach es X.env)).any (·.1)) = false; rw [hplain] <;> rfl) (Calls.evalArgs_plain ?_)
  exact thn hA fun us s2 ⟨vs, H2, I2, r2, q2⟩ => hm pins s2 σ H2 x vs v us Q I2 r1 r2 q2
/- xs.append(e), list.index on a module's tuple .. are MtR facts of 06m -/
end
end L2

namespace L2
open PySem PySem.Spec PyProof.Rows

noncomputable def MtM (X : Cx) (id : String) (r : V → List V → Hp → VK → Prop) : Prop :=
  ∀ (pins : List (Addr × Obj)) (s : Shared) (σ : St) (H : Hp) (x : V) (xs : List V) (v : Value) (us : List Value) (Q : VK), Inv X pins σ H s → RelV x v → Vals xs us → r x xs H Q →
    wpAny (model X.prog X.w) X.A (call (.builtin id) (v :: us)) (EP X pins σ Q) X.xe s

/-! ### lists of values -/
theorem Vals.one : ∀ {x : V} {us : List Value}, Vals [x] us → ∃ u, us = [u] ∧ RelV x u
  | _, _, .cons r .nil => ⟨_, rfl, r⟩
theorem Vals.two : ∀ {x y : V} {us : List Value}, Vals [x, y] us → ∃ u v, us = [u, v] ∧ RelV x u ∧ RelV y v
  | _, _, _, .cons r (.cons q .nil) => ⟨_, _, rfl, r, q⟩
theorem Vals.zero : ∀ {us : List Value}, Vals [] us → us = []
  | _, .nil => rfl
theorem Vals.dropLast {xs : List V} {us : List Value} (h : Vals xs us) : Vals xs.dropLast us.dropLast := by
  induction h with
  | nil => exact .nil
  | cons r t ih =>
    cases t with
    | nil => exact .nil
    | cons q t' => exact .cons r ih
theorem Vals.reverse {xs : List V} {us : List Value} (h : Vals xs us) : Vals xs.reverse us.reverse := by
  induction h with
  | nil => exact .nil
  | cons r t ih => rw [List.reverse_cons, List.reverse_cons]; exact Vals.append ih (.cons r .nil)
theorem erase_last {α : Type} (l : List α) : l.eraseIdx (l.length - 1) = l.dropLast := by
  induction l with
  | nil => rfl
  | cons a r ih =>
    cases r with
    | nil => rfl
    | cons b r =>
      have e : (a :: b :: r).length - 1 = ((b :: r).length - 1) + 1 := by
        have h1 : (a :: b :: r).length = r.length + 2 := rfl
        have h2 : (b :: r).length = r.length + 1 := rfl
        omega
      rw [e, List.eraseIdx_cons_succ, ih]
      all_goals rfl
section
variable {X : Cx} {pins : List (Addr × Obj)} {σ : St} {H : Hp} {s : Shared} {l b : Addr} {xs ys zs : List V}

/-! ### the two steps: a tracked list is rewritten, a new list is laid -/
theorem Inv.lset {its its' : List Value} {n : Nat} {f : Array Value → Array Value} {t' : Nat} (I : Inv X pins σ H s) (hH : H l = some (.lst xs))
    (e : s.heap.get? l = some { cls := .type "list", data := .seq its.toArray n }) (hf : f its.toArray = its'.toArray) (hv : Vals ys its') (hz : ys.length ≤ sizeLine) :
    Inv X pins σ (upd H l (.lst ys)) { s with heap := s.heap.update l (Obj.mapSeq f), toks := t' } := by
  have q := PySem.IsL.update e f
  rw [hf] at q
  refine I.write (x := l) (e := l) (by rw [hH]; exact trivial) (.inl rfl) (fun b' u hb hu => (Heap.get?_update_other s.heap (Obj.mapSeq f) (Ne.symm hb)).trans hu) ⟨_, q⟩ ?_
  exact ⟨hz, its', _, hv, q⟩
theorem Inv.lnew {its : List Value} {t' : Nat} (I : Inv X pins σ H s) (hv : Vals ys its) (hz : ys.length ≤ sizeLine) :
    Inv X pins σ (upd H s.heap.objs.size (.lst ys)) { s with heap := s.heap.push { cls := .type "list", data := .seq its.toArray }, toks := t' } :=
  I.laid (fun _ _ q => Heap.get?_push_of_some _ q) (Nat.le_refl _) ⟨hz, its, 0, hv, Heap.get?_push_size _ rfl⟩
theorem Inv.fresh (I : Inv X pins σ H s) : H s.heap.objs.size = none := I.hok.fresh (Nat.le_refl _)
theorem Inv.lstM (I : Inv X pins σ H s) (hH : H l = some (.lst xs)) : xs.length ≤ sizeLine ∧ ∃ (its : List Value) (n : Nat), Vals xs its ∧ xs.length = its.length ∧ s.heap.get? l = some { cls := .type "list", data := .seq its.toArray n } := by
  obtain ⟨z, its, n, r, e⟩ := I.hok l _ hH
  exact ⟨z, its, n, r, r.length, e⟩

end

section
variable {X : Cx}

/-! ### methods -/
noncomputable def rAppend : V → List V → Hp → VK → Prop := fun x vs H Q => ∃ l xs y, x = .ref l ∧ vs = [y] ∧ H l = some (.lst xs) ∧ xs.length < sizeLine ∧ Q .non (upd H l (.lst (xs ++ [y])))
theorem mt_append : MtM X "list.append" rAppend := by
  intro pins s σ H x vs v us Q I rx rv h
  obtain ⟨l, xs, y, rfl, rfl, hH, hz, q⟩ := h
  cases rx
  obtain ⟨u, rfl, ru⟩ := rv.one
  obtain ⟨z, its, n, r, hl, e⟩ := I.lstM hH
  refine call_meets F.slot_list_append ⟨_, e, rfl⟩ F.entry_list_append (F.args_list_append_2 _ _) (PySem.list_append l its.toArray n u (by rw [List.size_toArray]; omega)) ⟨e, ?_⟩
  refine ⟨.non, _, I.lset (its' := its ++ [u]) hH e (by simp) (r.append (.cons ru .nil)) ?_, rfl, q⟩
  rw [List.length_append, List.length_singleton]
  omega

noncomputable def rPop : V → List V → Hp → VK → Prop := fun x vs H Q => ∃ l xs y, x = .ref l ∧ vs = [] ∧ H l = some (.lst xs) ∧ xs[xs.length - 1]? = some y ∧ Q y (upd H l (.lst xs.dropLast))
theorem mt_pop : MtM X "list.pop" rPop := by
  intro pins s σ H x vs v us Q I rx rv h
  obtain ⟨l, xs, y, rfl, rfl, hH, hy, q⟩ := h
  cases rx
  have hus := rv.zero
  subst hus
  obtain ⟨z, its, n, r, hl, e⟩ := I.lstM hH
  obtain ⟨u, hu, ru⟩ := r.get hy
  have hy' : its.toArray[its.toArray.size - 1]? = some u := by
    show its.toArray[its.length - 1]? = some u
    rw [← Array.getElem?_toList, ← hl]
    exact hu
  refine call_meets F.slot_list_pop ⟨_, e, rfl⟩ F.entry_list_pop (F.args_list_pop_1 _) (MeetsSeq.list_pop_last l its.toArray n u hy' (by rw [List.size_toArray]; omega)) ⟨e, ?_⟩
  refine ⟨y, _, I.lset (its' := its.dropLast) hH e ?_ r.dropLast ?_, ru, q⟩
  · show its.toArray.eraseIdxIfInBounds (its.toArray.size - 1) = its.dropLast.toArray
    rw [List.size_toArray, List.eraseIdxIfInBounds_toArray, erase_last]
  · rw [List.length_dropLast]
    omega

/-! ### list + list, list += list, list * int -/
noncomputable def rCat : R2 := fun x y H Q => ∃ l b xs zs, x = .ref l ∧ y = .ref b ∧ H l = some (.lst xs) ∧ H b = some (.lst zs) ∧ xs.length + zs.length ≤ sizeLine ∧ ∀ p, H p = none → Q (.ref p) (upd H p (.lst (xs ++ zs)))
theorem op_cat : OpR X (binaryOp .Add) rCat := by
  intro pins s σ H x y v u Q I rx ry h
  obtain ⟨l, b, xs, zs, rfl, rfl, hH, hB, hz, q⟩ := h
  cases rx
  cases ry
  obtain ⟨z, its, n, r, hl, e⟩ := I.lstM hH
  obtain ⟨z2, its2, n2, r2, hl2, e2⟩ := I.lstM hB
  refine PySem.P.add_list e e2 ?_ (by rw [List.size_toArray, List.size_toArray]; omega)
  have ea : its.toArray ++ its2.toArray = (its ++ its2).toArray := by simp
  rw [ea]
  exact ⟨.ref _, _, I.lnew (t' := s.toks) (r.append r2) (by rw [List.length_append]; omega), rfl, q _ I.fresh⟩
/-! ### del xs[i] -/
end

/-! ### xs[a:b] = ys -/
section
variable {prog : Program} {w : World} {A : Around} {E : Value → Shared → Prop} {s : Shared}
set_option maxRecDepth 100000 in
end

section
variable {X : Cx}
end
end L2

namespace Att
open PySem PySem.W PySem.Calls PyProof.Rows

/-! ### the script -/
theorem ints_of_wellAll {P : Params} {h : Heap} : ∀ (ns : List Int) (vs : List Value), WellAll P h vs (ns.map WData.int) → IntsAre vs ns := by
  intro ns
  induction ns with
  | nil =>
    intro vs w
    rw [List.map_nil] at w
    cases w
    exact .nil
  | cons n ns ih =>
    intro vs w
    rw [List.map_cons] at w
    cases w with
    | cons a b =>
      cases a
      exact .cons _ _ (ih _ b)

theorem script_of {l : OpenLaw} {n : Nat} (hn : l.most = some n) {P : Params} {h : Heap} {args : List WData} {vals : List Value}
    (hpre : l.row.toRowW.claim.pre args = true) (hwl : WellAll P h vals args) :
    ∃ a vs ns, vals = [Value.ref a] ∧ args = [WData.list (ns.map WData.int)] ∧ h.get? a = some { cls := .type "list", data := .seq vs.toArray } ∧ IntsAre vs ns ∧ ns.length ≤ n := by
  have hsh : WShape.hasAll [] args [.list .int] = true := (pre_splitW hpre).1
  have hc : l.pre.holds [] { args := args } = true := (pre_splitW hpre).2
  obtain ⟨d, r, rfl, h1, h2⟩ := hasAllW_cons hsh
  obtain rfl := hasAllW_nil h2
  obtain ⟨xs, rfl, h3⟩ := hasW_list h1
  obtain ⟨ns, rfl⟩ := items_int h3
  have hlen : ns.length ≤ n := by
    unfold OpenLaw.pre at hc
    have h4 : (WTm.not (.lt (.lit (.int (n : Int))) (.len (.arg 0)))).holds [] { args := [.list (ns.map .int)] } = true := by
      have h4 := (holds_andW hc).1
      rw [hn] at h4
      exact h4
    have h5 := condW_of h4 (w_not (w_lt w_lit (w_len_list (w_arg rfl))))
    rw [List.length_map] at h5
    refine Nat.le_of_not_lt fun q => ?_
    have q' : (n : Int) < ((ns.length : Nat) : Int) := by omega
    first
      | (rw [decide_eq_true q'] at h5; exact absurd h5 (by decide))
      | (simp at h5; omega)
  cases hwl with
  | cons w1 w2 =>
    cases w2
    cases w1 with
    | list ho hall => exact ⟨_, _, ns, rfl, rfl, ho, ints_of_wellAll ns _ hall, hlen⟩

theorem post_true (l : OpenLaw) (args : List WData) : l.row.toRowW.claim.post args (.bool true) args = true :=
  postW_of (r := l.row.toRowW) (X := (true == true))
    (show WShape.has [] (.bool true) .bool = true by first | rfl | decide | simp [WShape.has, WShape.arms, WShape.armsAll])
    (show (WTm.eq .res (.lit (.bool true))).value [] { args := args, res := some (.bool true), after := args } = some (.bool (true == true)) from w_eq_bool (w_res rfl) w_lit) rfl

/-! ### the attachment: holds_open's last premise (the goal 'hc' behind k_head) from a wpAny of the law's body -/
/-- the same from a codeAny of the CALL (for a layer whose function contracts speak of calls) -/
theorem attach_call {l : OpenLaw} {n : Nat} {q : Program} {loose : List Str} {XP : (Str → Option Value) → Heap → Prop} {YP : World → Heap → Prop} {d : DefRec}
    (hn : l.most = some n) (hdf : d.params.defaults = [])
    (call : ∀ (w : World) (s₀ s₁ : Shared) (mg mb : Str → Option Value) (fa : Addr) (o : Obj) (pm cd doc : Value) (a : Addr) (vs : List Value) (ns : List Int),
      Ground q loose [] XP w s₀ mg mb s₁.heap → YP w s₁.heap →
      s₁.heap.get? fa = some o → o.data = .func (docDef d.name d.params d.body d.scope pm cd doc) → s₁.heap.CodeRec cd d.name → mg d.name = some (.ref fa) →
      s₁.heap.get? a = some { cls := .type "list", data := .seq vs.toArray } → IntsAre vs ns → ns.length ≤ n → s₁.gens = #[] →
      codeAny (model l.prog w) callerA (.call (.ref fa) ⟨[.ref a], []⟩) (fun r s' => r = .ok (.ret (.bool true)) ∧ OldK s₁.heap s'.heap ∧ s'.os = s₁.os ∧ AllBare s'.gens) s₁) :
    WalkO q loose XP YP l.row.toRowW d [] (fun f vs => PySem.call f vs) := by
  intro w s₀ s₁ mg mb G Y fa o pm cd doc dV kV ho hd hcd hD hmg hg args vals as hpre hlay hrd hwl hlo
  obtain rfl : dV = .none := Dflts.none hD hdf
  obtain rfl : kV = .none := Dflts.noKw hD
  obtain ⟨a, vs, ns, rfl, rfl, hobj, hints, hlen⟩ := script_of hn hpre hwl
  refine enter_call (codeAny_mono (call w s₀ s₁ mg mb fa o pm cd doc a vs ns G Y ho (fd_plain hd) hcd hmg hobj hints hlen hg) fun r s' hq => ?_)
  obtain ⟨rfl, h2, h3, h4⟩ := hq
  exact ⟨.inl ⟨.bool true, .bool true, [], rfl, fun _ => rfl, .bool true, post_true l _, fun _ => ⟨List.Pairwise.nil, fun _ hm => (nomatch hm)⟩⟩, h2, h3, h4⟩

/-! ### rules over ANY heap (no ledger) from facts about the written part K: the library's own take a ledger (News) for what they write -/
section
variable {prog : Program} {w : World} {A : Around} {E : Value → Shared → Prop} {s : Shared} {K : Frag}

/-! the whole heap as the ledger: makes every rule that writes through a ledger a rule over any heap -/
noncomputable def ledger (h : Heap) (L d : Addr) : List (Addr × Obj) := (List.range h.objs.size).filterMap fun a => if a = L ∨ a = d then none else (h.get? a).map fun o => (a, o)
end
end Att

namespace L2
open PySem PySem.Spec PyProof.Rows

theorem vals_ints : ∀ {vs : List Value} {ns : List Int}, IntsAre vs ns → Vals (ns.map V.int) vs
  | _, _, .nil => .nil
  | _, _, .cons n t h => .cons ⟨t, rfl⟩ (vals_ints h)

/-- nothing is tracked but the script, known to the object (or it is an object of the module) -/
noncomputable def Only (H : Hp) : Prop := ∀ b, H b = none ∨ ∃ o xs, H b = some (.frz o (.lst xs))

/-- THE HEAD: the law's promise, at the heap behind the top. F, the promise of the law's def, may use that base is part of the heap (so K.In base, base.Ns mainGlobals mg stand in Mod) -/
theorem law_call {P : Program} {w : World} {K : PySem.W.Frag} {mg mb : Str → Option Value} {CX : CXT} {k : Nat} {fa a : Addr} {fd : FuncData} {x : Str} {sp : Sp} {s₁ : Shared} {vs : List Value} {ns : List Int}
    (KX : K.In s₁.heap) (hns : s₁.heap.Ns mainGlobals mg) (hb : s₁.heap.Ns builtinsNs mb) (hbb : ∀ x : Str, x ≠ "__name__" → mb x = bootBuiltins x) (hlim : s₁.heap.NoLimit) (hg : s₁.gens = #[])
    (ha : s₁.heap.get? a = some { cls := .type "list", data := .seq vs.toArray }) (hi : IntsAre vs ns) (hl : ns.length ≤ sizeLine) (hr : Room k callerA)
    (F : ∀ base : Heap, K.In base → base.Ns mainGlobals mg → FnOk P w K mg base CX k fa fd [x] sp) (hbind : ∀ (s : Shared) (u : Value), BindsTo s fd ⟨[u], []⟩ [(x, u)])
    (hsp : ∀ H : Hp, Only H → SqL K H a (ns.map V.int) → sp [.ref a] H (fun v _ => v = .bl true) fun _ _ _ => False)
    (hCX : ∀ H e s', CX [] H s₁ (fun _ _ _ => False) e s' → False) :
    codeAny (model P w) callerA (.call (.ref fa) ⟨[.ref a], []⟩) (fun r s' => r = .ok (.ret (.bool true)) ∧ OldK s₁.heap s'.heap ∧ s'.os = s₁.os ∧ AllBare s'.gens) s₁ := by
  have rv := vals_ints hi
  have lenV := hi.length
  -- from an abstract heap in which nothing but the script may be tracked
  have core : ∀ H : Hp, Only H → SqL K H a (ns.map V.int) → HOk P w H s₁.heap → (∀ b, H b ≠ none → b = a) → (H a ≠ none → K.lookup a = none) →
      codeAny (model P w) callerA (.call (.ref fa) ⟨[.ref a], []⟩) (fun r s' => r = .ok (.ret (.bool true)) ∧ OldK s₁.heap s'.heap ∧ s'.os = s₁.os ∧ AllBare s'.gens) s₁ := by
    intro H hO hS hok hA hK
    have base_of : ∀ {b : Addr} {o : Obj}, s₁.heap.get? b = some o → H b = none → (hidT s₁.heap H).get? b = some o := fun e n => hidT_get e n
    have noA : ∀ {b : Addr} {o : Obj} {es : Array DictEntry} {ep : Nat}, s₁.heap.get? b = some o → o.data = .dict es ep → H b = none := fun {b o es ep} e d => by
      cases q : H b with
      | none => rfl
      | some u =>
        have e' : b = a := hA b (by rw [q]; simp)
        subst e'
        rw [ha] at e; cases e
        have d' : Data.seq vs.toArray _ = Data.dict es ep := d
        cases d'
    have nsK : ∀ {b : Addr} {m : Str → Option Value}, s₁.heap.Ns b m → (hidT s₁.heap H).Ns b m := fun {b m} ⟨o, es, ep, e, d, r⟩ => ⟨o, es, ep, base_of e (noA e d), d, r⟩
    have hKb : K.In (hidT s₁.heap H) := fun b o e => base_of (KX b o e) (by
      cases q : H b with
      | none => rfl
      | some u =>
        have e' : b = a := hA b (by rw [q]; simp)
        subst e'
        rw [hK (by rw [q]; simp)] at e; cases e)
    have hM : Mod K mg (hidT s₁.heap H) := ⟨hKb, nsK hns, ⟨mb, nsK hb, hbb⟩, let ⟨mc, h1, h2⟩ := hlim; ⟨mc, nsK h1, h2⟩⟩
    have e0 : Env0 P w K mg (hidT s₁.heap H) callerA [] s₁ H := ⟨rfl, hM, fun b o e => of_hidT e, Nat.le_of_eq (hidT_size _ _), trivial, fun b hb => absurd (show b ∈ ([] : List Addr) from hb) (by simp), hok, .of_eq hg⟩
    refine codeAny_mono ((F _ hKb (nsK hns)).run callerA [] s₁ H ⟨[.ref a], []⟩ [.ref a] [.ref a] _ _ hr e0 (hbind s₁ (.ref a)) (.cons rfl .nil) (hsp H hO hS)) fun r s' h => ?_
    cases r with
    | error e => exact (hCX H e s' h).elim
    | ok fl =>
      cases fl with
      | next => exact False.elim h
      | brk => exact False.elim h
      | cont => exact False.elim h
      | ret u =>
        obtain ⟨v, H', os, bare, un, hok', r', q⟩ := h
        have q' : v = .bl true := q
        subst q'
        obtain rfl : u = Value.bool true := r'
        refine ⟨rfl, OldK.of_keep fun b o e => ?_, os, bare⟩
        cases q : H b with
        | none => exact un.keep b o e q (by intro z; exact absurd (show b ∈ ([] : List Addr) from z) (by simp)) (by simp)
        | some u =>
          rcases hO b with z | ⟨ob, xs, z⟩
          · rw [q] at z; cases z
          · have z2 := un.frzs b ob _ z
            obtain ⟨e1, _⟩ := hok b _ z
            obtain ⟨e2, _⟩ := hok' b _ z2
            rw [e] at e1; cases e1
            exact e2
  cases hk : K.lookup a with
  | some o =>
    -- the script is one of the module's own objects
    have e := KX a o hk
    rw [ha] at e
    cases e
    refine core (fun _ => none) (fun _ => .inl rfl) (.inr ⟨_, vs.toArray, _, hk, rfl, rfl, rfl, by rw [List.size_toArray, lenV]; exact hl, by simpa using rv⟩) (fun b u z => by have z' : (none : Option HO) = some u := z; cases z') (fun b z => absurd rfl z) fun z => absurd rfl z
  | none =>
    refine core (fun b => if b = a then some (.frz { cls := .type "list", data := .seq vs.toArray } (.lst (ns.map V.int))) else none) (fun b => ?_) (.inl (.inr ⟨{ cls := .type "list", data := .seq vs.toArray }, if_pos rfl⟩)) (fun b u z => ?_) (fun b z => ?_) fun _ => hk
    · by_cases hb : b = a
      · exact .inr ⟨_, _, if_pos hb⟩
      · exact .inl (if_neg hb)
    · by_cases hb : b = a
      · have z' := (if_pos hb).symm.trans z
        cases z'
        subst hb
        exact ⟨ha, by rw [List.length_map]; exact hl, vs, _, rv, ha⟩
      · have z' := (if_neg hb).symm.trans z
        cases z'
    · by_cases hb : b = a
      · exact hb
      · exact absurd (if_neg hb) z
end L2

namespace L2
open PySem PySem.Spec PyProof.Rows

noncomputable abbrev KOf {K : PySem.W.Frag} {h : Heap} (_ : K.In h) : PySem.W.Frag := K

/-- the goal that k_head leaves (case hc), from the law's promise. F gives the function object fd (K's own) once, then the promise over every base -/
theorem walk_of {l : PySem.W.OpenLaw} {n k : Nat} {q : Program} {loose : List Str} {XP : (Str → Option Value) → Heap → Prop} {YP : World → Heap → Prop} {d : DefRec} {K : Params → PySem.W.Frag} {CX : World → CXT} {sp : World → Sp} {x : Str}
    (hn : l.most = some n) (hn2 : n ≤ sizeLine) (hdf : d.params.defaults = []) (hr : Room k callerA)
    (hY : ∀ (w : World) (h : Heap), YP w h → (K w.params).In h)
    (F : ∀ (w : World) (mg : Str → Option Value) (fa : Addr) (h : Heap), (K w.params).In h → h.Ns mainGlobals mg → mg d.name = some (.ref fa) →
      ∃ fd : FuncData, (∀ (s : Shared) (u : Value), BindsTo s fd ⟨[u], []⟩ [(x, u)]) ∧
        ∀ base : Heap, (K w.params).In base → base.Ns mainGlobals mg → FnOk l.prog w (K w.params) mg base (CX w) k fa fd [x] (sp w))
    (hsp : ∀ (w : World) (H : Hp) (a : Addr) (ns : List Int), ns.length ≤ n → Only H → SqL (K w.params) H a (ns.map V.int) → sp w [.ref a] H (fun v _ => v = .bl true) fun _ _ _ => False)
    (hCX : ∀ (w : World) (H : Hp) (s : Shared) (e : Value) (s' : Shared), CX w [] H s (fun _ _ _ => False) e s' → False) :
    PySem.W.WalkO q loose XP YP l.row.toRowW d [] (fun f vs => PySem.call f vs) := by
  refine Att.attach_call hn hdf fun w s₀ s₁ mg mb fa o pm cd doc a vs ns G Y ho hd hcd hmg hobj hints hlen hg => ?_
  have KX := hY w _ Y
  obtain ⟨fd, hb, hF⟩ := F w mg fa _ KX G.T.g hmg
  exact law_call KX G.T.g G.T.b G.T.builtins G.T.nolimit hg hobj hints (Nat.le_trans hlen hn2) hr hF hb (fun H hO hS => hsp w H a ns hlen hO hS) fun H e s' => hCX w H s₁ e s'
end L2

/- THE LAST THEOREM (shape; LID, My.* are yours):
   My.Adr: a structure of the addresses that your layer names (classes, functions); My.Txt K t: a structure (Prop) of the equations over K;
   My.txt_mk : {K} {implicit addresses ..} (e1 : nsIn K mainGlobals "law" = some (some (.ref f))) (e2 : K.lookup f = some ⟨oc, od, .func (fnOf "law" "law" params body scope dV kV doc pm an cdv ct), sl⟩) (e3 : codeIn K cdv "law" = true) .. : ∃ t, My.Txt K t

set_option maxRecDepth 100000 in
set_option maxHeartbeats 0 in
theorem PySem.Challenge.cw_LID_holds : PySem.Challenge.rw_LID.Holds := by
  w_on; o_law; k_head; (case hw => w_witness2)
  k_fill
  refine L2.walk_of (l := PySem.Challenge.rw_LID) (n := 63) (k := 40) (x := "script") (CX := fun w => ..) (sp := fun _ => My.sp_law) rfl (by decide) rfl ⟨rfl, by decide, by decide⟩ (fun w h Y => PySem.W.kIn_of Y) ?F ?S ?C
  case F =>
    intro w mg fa h KX G hmg
    have T : ∃ t, My.Txt (L2.KOf KX) t := by
      dsimp only [L2.KOf]                          -- K must stand as «<heap const> w.params» for k_is
      refine' My.txt_mk ?e1 ?e2 ?e3 ..
      (case e1 => PySem.W.k_is)                    -- in the order: a name -> its address -> its object -> its parts
      (case e2 => PySem.W.k_is)
      ..
    obtain ⟨t, T⟩ := T
    have e0 := hmg.symm.trans (PySem.W.mg_of KX G T.law)
    cases e0                                       -- fa is the law's own address
    exact ⟨_, fun s u => .of_eq rfl, fun base kb nb => My.law_fn T kb nb⟩     -- if «.of_eq rfl» comes too early: refine' ⟨_, ?b, fun base kb nb => My.law_fn T kb nb⟩; exact fun s u => .of_eq rfl
  case S => exact fun w H a ns hl hO hS => ..
  case C => exact ..
(the tactic k_is has no namespace: write k_is) -/

/-! SHORT WORDS over the layer: a def of the text, its body, what a loop and a test want. -/
namespace L2
open PySem PySem.Spec PyProof.Rows

/-! ### the text by places -/
/-- the j-th statement of a class's body -/
noncomputable def defArgs (s : Stmt) : Arguments := match s with
  | .FunctionDef _ a _ _ _ _ _ _ _ _ => a
  | _ => { posonlyargs := [], args := [], vararg := none, kwonlyargs := [], kw_defaults := [], kwarg := none, defaults := [] }
noncomputable def defBody (s : Stmt) : List Stmt := match s with
  | .FunctionDef _ _ b _ _ _ _ _ _ _ => b
  | _ => []
noncomputable def defScope (s : Stmt) : Scope := match s with
  | .FunctionDef _ _ _ _ _ _ sc _ _ _ => sc
  | _ => { kind := .function, names := [], isGenerator := false, isCoroutine := false }

/-! ### no exception leaves a def -/
noncomputable abbrev CX0 : CXT := fun _ _ _ _ _ _ => False
noncomputable abbrev E0 : XK := fun _ _ _ => False
theorem pass0 {X : Cx} : Passes CX0 X E0 := fun _ _ _ _ _ _ _ h => h.elim

/-! ### a def (or method) of the text as it stands behind the top -/
structure Fun (K : PySem.W.Frag) (x qual : Str) (st : Stmt) (f : Addr) (fd : FuncData) : Prop where
  ex : ∃ (oc : Value) (od : Option Addr) (kV doc pm : Value) (an : Option Addr) (cdv ct : Value) (osl : Array (Option Value)),
    fd = PySem.W.fnOf x qual (defArgs st) (defBody st) (defScope st) .none kV doc pm an cdv ct ∧ K.lookup f = some ⟨oc, od, .func fd, osl⟩ ∧ PySem.W.codeIn K cdv qual = true
  kp : PySem.W.keepIn K (.ref f) = true
section
variable {P : Program} {w : World} {K : PySem.W.Frag} {mg : Str → Option Value} {base : Heap}
/-- THE RULE for a def: its body as a term of rules, and the reading of that term -/
theorem Fun.ok {x qual : Str} {st : Stmt} {f : Addr} {fd : FuncData} {N ps : List Str} {k : Nat} {sp : Sp} (F : Fun K x qual st f fd) (S : FnScope N ps (defScope st)) (len : ∀ vs H Q E, sp vs H Q E → vs.length = ps.length)
    (hbody : ∀ (cdv : Value) (A : Around) (outer : List Env) (s : Shared) (H : Hp) (vs : List V) (Q : VK) (E : XK), Room k (A.deeper (envOfC qual (defScope st) s.heap.objs.size f cdv)) → sp vs H Q E →
      ∃ t, PSs (cxOf CX0 P w K mg base N qual (defScope st) f cdv A outer s H E).nox (defBody st) t ∧ t { nx := fun _ H' => Q .non H', rt := Q } (start N vs) H) : FnOk P w K mg base CX0 (k + 1) f fd ps sp := by
  obtain ⟨oc, od, kV, doc, pm, an, cdv, ct, osl, rfl, lk, hcd⟩ := F.ex
  refine fn_of lk hcd S len fun A outer s H vs Q E hr hsp => ?_
  obtain ⟨t, h, q⟩ := hbody cdv A outer s H vs Q E hr hsp
  exact ⟨t, h.nox, q⟩
/-- how its arguments bind (no defaults): h is «fun _ _ _ _ _ _ us hl => match us, hl with | [_, _], _ => rfl», one _ a parameter -/
theorem Fun.binds {x qual : Str} {st : Stmt} {f : Addr} {fd : FuncData} {ps : List Str} (F : Fun K x qual st f fd)
    (h : ∀ (kV doc pm : Value) (an : Option Addr) (cdv ct : Value) (us : List Value), us.length = ps.length → bindArgs (PySem.W.fnOf x qual (defArgs st) (defBody st) (defScope st) .none kV doc pm an cdv ct) ⟨us, []⟩ = pure (ps.zip us)) : Binds K fd ps [] := by
  obtain ⟨oc, od, kV, doc, pm, an, cdv, ct, osl, rfl, lk, hcd⟩ := F.ex
  exact .all (h kV doc pm an cdv ct)
theorem fun_mk {x qual : Str} {st : Stmt} {f : Addr} {oc : Value} {od an : Option Addr} {osl : Array (Option Value)} {kV doc pm cdv ct : Value} (l : K.lookup f = some ⟨oc, od, .func (PySem.W.fnOf x qual (defArgs st) (defBody st) (defScope st) .none kV doc pm an cdv ct), osl⟩)
    (c : PySem.W.codeIn K cdv qual = true) (k : PySem.W.keepIn K (.ref f) = true) : Fun K x qual st f (PySem.W.fnOf x qual (defArgs st) (defBody st) (defScope st) .none kV doc pm an cdv ct) := ⟨⟨oc, od, kV, doc, pm, an, cdv, ct, osl, rfl, l, c⟩, k⟩
end
/-! ### expressions in short: the name that stands in the i-th slot -/
section
variable {X : Cx}
theorem pv (i : Nat) {x : Str} {pos : Pos} (hN : X.N[i]? = some x := by rfl) (hv : Vis X.env.scope x := by first | exact Or.inl rfl | exact Or.inr (Or.inl rfl) | exact Or.inr (Or.inr rfl)) (hd : (x == ("__debug__" : Str)) = false := by decide)
    (hcd : (x == ("__classdict__" : Str)) = false := by decide) : PE X (.Name x pos) (tVar i) := pe_var hN hv hd hcd
end

/-! ### tests -/
theorem iteF {A B : Prop} (h : B) : if false = true then A else B := by
  rw [if_neg Bool.false_ne_true]
  exact h
theorem iteNS {c A B : Prop} [Decidable c] (hc : c) (h : B) : if (!decide c) = true then A else B := by
  rw [decide_eq_true hc]
  exact iteF h

/-! ### heaps -/
/-- all that was tracked is as it was -/
noncomputable def Same (H H' : Hp) : Prop := ∀ b o, H b = some o → H' b = some o
theorem Same.refl (H : Hp) : Same H H := fun _ _ h => h
theorem Same.trans {H H1 H2 : Hp} (a : Same H H1) (b : Same H1 H2) : Same H H2 := fun c o h => b c o (a c o h)
theorem Same.free {H H' : Hp} (e : Same H H') {l : Addr} (h : H' l = Option.none) : H l = Option.none := by
  cases q : H l with
  | none => rfl
  | some o =>
    rw [e l o q] at h
    cases h
theorem Same.seq {K : PySem.W.Frag} {H H' : Hp} {a : Addr} {xs : List V} (e : Same H H') (h : SqL K H a xs) : SqL K H' a xs := by
  rcases h with (h | ⟨o, h⟩) | h
  · exact .inl (.inl (e _ _ h))
  · exact .inl (.inr ⟨o, e _ _ h⟩)
  · exact .inr h

end L2

/-! The library's sort of fewer than sixty-four items, asked item by item: what comes out is in order, where no two items are alike -/
namespace Cv
open PySem PySem.W PyProof.Rows
section
variable {n : Nat} {lt : Nat → Nat → Bool}
/-- a strict order of the numbers below n -/
structure Ord (n : Nat) (lt : Nat → Nat → Bool) : Prop where
  tot : ∀ i j, i < n → j < n → i ≠ j → lt i j = true ∨ lt j i = true
  trans : ∀ i j k, i < n → j < n → k < n → lt i j = true → lt j k = true → lt i k = true
  irr : ∀ i, i < n → lt i i = false
structure Pm (n : Nat) (p : Array Nat) : Prop where
  sz : p.size = n
  pm : p.toList.Perm (List.range n)
noncomputable abbrev gp (p : Array Nat) (i : Nat) : Nat := p.getD i 0
theorem gp_eq (p : Array Nat) (i : Nat) : gp p i = (p[i]?).getD 0 := by unfold gp; rw [Array.getD_eq_getD_getElem?]
theorem Pm.bl {p : Array Nat} (h : Pm n p) (h1 : 1 ≤ n) (i : Nat) : gp p i < n := by
  rw [gp_eq]
  cases e : p[i]? with
  | none => exact h1
  | some x =>
    have : x ∈ p.toList := by rw [← Array.getElem?_toList] at e; exact List.mem_of_getElem? e
    exact List.mem_range.mp (h.pm.mem_iff.mp this)
theorem Pm.inj {p : Array Nat} (h : Pm n p) {i j : Nat} (hi : i < n) (hj : j < n) (hne : i ≠ j) : gp p i ≠ gp p j := by
  have nd : p.toList.Nodup := h.pm.nodup_iff.mpr List.nodup_range
  have hl : p.toList.length = n := by rw [Array.length_toList, h.sz]
  rw [gp_eq, gp_eq, ← Array.getElem?_toList, ← Array.getElem?_toList, List.getElem?_eq_getElem (by omega), List.getElem?_eq_getElem (by omega)]
  intro e
  exact hne ((List.getElem_inj nd).mp e)
theorem Pm.of {p q : Array Nat} (h : Pm n p) (hs : q.size = p.size) (hp : q.Perm p) : Pm n q := ⟨by rw [hs, h.sz], (Array.perm_iff_toList_perm.mp hp).trans h.pm⟩
noncomputable def Srt (lt : Nat → Nat → Bool) (p : Array Nat) (k : Nat) : Prop := ∀ i j, i < j → j < k → lt (gp p i) (gp p j) = true
theorem srt_chain (O : Ord n lt) {p : Array Nat} (h : Pm n p) (h1 : 1 ≤ n) {m : Nat} (hc : ∀ k, 1 ≤ k → k < m → lt (gp p (k - 1)) (gp p k) = true) : Srt lt p m := fun i j hij => by
  induction j with
  | zero => omega
  | succ j ih =>
    intro hj
    have s := hc (j + 1) (by omega) hj
    rw [Nat.add_sub_cancel] at s
    rcases Nat.lt_or_ge i j with h' | h'
    · exact O.trans _ _ _ (h.bl h1 _) (h.bl h1 _) (h.bl h1 _) (ih h' (by omega)) s
    · have : i = j := by omega
      subst this; exact s
variable {cmp : Nat → Nat → (Bool → Shared → Prop) → Shared → Prop} {s : Shared}
theorem wp_asc (O : Ord n lt) (h1 : 1 ≤ n) (hc : ∀ i j C, i < n → j < n → C (lt i j) s → cmp i j C s) {p : Array Nat} (h : Pm n p) : ∀ (f x : Nat) (Q : Nat → Shared → Prop), 1 ≤ x → x + f ≤ n →
    (∀ m, x ≤ m → m ≤ x + f → (∀ k, x ≤ k → k < m → lt (gp p (k - 1)) (gp p k) = true) → (m < x + f → lt (gp p m) (gp p (m - 1)) = true) → Q m s) → KasT.kasWp cmp (kas_asc p f x) Q s
  | 0, x, Q, hx, hf, q => by
    rw [kas_asc.eq_1, KasT.kasWp.eq_1]
    exact q x (Nat.le_refl _) (by omega) (fun k a b => by omega) (fun a => by omega)
  | f + 1, x, Q, hx, hf, q => by
    rw [kas_asc.eq_2, KasT.kasWp.eq_2]
    refine hc _ _ _ (h.bl h1 x) (h.bl h1 (x - 1)) ?_
    have hne := h.inj (i := x - 1) (j := x) (by omega) (by omega) (by omega)
    cases e : lt (p.getD x 0) (p.getD (x - 1) 0) with
    | true =>
      rw [if_pos rfl, KasT.kasWp.eq_1]
      exact q x (Nat.le_refl _) (by omega) (fun k a b => by omega) (fun _ => e)
    | false =>
      rw [if_neg (by simp)]
      have e2 : lt (gp p (x - 1)) (gp p x) = true := by
        rcases O.tot _ _ (h.bl h1 (x - 1)) (h.bl h1 x) hne with z | z
        · exact z
        · exact absurd (e.symm.trans z) (by decide)
      refine wp_asc O h1 hc h f (x + 1) Q (by omega) (by omega) fun m a b c d => q m (by omega) (by omega) (fun k k1 k2 => ?_) (fun z => d (by omega))
      rcases Nat.lt_or_ge x k with z | z
      · exact c k (by omega) k2
      · have : k = x := by omega
        subst this; exact e2
theorem wp_desc (O : Ord n lt) (h1 : 1 ≤ n) (hc : ∀ i j C, i < n → j < n → C (lt i j) s → cmp i j C s) {p : Array Nat} (h : Pm n p) : ∀ (f x : Nat) (Q : Array Nat × Nat × Nat → Shared → Prop), 1 ≤ x → x + f ≤ n →
    (∀ m, x ≤ m → m ≤ x + f → (∀ k, x ≤ k → k < m → lt (gp p k) (gp p (k - 1)) = true) → Q (p, m, 0) s) → KasT.kasWp cmp (kas_desc f p x 0) Q s
  | 0, x, Q, hx, hf, q => by
    rw [kas_desc.eq_1, KasT.kasWp.eq_1]
    exact q x (Nat.le_refl _) (by omega) (fun k a b => by omega)
  | f + 1, x, Q, hx, hf, q => by
    rw [kas_desc.eq_2, KasT.kasWp.eq_2]
    refine hc _ _ _ (h.bl h1 x) (h.bl h1 (x - 1)) ?_
    have hne := h.inj (i := x - 1) (j := x) (by omega) (by omega) (by omega)
    cases e : lt (p.getD x 0) (p.getD (x - 1) 0) with
    | true =>
      rw [if_pos rfl, if_neg (by omega)]
      refine wp_desc O h1 hc h f (x + 1) Q (by omega) (by omega) fun m a b c => q m (by omega) (by omega) (fun k k1 k2 => ?_)
      rcases Nat.lt_or_ge x k with z | z
      · exact c k (by omega) k2
      · have : k = x := by omega
        subst this; exact e
    | false =>
      rw [if_neg (by simp), KasT.kasWp.eq_2]
      refine hc _ _ _ (h.bl h1 (x - 1)) (h.bl h1 x) ?_
      have e2 : lt (p.getD (x - 1) 0) (p.getD x 0) = true := by
        rcases O.tot _ _ (h.bl h1 (x - 1)) (h.bl h1 x) hne with z | z
        · exact z
        · exact absurd (e.symm.trans z) (by decide)
      rw [e2, if_pos rfl, KasT.kasWp.eq_1]
      exact q x (Nat.le_refl _) (by omega) (fun k a b => by omega)
theorem rev_pm {p : Array Nat} (h : Pm n p) (i j : Nat) : Pm n (kas_rev p i j) := h.of (mirror_size _ _ _ _) (mirror_perm _ _ _ _)
theorem rev_gp {p : Array Nat} (h : Pm n p) {m : Nat} (hm : m ≤ n) (k : Nat) : gp (kas_rev p 0 m) k = if k < m then gp p (m - 1 - k) else gp p k := by
  rw [gp_eq]
  unfold kas_rev
  rw [getElem?_mirror_all (by rw [h.sz]; exact hm)]
  by_cases e : k < m
  · rw [if_pos ⟨Nat.zero_le _, e⟩, if_pos e, gp_eq, Nat.zero_add]
  · rw [if_neg (fun z => e z.2), if_neg e, gp_eq]
theorem wp_count (O : Ord n lt) (h2 : 2 ≤ n) (hc : ∀ i j C, i < n → j < n → C (lt i j) s → cmp i j C s) {p : Array Nat} (h : Pm n p) (Q : Nat × Array Nat → Shared → Prop)
    (q : ∀ r p', 1 ≤ r → r ≤ n → Pm n p' → Srt lt p' r → Q (r, p') s) : KasT.kasWp cmp (kas_count n p) Q s := by
  have h1 : 1 ≤ n := by omega
  rw [kas_count.eq_1, KasT.kasWp_bind]
  refine wp_asc O h1 hc h (n - 1) 1 _ (Nat.le_refl _) (by omega) fun m m1 m2 mc ms => ?_
  have sr := srt_chain O h h1 mc
  by_cases e : m = n
  · subst e
    rw [if_pos (by simp), KasT.kasWp.eq_1]
    exact q m p m1 (Nat.le_refl _) h sr
  · rw [if_neg (by simpa using e)]
    by_cases e1 : m > 1
    · rw [if_pos e1, KasT.kasWp.eq_2]
      refine hc _ _ _ (h.bl h1 _) (h.bl h1 _) ?_
      have := sr 0 (m - 1) (by omega) (by omega)
      rw [show lt (p.getD 0 0) (p.getD (m - 1) 0) = true from this, if_pos rfl, KasT.kasWp.eq_1]
      exact q m p m1 (by omega) h sr
    · have em : m = 1 := by omega
      subst em
      rw [if_neg e1, kas_descPart.eq_1, KasT.kasWp_bind]
      have st := ms (by omega)
      refine wp_desc O h1 hc h (n - (1 + 1)) (1 + 1) _ (by decide) (by omega) fun m a b c => ?_
      rw [if_neg (by simp)]
      unfold kas_tail3
      rw [KasT.kasWp_bind]
      have hr := rev_pm h 0 m
      have hm : m ≤ n := by omega
      have cd : ∀ k, 1 ≤ k → k < m → lt (gp p k) (gp p (k - 1)) = true := fun k k1 k2 => by
        rcases Nat.lt_or_ge k 2 with z | z
        · have : k = 1 := by omega
          subst this; exact st
        · exact c k z k2
      refine wp_asc O h1 hc hr (n - m) m _ (by omega) (by omega) fun m3 a3 b3 c3 d3 => ?_
      rw [KasT.kasWp.eq_1]
      refine q m3 _ (by omega) (by omega) hr (srt_chain O hr h1 fun k k1 k2 => ?_)
      rcases Nat.lt_or_ge k m with z | z
      · rw [rev_gp h hm, rev_gp h hm, if_pos (by omega), if_pos z]
        have := cd (m - 1 - (k - 1)) (by omega) (by omega)
        rw [show m - 1 - (k - 1) - 1 = m - 1 - k by omega] at this
        exact this
      · exact c3 k z k2
theorem wp_place (O : Ord n lt) (h1 : 1 ≤ n) (hc : ∀ i j C, i < n → j < n → C (lt i j) s → cmp i j C s) {p : Array Nat} (h : Pm n p) {k : Nat} (hk : k < n) (sr : Srt lt p k) : ∀ (f lo hi : Nat) (Q : Nat → Shared → Prop), lo ≤ hi → hi ≤ k → hi - lo ≤ f →
    (∀ i, i < lo → lt (gp p i) (gp p k) = true) → (∀ i, hi ≤ i → i < k → lt (gp p k) (gp p i) = true) →
    (∀ l, l ≤ k → (∀ i, i < l → lt (gp p i) (gp p k) = true) → (∀ i, l ≤ i → i < k → lt (gp p k) (gp p i) = true) → Q l s) → KasT.kasWp cmp (kas_place p k f lo hi) Q s
  | 0, lo, hi, Q, a, b, c, d, e, q => by
    rw [kas_place.eq_1, KasT.kasWp.eq_1]
    have : lo = hi := by omega
    subst this
    exact q lo b d e
  | f + 1, lo, hi, Q, a, b, c, d, e, q => by
    rw [kas_place.eq_2]
    by_cases z : lo ≥ hi
    · rw [if_pos z, KasT.kasWp.eq_1]
      have : lo = hi := by omega
      subst this
      exact q lo b d e
    · rw [if_neg z, KasT.kasWp.eq_2]
      refine hc _ _ _ (h.bl h1 _) (h.bl h1 _) ?_
      have m1 : lo ≤ (lo + hi) / 2 := by omega
      have m2 : (lo + hi) / 2 < hi := by omega
      generalize (lo + hi) / 2 = mid at *
      cases y : lt (p.getD k 0) (p.getD mid 0) with
      | true =>
        rw [if_pos rfl]
        refine wp_place O h1 hc h hk sr f lo mid Q m1 (by omega) (by omega) d (fun i i1 i2 => ?_) q
        rcases Nat.lt_or_ge mid i with w | w
        · exact O.trans _ _ _ (h.bl h1 _) (h.bl h1 _) (h.bl h1 _) y (sr mid i w i2)
        · have : i = mid := by omega
          subst this; exact y
      | false =>
        rw [if_neg (by simp)]
        have y2 : lt (gp p mid) (gp p k) = true := by
          rcases O.tot _ _ (h.bl h1 mid) (h.bl h1 k) (h.inj (by omega) hk (by omega)) with w | w
          · exact w
          · exact absurd (y.symm.trans w) (by decide)
        refine wp_place O h1 hc h hk sr f (mid + 1) hi Q (by omega) b (by omega) (fun i i1 => ?_) e q
        rcases Nat.lt_or_ge i mid with w | w
        · exact O.trans _ _ _ (h.bl h1 _) (h.bl h1 _) (h.bl h1 _) (sr i mid w (by omega)) y2
        · have : i = mid := by omega
          subst this; exact y2
theorem wp_bin (O : Ord n lt) (h1 : 1 ≤ n) (hc : ∀ i j C, i < n → j < n → C (lt i j) s → cmp i j C s) (Q : Array Nat → Shared → Prop) (q : ∀ p, Pm n p → Srt lt p n → Q p s) : ∀ (f k : Nat) (p : Array Nat), Pm n p → 1 ≤ k → k + f = n → Srt lt p k → KasT.kasWp cmp (kas_bin f p k) Q s
  | 0, k, p, h, k1, e, sr => by
    rw [kas_bin.eq_1, KasT.kasWp.eq_1]
    have : k = n := by omega
    subst this
    exact q p h sr
  | f + 1, k, p, h, k1, e, sr => by
    rw [kas_bin.eq_2, KasT.kasWp_bind]
    refine wp_place O h1 hc h (by omega) sr k 0 k _ (Nat.zero_le _) (Nat.le_refl _) (by omega) (fun i a => by omega) (fun i a b => by omega) fun l l1 l2 l3 => ?_
    have hb : Pm n (bubble p k (k - l)) := h.of (bubble_size _ _ _) (bubble_perm _ _ _)
    have gb : ∀ i, gp (bubble p k (k - l)) i = if i = l then gp p k else if l < i ∧ i ≤ k then gp p (i - 1) else gp p i := fun i => by
      rw [gp_eq, getElem?_bubble (by rw [h.sz]; omega) (k - l) (by omega), show k - (k - l) = l by omega]
      by_cases a : i = l
      · rw [if_pos a, if_pos a, gp_eq]
      · rw [if_neg a, if_neg a]
        by_cases b : l < i ∧ i ≤ k
        · rw [if_pos b, if_pos b, gp_eq]
        · rw [if_neg b, if_neg b, gp_eq]
    refine wp_bin O h1 hc Q q f (k + 1) _ hb (by omega) (by omega) fun i j hij hj => ?_
    rw [gb, gb]
    by_cases a : i = l
    · rw [if_pos a, if_neg (by omega), if_pos (by omega)]
      exact l3 (j - 1) (by omega) (by omega)
    · rw [if_neg a]
      by_cases b : j = l
      · rw [if_pos b, if_neg (by omega)]
        exact l2 i (by omega)
      · rw [if_neg b]
        by_cases c : l < i ∧ i ≤ k
        · rw [if_pos c, if_pos (by omega)]
          exact sr (i - 1) (j - 1) (by omega) (by omega)
        · rw [if_neg c]
          by_cases d : l < j ∧ j ≤ k
          · rw [if_pos d]
            rcases Nat.lt_or_ge i (j - 1) with w | w
            · exact sr i (j - 1) w (by omega)
            · omega
          · rw [if_neg d]; exact sr i j hij (by omega)
/-- the sort, asked item by item -/
theorem wp_sort (O : Ord n lt) (h2 : 2 ≤ n) (hc : ∀ i j C, i < n → j < n → C (lt i j) s → cmp i j C s) (Q : Array Nat → Shared → Prop) (q : ∀ p, Pm n p → Srt lt p n → Q p s) : KasT.kasWp cmp (kas_sort n) Q s := by
  unfold kas_sort
  rw [KasT.kasWp_bind]
  have h0 : Pm n (List.range n).toArray := ⟨by simp, by simp⟩
  refine wp_count O h2 hc h0 _ fun r p' r1 r2 hp sr => ?_
  by_cases e : r < n
  · rw [if_pos e, show max r 1 = r by omega]
    exact wp_bin O (by omega) hc Q q (n - r) r p' hp r1 (by omega) sr
  · rw [if_neg e, KasT.kasWp.eq_1]
    have : r = n := by omega
    subst this
    exact q p' hp sr
end
end Cv

namespace L2
open PySem PySem.Spec PyProof.Rows
/-! ### lists of pairs as tables -/
section
variable {κ : Type} [DecidableEq κ]
noncomputable def valV (kvs : List (κ × V)) (k : κ) : Option V := (kvs.find? fun kv => decide (kv.1 = k)).map (·.2)
/-- in its place, or at the end -/
noncomputable def putK (kvs : List (κ × V)) (k : κ) (v : V) : List (κ × V) :=
  if (kvs.any fun kv => decide (kv.1 = k)) = true then kvs.map (fun kv => if kv.1 = k then (kv.1, v) else kv) else kvs ++ [(k, v)]
noncomputable def dropK (kvs : List (κ × V)) (k : κ) : List (κ × V) := kvs.filter fun kv => decide (kv.1 ≠ k)

theorem valV_nil {k : κ} : valV ([] : List (κ × V)) k = none := rfl
theorem valV_pos {p : κ × V} {r : List (κ × V)} {k : κ} (e : p.1 = k) : valV (p :: r) k = some p.2 := by simp [valV, List.find?_cons, e]
theorem valV_neg {p : κ × V} {r : List (κ × V)} {k : κ} (e : ¬ p.1 = k) : valV (p :: r) k = valV r k := by simp [valV, List.find?_cons, e]
theorem valV_any (k : κ) : ∀ kvs : List (κ × V), (kvs.any fun kv => decide (kv.1 = k)) = (valV kvs k).isSome
  | [] => rfl
  | p :: r => by
    rw [List.any_cons]
    by_cases e : p.1 = k
    · simp only [valV_pos e, decide_eq_true e, Bool.true_or, Option.isSome_some]
    · rw [valV_neg e, decide_eq_false e, Bool.false_or]; exact valV_any k r
theorem valV_map (k j : κ) (y : V) : ∀ kvs : List (κ × V), valV (kvs.map fun kv => if kv.1 = k then (kv.1, y) else kv) j = (valV kvs j).map fun x => if j = k then y else x
  | [] => rfl
  | p :: r => by
    have ih := valV_map k j y r
    rw [List.map_cons]
    by_cases h : p.1 = k
    · rw [if_pos h]
      by_cases e : p.1 = j
      · rw [valV_pos (p := (p.1, y)) e, valV_pos e, Option.map_some, if_pos (e.symm.trans h)]
      · rw [valV_neg (p := (p.1, y)) e, valV_neg e, ih]
    · rw [if_neg h]
      by_cases e : p.1 = j
      · rw [valV_pos (p := p) e, valV_pos e, Option.map_some, if_neg (fun z => h (e.trans z))]
      · rw [valV_neg (p := p) e, valV_neg e, ih]
theorem valV_snoc (k j : κ) (y : V) : ∀ kvs : List (κ × V), valV kvs k = none → valV (kvs ++ [(k, y)]) j = if j = k then some y else valV kvs j
  | [], _ => by
    by_cases e : k = j
    · rw [if_pos e.symm]; exact valV_pos (p := (k, y)) e
    · rw [if_neg (fun z => e z.symm)]; exact valV_neg (p := (k, y)) e
  | p :: r, hn => by
    rw [List.cons_append]
    have hk : ¬ p.1 = k := fun z => by rw [valV_pos z] at hn; cases hn
    rw [valV_neg hk] at hn
    have ih := valV_snoc k j y r hn
    by_cases e : p.1 = j
    · rw [valV_pos e, valV_pos e, if_neg (fun z => hk (e.trans z))]
    · rw [valV_neg e, valV_neg e, ih]
theorem valV_put (kvs : List (κ × V)) (k j : κ) (y : V) : valV (putK kvs k y) j = if j = k then some y else valV kvs j := by
  unfold putK
  by_cases a : (kvs.any fun kv => decide (kv.1 = k)) = true
  · rw [if_pos a, valV_map]
    rw [valV_any] at a
    by_cases e : j = k
    · obtain ⟨x, hx⟩ := Option.isSome_iff_exists.mp a
      rw [if_pos e, e, hx, Option.map_some, if_pos rfl]
    · rw [if_neg e]
      cases valV kvs j with
      | none => rfl
      | some x => rw [Option.map_some, if_neg e]
  · rw [if_neg a]
    refine valV_snoc k j y kvs ?_
    rw [valV_any] at a
    cases q : valV kvs k with
    | none => rfl
    | some x => rw [q] at a; exact (a rfl).elim
theorem length_putK (kvs : List (κ × V)) (k : κ) (v : V) : (putK kvs k v).length ≤ kvs.length + 1 := by
  unfold putK
  split
  · rw [List.length_map]; omega
  · rw [List.length_append, List.length_cons, List.length_nil]; omega
theorem RelO.isSome_eq {o : Option V} {u : Option Value} (r : RelO o u) : o.isSome = u.isSome := by
  cases o with
  | none => cases u with
    | none => rfl
    | some _ => exact (show False from r).elim
  | some _ => cases u with
    | none => exact (show False from r).elim
    | some _ => rfl
theorem RelO.getD {o : Option V} {u : Option Value} {d : V} {d' : Value} (r : RelO o u) (rd : RelV d d') : RelV (o.getD d) (u.getD d') := by
  cases o with
  | none => cases u with
    | none => exact rd
    | some _ => exact (show False from r).elim
  | some _ => cases u with
    | none => exact (show False from r).elim
    | some _ => exact r

/-- raw tables of the same keys -/
theorem KV.val {kvs : List (κ × V)} {vs : List (κ × Value)} (r : KV kvs vs) (k : κ) : RelO (valV kvs k) (valueAt vs k) := by
  unfold KV at r
  induction r with
  | nil => exact True.intro
  | @cons p q ps qs h t ih =>
    obtain ⟨h1, h2⟩ := h
    by_cases e : p.1 = k
    · have e' : q.1 = k := h1.symm.trans e
      have b : valueAt (q :: qs) k = some q.2 := by simp [valueAt, List.find?_cons, e']
      rw [valV_pos e, b]; exact h2
    · have e' : ¬ q.1 = k := fun z => e (h1.trans z)
      have b : valueAt (q :: qs) k = valueAt qs k := by simp [valueAt, List.find?_cons, e']
      rw [valV_neg e, b]; exact ih
theorem KV.any {kvs : List (κ × V)} {vs : List (κ × Value)} (r : KV kvs vs) (k : κ) : (kvs.any fun kv => decide (kv.1 = k)) = vs.any fun kv => decide (kv.1 = k) := by
  unfold KV at r
  induction r with
  | nil => rfl
  | cons h t ih => rw [List.any_cons, List.any_cons, ih, h.1]
theorem KV.drop {kvs : List (κ × V)} {vs : List (κ × Value)} (r : KV kvs vs) (k : κ) : KV (dropK kvs k) (without vs k) := by
  unfold KV at r ⊢
  unfold dropK without
  induction r with
  | nil => exact .nil
  | @cons p q ps qs h t ih =>
    obtain ⟨h1, h2⟩ := h
    rw [List.filter_cons, List.filter_cons]
    by_cases e : p.1 = k
    · have a : ¬ decide (p.1 ≠ k) = true := by simp [e]
      have b : ¬ decide (q.1 ≠ k) = true := by simp [h1.symm.trans e]
      rw [if_neg a, if_neg b]; exact ih
    · have e' : ¬ q.1 = k := fun z => e (h1.trans z)
      have a : decide (p.1 ≠ k) = true := by simp [e]
      have b : decide (q.1 ≠ k) = true := by simp [e']
      rw [if_pos a, if_pos b]; exact .cons ⟨h1, h2⟩ ih
theorem KV.length {kvs : List (κ × V)} {vs : List (κ × Value)} (r : KV kvs vs) : kvs.length = vs.length := Paired.length r
end


/-! ### a tracked dict, its keys ints and texts or tuples of these -/
theorem kV_is {P : Program} {w : World} {k : Key} {u : Value} (r : RelV (kV k) u) : (mixKind P w).is k u = true := by
  cases k with
  | inl i => obtain ⟨t, e⟩ := (show ∃ t, u = Value.int i t from r); subst e; exact mixKind_int P w i t
  | inr x => obtain ⟨t, e⟩ := (show ∃ t, u = Value.str x t from r); subst e; exact mixKind_str P w x t
theorem items_are {P : Program} {w : World} : ∀ {ks : List Key} {us : List Value}, Vals (ks.map kV) us → ItemsAre (mixKind P w) ks us
  | [], _, r => by rw [List.map_nil] at r; cases r; exact .nil
  | k :: ks, _, r => by
    rw [List.map_cons] at r
    cases r with
    | cons h t => exact .cons (kV_is h) (items_are t)

/-- raw entries of a dict with tuple keys -/
noncomputable abbrev KT (H : Hp) : List (List Key × V) → List (List Key × Addr × Value) → Prop := Paired fun p q => p.1 = q.1 ∧ H q.2.1 = some (.tup (p.1.map kV)) ∧ RelV p.2 q.2.2
theorem KT.val {H : Hp} {kvs : List (List Key × V)} {xs : List (List Key × Addr × Value)} (r : KT H kvs xs) (k : List Key) : RelO (valV kvs k) ((atKey xs k).map (·.2)) := by
  induction r with
  | nil => exact True.intro
  | @cons p q ps qs h t ih =>
    obtain ⟨h1, _, h2⟩ := h
    by_cases e : p.1 = k
    · have e' : q.1 = k := h1.symm.trans e
      have b : atKey (q :: qs) k = some q.2 := by simp [atKey, List.find?_cons, e']
      rw [valV_pos e, b]; exact h2
    · have e' : ¬ q.1 = k := fun z => e (h1.trans z)
      have b : atKey (q :: qs) k = atKey qs k := by simp [atKey, List.find?_cons, e']
      rw [valV_neg e, b]; exact ih
theorem KT.repl {H : Hp} {kvs : List (List Key × V)} {xs : List (List Key × Addr × Value)} (r : KT H kvs xs) (k : List Key) {y : V} {u : Value} (ry : RelV y u) :
    KT H (kvs.map fun kv => if kv.1 = k then (kv.1, y) else kv) (xs.map (putAt k u)) := by
  induction r with
  | nil => exact .nil
  | @cons p q ps qs h t ih =>
    rw [List.map_cons, List.map_cons]
    refine .cons ?_ ih
    obtain ⟨h1, h2, h3⟩ := h
    unfold putAt
    by_cases e : p.1 = k
    · rw [if_pos e, if_pos (h1.symm.trans e)]; exact ⟨h1, h2, ry⟩
    · rw [if_neg e, if_neg (fun z => e (h1.trans z))]; exact ⟨h1, h2, h3⟩
theorem KT.put {H : Hp} {kvs : List (List Key × V)} {xs : List (List Key × Addr × Value)} (r : KT H kvs xs) (k : List Key) {b : Addr} {y : V} {u : Value} (hb : H b = some (.tup (k.map kV))) (ry : RelV y u) :
    KT H (putK kvs k y) (storedH xs k b u) := by
  have e : (kvs.any fun kv => decide (kv.1 = k)) = (atKey xs k).isSome := by
    rw [valV_any, (r.val k).isSome_eq, Option.isSome_map]
  unfold putK storedH
  rw [e]
  by_cases q : (atKey xs k).isSome = true
  · rw [if_pos q, if_pos q]; exact r.repl k ry
  · rw [if_neg q, if_neg q]; exact Paired.snoc r ⟨rfl, hb, ry⟩
theorem KT.keeps {H H' : Hp} {kvs : List (List Key × V)} {xs : List (List Key × Addr × Value)} (r : KT H kvs xs) (ht : ∀ b ys, H b = some (.tup ys) → H' b = some (.tup ys)) : KT H' kvs xs :=
  Paired.mapP r fun _ _ z => ⟨z.1, ht _ _ z.2.1, z.2.2⟩

section
variable {P : Program} {w : World} {H : Hp} {h : Heap} {a : Addr}
theorem rd_of {u : HO} (ok : HOk P w H h) (e : Rd H a u) : ObjOk P w H h a u := e.ok ok
theorem dk_rd {kvs : List (Key × V)} (ok : HOk P w H h) (e : Rd H a (.dK kvs)) : kvs.length ≤ sizeLine ∧ (a == sysModules) = false ∧ ∃ vs, KV kvs vs ∧ h.DictOf (mixKind P w) a vs :=
  show ObjOk P w H h a (.dK kvs) from rd_of ok e
/-- a tracked tuple of ints and texts is a key -/
theorem key_of {ks : List Key} (ok : HOk P w H h) (e : H a = some (.tup (ks.map kV))) : (tupleKind (mixKind P w)).is h ks a := by
  obtain ⟨_, its, r, o, h1, h2, n, h3⟩ := (show ObjOk P w H h a (.tup (ks.map kV)) from ok a _ e)
  exact ⟨o, its.toArray, n, h1, h2, h3, by simpa using items_are r⟩
theorem dt_rd {kvs : List (List Key × V)} (ok : HOk P w H h) (e : Rd H a (.dT kvs)) : kvs.length ≤ sizeLine ∧ (a == sysModules) = false ∧
    ∃ xs, KT H kvs xs ∧ h.DictOfH (tupleKind (mixKind P w)) a xs := by
  obtain ⟨z, y, xs, r, o, es, ep, h1, h2, h3, h4, h5⟩ := (show ObjOk P w H h a (.dT kvs) from rd_of ok e)
  refine ⟨z, y, xs, r, o, es, ep, h1, h2, h3, h4, fun x hx => ?_, h5⟩
  have all : ∀ {l : List (List Key × V)} {m : List (List Key × Addr × Value)}, KT H l m → ∀ x ∈ m, (tupleKind (mixKind P w)).is h x.1 x.2.1 := by
    intro l m q
    induction q with
    | nil => intro x hx; exact nomatch hx
    | @cons p q ps qs hq t ih =>
      intro x hx
      rcases List.mem_cons.mp hx with e | hx
      · subst e
        exact key_of ok (by rw [← hq.1]; exact hq.2.1)
      · exact ih x hx
  exact all r x hx
theorem dt_of {kvs : List (List Key × V)} (ok : HOk P w H h) (e : H a = some (.dT kvs)) : kvs.length ≤ sizeLine ∧ (a == sysModules) = false ∧
    ∃ xs, KT H kvs xs ∧ h.DictOfH (tupleKind (mixKind P w)) a xs := dt_rd ok (.inl e)
end

/-- what the dict at a holds at the key y -/
noncomputable def DGet (H : Hp) (a : Addr) (y : V) (r : Option V) : Prop :=
  (∃ kvs k, Rd H a (.dK kvs) ∧ y = kV k ∧ r = valV kvs k) ∨ ∃ kvs k b, Rd H a (.dT kvs) ∧ y = .ref b ∧ H b = some (.tup (k.map kV)) ∧ r = valV kvs k
/-- the heap behind a[y] = v -/
noncomputable def DPut (H : Hp) (a : Addr) (y v : V) (H' : Hp) : Prop :=
  (∃ kvs k, H a = some (.dK kvs) ∧ y = kV k ∧ kvs.length < sizeLine ∧ H' = upd H a (.dK (putK kvs k v))) ∨
  ∃ kvs k b, H a = some (.dT kvs) ∧ y = .ref b ∧ H b = some (.tup (k.map kV)) ∧ kvs.length < sizeLine ∧ H' = upd H a (.dT (putK kvs k v))
theorem DGet.k {H : Hp} {a : Addr} {kvs : List (Key × V)} {k : Key} (e : H a = some (.dK kvs)) : DGet H a (kV k) (valV kvs k) := .inl ⟨kvs, k, .inl e, rfl, rfl⟩
theorem DGet.t {H : Hp} {a b : Addr} {kvs : List (List Key × V)} {k : List Key} (e : H a = some (.dT kvs)) (eb : H b = some (.tup (k.map kV))) : DGet H a (.ref b) (valV kvs k) := .inr ⟨kvs, k, b, .inl e, rfl, eb, rfl⟩
theorem DPut.k {H : Hp} {a : Addr} {kvs : List (Key × V)} {k : Key} {v : V} (e : H a = some (.dK kvs)) (hl : kvs.length < sizeLine) : DPut H a (kV k) v (upd H a (.dK (putK kvs k v))) := .inl ⟨kvs, k, e, rfl, hl, rfl⟩
theorem DPut.t {H : Hp} {a b : Addr} {kvs : List (List Key × V)} {k : List Key} {v : V} (e : H a = some (.dT kvs)) (eb : H b = some (.tup (k.map kV))) (hl : kvs.length < sizeLine) :
    DPut H a (.ref b) v (upd H a (.dT (putK kvs k v))) := .inr ⟨kvs, k, b, e, rfl, eb, hl, rfl⟩


section
variable {X : Cx} {pins : List (Addr × Obj)} {σ : St} {H : Hp} {s : Shared} {a : Addr} {y v : V} {u r : Value} {o : Option V} {A : Around} {E : Value → Shared → Prop}

theorem Inv.big (I : Inv X pins σ H s) : sysModules < s.heap.objs.size := by
  have h : mainGlobals < s.heap.objs.size := (I.mod.glob.keeps I.bk).lt
  exact Nat.lt_trans (by decide) h

/-- d[y], there -/
theorem d_getItem {Q : Value → Shared → Prop} (hu : A.units + 1 < cLine) (I : Inv X pins σ H s) (g : DGet H a y (some v)) (ry : RelV y u) (h : ∀ w' s', Inv X pins σ H s' → RelV v w' → Q w' s') :
    wpAny (model X.prog X.w) A (getItem (.ref a) u) Q E s := by
  rcases g with ⟨kvs, k, e, ey, l⟩ | ⟨kvs, k, b, e, ey, eb, l⟩
  · subst ey
    obtain ⟨z, hd, vs, rel, dd⟩ := dk_rd I.hok e
    obtain ⟨w', hw, rw'⟩ := RelO.some_of (v := v) (o := valueAt vs k) (by rw [l]; exact rel.val k)
    exact wpAny_getItem_of (kV_is ry) dd.mapOf hw (h w' _ (I.tok _) rw')
  · subst ey
    cases (show u = Value.ref b from ry)
    obtain ⟨z, hd, xs, rel, dd⟩ := dt_rd I.hok e
    obtain ⟨w', hw, rw'⟩ := RelO.some_of (v := v) (o := (atKey xs k).map (·.2)) (by rw [l]; exact rel.val k)
    obtain ⟨p, hp, hp2⟩ := Option.map_eq_some_iff.mp hw
    refine wpAny_getItem_heap (tupleKind_room_in1 hu) (key_of I.hok eb) dd hp ?_
    rw [hp2]
    exact h w' _ (I.tok _) rw'
/-- a dict's object is replaced -/
theorem d_write {h' : Heap} {t' : Nat} {ob : HO} (I : Inv X pins σ H s) (mu : Mut (H a)) (hs : Heap.SameBut a s.heap h') (he : ∃ q, h'.get? a = some q) (new : ObjOk X.prog X.w (upd H a ob) h' a ob) :
    Inv X pins σ (upd H a ob) { s with heap := h', toks := t' } :=
  I.write (x := a) (e := a) mu (.inl rfl) (fun b q hb z => (hs.2 b hb).trans z) he new
end

section
variable {X : Cx} {pins : List (Addr × Obj)} {σ : St} {H : Hp} {s : Shared} {a : Addr} {kvs : List (Key × V)} {k : Key} {u : Value} {A : Around} {E : Value → Shared → Prop}
end


/-! ### readings and rules -/
/-- the element of a subscription, not a slice -/
theorem dict_typeIs {X : Cx} {pins : List (Addr × Obj)} {σ : St} {H : Hp} {s : Shared} {a : Addr} {y : V} {o : Option V} (I : Inv X pins σ H s) (g : DGet H a y o) : s.TypeIs (.ref a) "dict" := by
  rcases g with ⟨kvs, k, e, _, _⟩ | ⟨kvs, k, b, e, _, _, _⟩
  · obtain ⟨_, _, vs, _, dd⟩ := dk_rd I.hok e
    exact dd.typeIs
  · obtain ⟨_, _, xs, _, dd⟩ := dt_rd I.hok e
    exact dd.typeIs
section
variable {X : Cx} {o i e value : Expr} {pos pos' tpos : Pos} {td ty tv : TE}
end


/-! ### displays -/
section
variable {X : Cx} {pos : Pos}
end


end L2

namespace Cv
/-! sizes -/
structure Sz (n : Nat) (x : Int) : Prop where
  lt : x.natAbs < 2 ^ n
theorem Sz.mono {n m : Nat} {x : Int} (h : Sz n x) (hm : n ≤ m) : Sz m x := ⟨Nat.lt_of_lt_of_le h.lt (Nat.pow_le_pow_right (by decide) hm)⟩
theorem Sz.le {n : Nat} {x y : Int} (h : Sz n x) (hy : y.natAbs ≤ x.natAbs) : Sz n y := ⟨Nat.lt_of_le_of_lt hy h.lt⟩
theorem Sz.mul {n m : Nat} {x y : Int} (h : Sz n x) (k : Sz m y) : Sz (n + m) (x * y) := by
  refine ⟨?_⟩
  rw [Int.natAbs_mul, Nat.pow_add]
  exact Nat.mul_lt_mul'' h.lt k.lt
theorem Sz.add {n m : Nat} {x y : Int} (h : Sz n x) (k : Sz m y) : Sz (max n m + 1) (x + y) := by
  refine ⟨?_⟩
  have h1 := (h.mono (Nat.le_max_left n m)).lt
  have h2 := (k.mono (Nat.le_max_right n m)).lt
  have h3 := Int.natAbs_add_le x y
  rw [Nat.pow_succ]
  omega
theorem Sz.neg {n : Nat} {x : Int} (h : Sz n x) : Sz n (-x) := ⟨by rw [Int.natAbs_neg]; exact h.lt⟩
theorem Sz.sub {n m : Nat} {x y : Int} (h : Sz n x) (k : Sz m y) : Sz (max n m + 1) (x - y) := by
  rw [Int.sub_eq_add_neg]
  exact h.add k.neg
theorem Sz.one : Sz 1 1 := ⟨by decide⟩
theorem Sz.zero : Sz 0 0 := ⟨by decide⟩
/-! a fraction's size -/
structure Bd (n : Nat) (q : Rat) : Prop where
  num : Sz n q.num
  den : Sz n (q.den : Int)
theorem Bd.mono {n m : Nat} {q : Rat} (h : Bd n q) (hm : n ≤ m) : Bd m q := ⟨h.num.mono hm, h.den.mono hm⟩
theorem num_le (a b : Int) (hb : b ≠ 0) : (Rat.divInt a b).num.natAbs ≤ a.natAbs ∧ (Rat.divInt a b).den ≤ b.natAbs := by
  refine ⟨?_, ?_⟩
  · rw [Rat.num_divInt]
    have h2 : (b.sign * a).natAbs = a.natAbs := by
      rw [Int.natAbs_mul, Int.natAbs_sign_of_ne_zero hb, Nat.one_mul]
    have hd : (b.gcd a : Int) ∣ b.sign * a := Int.dvd_mul_of_dvd_right (Int.gcd_dvd_right ..)
    rw [← h2]
    have := Int.natAbs_ediv_of_dvd hd
    rw [this]
    exact Nat.div_le_self _ _
  · rw [Rat.den_divInt, if_neg hb]
    exact Nat.div_le_self _ _
theorem Bd.of {n m : Nat} {a b : Int} (ha : Sz n a) (hb : Sz m b) (h0 : b ≠ 0) : Bd (max n m) (Rat.divInt a b) :=
  ⟨(ha.mono (Nat.le_max_left n m)).le (num_le a b h0).1, (hb.mono (Nat.le_max_right n m)).le (by rw [Int.natAbs_natCast]; exact (num_le a b h0).2)⟩
theorem den_ne (q : Rat) : (q.den : Int) ≠ 0 := by have := q.den_pos; omega
theorem add_eq (a b : Rat) : Rat.divInt (a.num * b.den + b.num * a.den) ((a.den : Int) * b.den) = a + b := by
  have := Rat.divInt_add_divInt a.num b.num (den_ne a) (den_ne b)
  rw [Rat.num_divInt_den, Rat.num_divInt_den] at this
  exact this.symm
theorem sub_eq (a b : Rat) : Rat.divInt (a.num * b.den - b.num * a.den) ((a.den : Int) * b.den) = a - b := by
  have := Rat.divInt_sub_divInt a.num b.num (den_ne a) (den_ne b)
  rw [Rat.num_divInt_den, Rat.num_divInt_den] at this
  exact this.symm
theorem mul_eq (a b : Rat) : Rat.divInt (a.num * b.num) ((a.den : Int) * b.den) = a * b := by
  have := Rat.divInt_mul_divInt a.num b.num (d₁ := a.den) (d₂ := b.den)
  rw [Rat.num_divInt_den, Rat.num_divInt_den] at this
  exact this.symm
theorem den_mul_ne (a b : Rat) : (a.den : Int) * b.den ≠ 0 := Int.mul_ne_zero (den_ne a) (den_ne b)
theorem Bd.add {n m : Nat} {a b : Rat} (h : Bd n a) (k : Bd m b) : Bd (n + m + 1) (a + b) := by
  rw [← add_eq]
  exact (Bd.of ((h.num.mul k.den).add (k.num.mul h.den)) (h.den.mul k.den) (den_mul_ne a b)).mono (by omega)
theorem Bd.sub {n m : Nat} {a b : Rat} (h : Bd n a) (k : Bd m b) : Bd (n + m + 1) (a - b) := by
  rw [← sub_eq]
  exact (Bd.of ((h.num.mul k.den).sub (k.num.mul h.den)) (h.den.mul k.den) (den_mul_ne a b)).mono (by omega)
theorem Bd.mul {n m : Nat} {a b : Rat} (h : Bd n a) (k : Bd m b) : Bd (n + m) (a * b) := by
  rw [← mul_eq]
  exact (Bd.of (h.num.mul k.num) (h.den.mul k.den) (den_mul_ne a b)).mono (by omega)
/-! the share of two whole numbers, as it is reckoned -/
theorem share_pos (t b : Int) (hb : 0 < b) : t.fdiv (Int.gcd t b) = (Rat.divInt t b).num ∧ b.fdiv (Int.gcd t b) = ((Rat.divInt t b).den : Int) := by
  rw [Rat.num_divInt, Rat.den_divInt, if_neg (by omega), Int.sign_eq_one_of_pos hb, Int.one_mul, Int.gcd_comm b t]
  refine ⟨Int.fdiv_eq_ediv_of_nonneg _ (Int.natCast_nonneg _), ?_⟩
  rw [Int.fdiv_eq_ediv_of_nonneg _ (Int.natCast_nonneg _), Int.natCast_ediv, Int.natAbs_of_nonneg (Int.le_of_lt hb)]
theorem gcd_step (a b : Int) : Int.gcd b (a.fmod b) = Int.gcd a b := by
  rw [Int.fmod_def, Int.sub_eq_add_neg, ← Int.mul_neg, Int.gcd_add_mul_left_right, Int.gcd_comm]
theorem fmod_lt (a b : Int) (hb : b ≠ 0) : (a.fmod b).natAbs < b.natAbs := by
  rw [Int.fmod_eq_emod]
  have h1 := Int.emod_nonneg a hb
  have h2 := Int.emod_lt a hb
  by_cases h : 0 ≤ b ∨ b ∣ a
  · rw [if_pos h]; omega
  · rw [if_neg h]
    have h3 : a % b ≠ 0 := fun z => h (.inr (Int.dvd_of_emod_eq_zero z))
    omega
theorem gcd_zero (a : Int) : (if a < 0 then -a else a) = (Int.gcd a 0 : Int) := by
  rw [Int.gcd_zero]
  split <;> omega
theorem gcd_pos' (t b : Int) (hb : b ≠ 0) : (Int.gcd t b : Int) ≠ 0 := by
  have := Int.gcd_pos_of_ne_zero_right t hb
  omega
end Cv
namespace Cv
theorem divInt_cast (a b : Int) : Rat.divInt a b = (a : Rat) / (b : Rat) := Rat.divInt_eq_div a b
theorem num_cast (q : Rat) : (q.num : Rat) = q * ((q.den : Int) : Rat) := by
  have h := Rat.num_divInt_den q
  rw [Rat.divInt_eq_div] at h
  have hd : ((q.den : Int) : Rat) ≠ 0 := by
    intro z
    exact den_ne q (by exact_mod_cast z)
  conv => rhs; rw [← h]
  grind
theorem den_cast_ne (q : Rat) : ((q.den : Int) : Rat) ≠ 0 := by
  intro z
  exact den_ne q (by exact_mod_cast z)
/-- a quotient of whole numbers, by what it is worth -/
theorem eq_divInt {q : Rat} {t b : Int} (hb : b ≠ 0) (h : q * (b : Rat) = (t : Rat)) : q = Rat.divInt t b := by
  rw [Rat.divInt_eq_div]
  have hb' : (b : Rat) ≠ 0 := by
    intro z
    exact hb (by exact_mod_cast z)
  grind
end Cv

namespace Cv
open PySem PySem.Spec PyProof.Rows L2
section
variable {X : Cx}
/-! ### products and quotients of greater numbers -/
noncomputable def CMulB (i j : Int) : Prop := ∃ n m, Sz n i ∧ Sz m j ∧ n + m ≤ 100000000
noncomputable def CDivB (_i j : Int) : Prop := j ≠ 0 ∧ Sz 9000 j
theorem op_fdivB : OpR X (binaryOp .FloorDiv) (rI CDivB fun i j => .int (i.fdiv j)) := opI fun i j _ _ _ _ _ hc q => by
  obtain ⟨h0, h1⟩ := hc
  refine floordiv_int h0 q (.inl (PyProof.noPylong_of_log2 ?_))
  have hp : j.natAbs ≠ 0 := by omega
  exact (Nat.log2_lt hp).mpr h1.lt
/-! ### isinstance -/
theorem vals_one {x : V} {us : List Value} (r : Vals [x] us) : ∃ u, us = [u] ∧ RelV x u := by
  cases r with
  | cons p q => cases q; exact ⟨_, rfl, p⟩
theorem vals_two {x y : V} {us : List Value} (r : Vals [x, y] us) : ∃ u v, us = [u, v] ∧ RelV x u ∧ RelV y v := by
  cases r with
  | cons p q =>
    obtain ⟨v, rfl, p'⟩ := vals_one q
    exact ⟨_, _, rfl, p, p'⟩
theorem call_isi : CallR X (.builtin "isinstance") (fun xs H Q => ∃ x T t b, xs = [x, .ty T] ∧ TyOf X.K H x t ∧ PySem.W.kitOne X.K t (.type T) = some b ∧ Q (.bl b) H) := by
  intro pins s σ H xs us Q I r h
  obtain ⟨x, T, t, b, rfl, ty, e, q⟩ := h
  obtain ⟨u, v, rfl, ru, rv⟩ := vals_two r
  cases rv
  exact isinst_ok I ru ty e fun tk => ⟨.bl b, H, I.tok tk, rfl, q⟩
/-! ### data -/
mutual
/-- v is the data d -/
noncomputable def Dn (K : PySem.W.Frag) (H : Hp) : PySem.W.Dat → V → Prop
  | .none, v => v = .non
  | .bool b, v => v = .bl b
  | .int i, v => v = .int i
  | .str x, v => v = .str x
  | .bytes _, _ => False
  | .tuple ds, v => ∃ a xs, v = .ref a ∧ SqT K H a xs ∧ DnAll K H ds xs
  | .list ds, v => ∃ a xs, v = .ref a ∧ SqL K H a xs ∧ DnAll K H ds xs
noncomputable def DnAll (K : PySem.W.Frag) (H : Hp) : List PySem.W.Dat → List V → Prop
  | [], xs => xs = []
  | d :: ds, xs => ∃ y ys, xs = y :: ys ∧ Dn K H d y ∧ DnAll K H ds ys
end
mutual
theorem dn_reads {pins : List (Addr × Obj)} {σ : L2.St} {H : Hp} {s : Shared} (I : Inv X pins σ H s) : ∀ (n : Nat) (d : PySem.W.Dat) (v : V) (u : Value), Dn X.K H d v → RelV v u → PySem.W.kqdOk n d = true → ∃ as, Reads s.heap u (PySem.W.kqdP d) as
  | n, .none, v, u, h, r, _ => by
    cases (show v = .non from by simpa [Dn] using h); cases r
    rw [PySem.W.kqdP]; exact ⟨_, Reads.none⟩
  | n, .bool b, v, u, h, r, _ => by
    cases (show v = .bl b from by simpa [Dn] using h); cases r
    rw [PySem.W.kqdP]; exact ⟨_, Reads.bool b⟩
  | n, .int i, v, u, h, r, _ => by
    cases (show v = .int i from by simpa [Dn] using h)
    obtain ⟨t, rfl⟩ := r
    rw [PySem.W.kqdP]; exact ⟨_, Reads.int i t⟩
  | n, .str x, v, u, h, r, _ => by
    cases (show v = .str x from by simpa [Dn] using h)
    obtain ⟨t, rfl⟩ := r
    rw [PySem.W.kqdP]; exact ⟨_, Reads.str x t⟩
  | n, .bytes b, v, u, h, r, _ => by simp [Dn] at h
  | 0, .tuple ds, v, u, h, r, hk => by simp [PySem.W.kqdOk] at hk
  | 0, .list ds, v, u, h, r, hk => by simp [PySem.W.kqdOk] at hk
  | n + 1, .tuple ds, v, u, h, r, hk => by
    rw [Dn] at h
    obtain ⟨a, xs, rfl, hs, hd⟩ := h
    cases r
    obtain ⟨its, rv, ⟨o, ho, hc, m, hdt⟩, hz⟩ := I.tuple hs
    obtain ⟨as, q⟩ := dn_readsAll I n ds xs its hd rv (by simpa [PySem.W.kqdOk] using hk)
    rw [PySem.W.kqdP]
    exact ⟨as, reads_tuple_at ho hc hdt (by simpa using q)⟩
  | n + 1, .list ds, v, u, h, r, hk => by
    rw [Dn] at h
    obtain ⟨a, xs, rfl, hs, hd⟩ := h
    cases r
    obtain ⟨its, rv, pl, hz⟩ := I.list hs
    obtain ⟨o, ho, hc, m, hdt⟩ := pl.isList
    obtain ⟨as, q⟩ := dn_readsAll I n ds xs its hd rv (by simpa [PySem.W.kqdOk] using hk)
    rw [PySem.W.kqdP]
    exact ⟨_, reads_list_at ho hc hdt (by simpa using q)⟩
theorem dn_readsAll {pins : List (Addr × Obj)} {σ : L2.St} {H : Hp} {s : Shared} (I : Inv X pins σ H s) : ∀ (n : Nat) (ds : List PySem.W.Dat) (xs : List V) (us : List Value), DnAll X.K H ds xs → Vals xs us → (∀ d ∈ ds, PySem.W.kqdOk n d = true) → ∃ as, ReadsAll s.heap us (PySem.W.kqdPs ds) as
  | n, [], xs, us, h, r, _ => by
    cases (show xs = [] from by simpa [DnAll] using h)
    cases r
    rw [PySem.W.kqdPs]; exact ⟨_, ReadsAll.nil⟩
  | n, d :: ds, xs, us, h, r, hk => by
    rw [DnAll] at h
    obtain ⟨y, ys, rfl, h1, h2⟩ := h
    cases r with
    | cons p q =>
      obtain ⟨as, r1⟩ := dn_reads I n d y _ h1 p (hk d (.head _))
      obtain ⟨bs, r2⟩ := dn_readsAll I n ds ys _ h2 q fun e he => hk e (.tail _ he)
      rw [PySem.W.kqdPs]
      exact ⟨_, ReadsAll.cons r1 r2⟩
end
theorem shaped_ok {d : PySem.W.Dat} (h : PySem.W.kqdOk 8 d = true) : SeqAt.shaped (PySem.W.kqdP d) = true := by
  have la := PySem.W.kqd_lay 8 d h
  unfold SeqAt.shaped; rw [la.1, Bool.true_and]; exact decide_eq_true (Nat.le_trans la.2 (by decide))
noncomputable def rEqD (K : PySem.W.Frag) : R2 := fun x y H Q => ∃ d e, Dn K H d x ∧ Dn K H e y ∧ PySem.W.kqdOk 8 d = true ∧ PySem.W.kqdOk 8 e = true ∧ ∀ b : Bool, (b = true ↔ d = e) → Q (.bl b) H
noncomputable def rNeD (K : PySem.W.Frag) : R2 := fun x y H Q => ∃ d e, Dn K H d x ∧ Dn K H e y ∧ PySem.W.kqdOk 8 d = true ∧ PySem.W.kqdOk 8 e = true ∧ ∀ b : Bool, (b = true ↔ d = e) → Q (.bl (!b)) H
theorem op_eqD (hu : X.A.units + 64 < cLine) : OpR X (compareOp .Eq) (rEqD X.K) := by
  intro pins s σ H x y v u Q I rx ry h
  obtain ⟨d, e, hd, he, k1, k2, q⟩ := h
  obtain ⟨as, r1⟩ := dn_reads I 8 d x v hd rx k1
  obtain ⟨bs, r2⟩ := dn_reads I 8 e y u he ry k2
  exact eq_dataH r1 r2 (shaped_ok k1) (shaped_ok k2) hu ⟨.bl _, H, I, rfl, q _ (PySem.W.kqd_eqv 8 d e 8 k1 k2)⟩
theorem op_neD (hu : X.A.units + 64 < cLine) : OpR X (compareOp .NotEq) (rNeD X.K) := by
  intro pins s σ H x y v u Q I rx ry h
  obtain ⟨d, e, hd, he, k1, k2, q⟩ := h
  obtain ⟨as, r1⟩ := dn_reads I 8 d x v hd rx k1
  obtain ⟨bs, r2⟩ := dn_reads I 8 e y u he ry k2
  exact ne_dataH r1 r2 (shaped_ok k1) (shaped_ok k2) hu ⟨.bl _, H, I, rfl, q _ (PySem.W.kqd_eqv 8 d e 8 k1 k2)⟩
end
/-! ### shares -/
noncomputable def ShV (H : Hp) (v : V) (q : Rat) : Prop := ∃ a, v = .ref a ∧ H a = some (.tup [.int q.num, .int (q.den : Int)])
theorem ShV.same {H H' : Hp} {v : V} {q : Rat} (h : ShV H v q) (e : Same H H') : ShV H' v q := by
  obtain ⟨a, rfl, h⟩ := h
  exact ⟨a, rfl, e _ _ h⟩
noncomputable def datSh (q : Rat) : PySem.W.Dat := .tuple [.int q.num, .int (q.den : Int)]
theorem datSh_ok (q : Rat) (n : Nat) : PySem.W.kqdOk (n + 1) (datSh q) = true := by
  cases n <;> simp [datSh, PySem.W.kqdOk]
theorem ShV.dn {K : PySem.W.Frag} {H : Hp} {v : V} {q : Rat} (h : ShV H v q) : Dn K H (datSh q) v := by
  obtain ⟨a, rfl, h⟩ := h
  unfold datSh
  simp only [Dn, DnAll]
  exact ⟨a, _, rfl, SqT.of h, _, _, rfl, rfl, _, _, rfl, rfl, rfl⟩
theorem Same.new {H : Hp} {p : Addr} {o : HO} (h : H p = none) : Same H (upd H p o) := fun b u e => by
  rw [upd_ne (ne_of_none e h)]; exact e
theorem SqT.same {K : PySem.W.Frag} {H H' : Hp} {a : Addr} {xs : List V} (e : Same H H') (h : SqT K H a xs) : SqT K H' a xs := by
  rcases h with (h | ⟨o, h⟩) | h
  · exact .inl (.inl (e _ _ h))
  · exact .inl (.inr ⟨o, e _ _ h⟩)
  · exact .inr h
end Cv

namespace Cv
open PySem PySem.Spec PyProof.Rows L2
/-! ### a def of the text, in one word -/
/-- a def of the module as the top left it -/
structure FunAt (K : PySem.W.Frag) (mg : Str → Option Value) (x : Str) (st : Stmt) (ps : List Str) : Prop where
  ex : ∃ (f : Addr) (fd : FuncData), Fun K x x st f fd ∧ mg x = some (.ref f) ∧ Binds K fd ps []
structure DefOk (P : Program) (w : World) (K : PySem.W.Frag) (mg : Str → Option Value) (base : Heap) (CX : CXT) (k : Nat) (x : Str) (ps : List Str) (sp : Sp) : Prop where
  ex : ∃ (f : Addr) (fd : FuncData), FnOk P w K mg base CX k f fd ps sp ∧ mg x = some (.ref f) ∧ PySem.W.keepIn K (.ref f) = true ∧ Binds K fd ps [] ∧
    ∃ (oc : Value) (od : Option Addr) (osl : Array (Option Value)), K.lookup f = some ⟨oc, od, .func fd, osl⟩
/-- the names that the module leaves to the builtins -/
structure Blt (mg : Str → Option Value) : Prop where
  len : mg "len" = none
  abs : mg "abs" = none
  range : mg "range" = none
  max : mg "max" = none
  min : mg "min" = none
  any : mg "any" = none
  all : mg "all" = none
  sum : mg "sum" = none
  isinstance : mg "isinstance" = none
  int : mg "int" = none
  bool : mg "bool" = none
  tuple : mg "tuple" = none
  list : mg "list" = none
  str : mg "str" = none
  ValueError : mg "ValueError" = none
  zip : mg "zip" = none
  reversed : mg "reversed" = none
  enumerate : mg "enumerate" = none
  sorted : mg "sorted" = none
  dict : mg "dict" = none
section
variable {P : Program} {w : World} {K : PySem.W.Frag} {mg : Str → Option Value} {base : Heap}
theorem FunAt.mk' {x : Str} {st : Stmt} {ps : List Str} {f : Addr} {oc : Value} {od an : Option Addr} {osl : Array (Option Value)} {kV doc pm cdv ct : Value} (hm : mg x = some (.ref f))
    (l : K.lookup f = some ⟨oc, od, .func (PySem.W.fnOf x x (defArgs st) (defBody st) (defScope st) .none kV doc pm an cdv ct), osl⟩)
    (c : PySem.W.codeIn K cdv x = true) (k : PySem.W.keepIn K (.ref f) = true)
    (h : ∀ (kV doc pm : Value) (an : Option Addr) (cdv ct : Value) (us : List Value), us.length = ps.length → bindArgs (PySem.W.fnOf x x (defArgs st) (defBody st) (defScope st) .none kV doc pm an cdv ct) ⟨us, []⟩ = pure (ps.zip us)) : FunAt K mg x st ps := by
  have F := fun_mk (st := st) l c k
  exact ⟨_, _, F, hm, F.binds h⟩
theorem def_ok {x : Str} {st : Stmt} {N ps : List Str} {k : Nat} {sp : Sp} (F : FunAt K mg x st ps) (S : FnScope N ps (defScope st)) (len : ∀ vs H Q E, sp vs H Q E → vs.length = ps.length)
    (hbody : ∀ (f : Addr) (cdv : Value) (A : Around) (outer : List Env) (s : Shared) (H : Hp) (vs : List V) (Q : VK) (E : XK), Room k (A.deeper (envOfC x (defScope st) s.heap.objs.size f cdv)) → sp vs H Q E →
      ∃ t, PSs (cxOf CX0 P w K mg base N x (defScope st) f cdv A outer s H E).nox (defBody st) t ∧ t { nx := fun _ H' => Q .non H', rt := Q } (start N vs) H) : DefOk P w K mg base CX0 (k + 1) x ps sp := by
  obtain ⟨f, fd, F, hm, hb⟩ := F.ex
  exact ⟨f, fd, F.ok S len fun cdv A outer s H vs Q E hr h => hbody f cdv A outer s H vs Q E hr h, hm, F.kp, hb, let ⟨oc, od, _, _, _, _, _, _, osl, _, l, _⟩ := F.ex; ⟨oc, od, osl, l⟩⟩
end
section
variable {X : Cx} {CX : CXT} {k j : Nat} {ps : List Str} {sp : Sp} {E : XK} {x : Str} {p pos : Pos} {e : Expr} {es : List Expr} {t : TA}
noncomputable def tFn (sp : Sp) (E : XK) (t : TA) : TE := fun σ H Q => t σ H fun vs H1 => sp vs H1 Q E
theorem pe_fn (D : DefOk X.prog X.w X.K X.mg X.base CX k x ps sp) (hr : Room j X.A) (hx : Passes CX X E) (ha : PA X (e :: es) t) (hk : k ≤ j := by decide) (hg : Gl X x := by rfl)
    (hdb : (x == ("__debug__" : Str)) = false := by decide) (he : starEach (e :: es) X.env = (false, eval e X.env) :: starEach es X.env := by rfl) (hpl : (backTo pos (starEach es X.env)).any (·.1) = false := by rfl) :
    PE X (.Call (.Name x p) (e :: es) [] pos) (tFn sp E t) := by
  obtain ⟨f, fd, F, hm, kp, hb, _⟩ := D.ex
  intro pins s σ H Q I h
  have q := pe_call (X := X) (p := p) (pos := pos) F (hr.mono hk) hg hm kp hb .nil hx ha hdb he hpl
  refine q pins s σ H Q I ?_
  unfold tCall
  have e : (fun (vs : List V) (H1 : Hp) => sp (vs ++ []) H1 Q E) = fun vs H1 => sp vs H1 Q E := by
    funext vs H1
    rw [List.append_nil]
  rw [e]
  exact h
end
end Cv

namespace Cv
open PySem PySem.Spec PyProof.Rows L2
section
variable {X : Cx}
noncomputable def CMulA (i j : Int) : Prop := CMul i j ∨ CMulB i j
theorem op_mulA : OpR X (binaryOp .Mult) (rI CMulA fun i j => .int (i * j)) := opI fun i j _ _ _ _ _ hc q => by
  rcases hc with hc | ⟨n, m, h1, h2, h3⟩
  · exact mul_int q hc.ok
  · exact mul_int q (IntMulOk.of_le (PySem.intBits_le_iff.mpr h1.lt) (PySem.intBits_le_iff.mpr h2.lt) (by omega))
end
theorem mulL {i j : Int} (h1 : -(2 ^ 64) < i) (h2 : i < 2 ^ 64) : CMulA i j := .inl (.inl ⟨h1, h2⟩)
theorem mulR {i j : Int} (h1 : -(2 ^ 64) < j) (h2 : j < 2 ^ 64) : CMulA i j := .inl (.inr ⟨h1, h2⟩)
theorem mulB {n m : Nat} {i j : Int} (h1 : Sz n i) (h2 : Sz m j) (h : n + m ≤ 100000000 := by decide) : CMulA i j := .inr ⟨n, m, h1, h2, h⟩
/-! ### the promises -/
noncomputable def spGcd : Sp := fun vs H Q _ => ∃ a b : Int, vs = [.int a, .int b] ∧ Q (.int (Int.gcd a b)) H
/-! the law's own helpers -/
noncomputable def spCell (K : PySem.W.Frag) : Sp := fun vs H Q _ => ∃ (a : Addr) (ns : List Int) (k : Int), vs = [.ref a, .int k] ∧ SqL K H a (ns.map V.int) ∧ 0 ≤ k ∧ ∀ z, Q (.int z) H
noncomputable def spLShare : Sp := fun vs H Q _ => ∃ t b : Int, vs = [.int t, .int b] ∧ 0 < b ∧ Sz 9000 b ∧ ∀ v H', Same H H' → ShV H' v (Rat.divInt t b) → Q v H'
noncomputable def spLaw (K : PySem.W.Frag) : Sp := fun vs H Q _ => ∃ (a : Addr) (ns : List Int), vs = [.ref a] ∧ SqL K H a (ns.map V.int) ∧ ns.length ≤ 63 ∧ ∀ H', Q (.bl true) H'
/-! ### tests -/
theorem ite_dec {c : Prop} [Decidable c] {A B : Prop} (h1 : c → A) (h2 : ¬ c → B) : if decide c = true then A else B := by
  by_cases h : c
  · rw [if_pos (decide_eq_true h)]; exact h1 h
  · rw [if_neg (by simp [h])]; exact h2 h
theorem ifT {b : Bool} {A B : Prop} (h : b = true) (k : A) : if b = true then A else B := by rw [if_pos h]; exact k
theorem ifF {b : Bool} {A B : Prop} (h : b = false) (k : B) : if b = true then A else B := by rw [if_neg (by rw [h]; decide)]; exact k
theorem ifB {b : Bool} {A B : Prop} (h1 : b = true → A) (h2 : b = false → B) : if b = true then A else B := by
  cases b
  · exact ifF rfl (h2 rfl)
  · exact ifT rfl (h1 rfl)
end Cv
namespace Cv
open PySem PySem.Spec PyProof.Rows L2
/-- the law's function is the one that the top left -/
theorem DefOk.law {P : Program} {w : World} {K : PySem.W.Frag} {mg : Str → Option Value} {base : Heap} {CX : CXT} {k : Nat} {x : Str} {ps : List Str} {sp : Sp} {f : Addr} {fd : FuncData} {oc : Value} {od : Option Addr} {osl : Array (Option Value)}
    (D : DefOk P w K mg base CX k x ps sp) (l : K.lookup f = some ⟨oc, od, .func fd, osl⟩) (hm : mg x = some (.ref f)) : FnOk P w K mg base CX k f fd ps sp := by
  obtain ⟨f', fd', FO, hm', _, _, oc', od', osl', l'⟩ := D.ex
  have e := hm.symm.trans hm'
  cases e
  have e2 := l.symm.trans l'
  have e3 : Data.func fd = Data.func fd' := congrArg (fun (o : Obj) => o.data) (Option.some.inj e2)
  cases e3
  exact FO
theorem walk {l : PySem.W.OpenLaw} {k : Nat} {CX : CXT} {sp : PySem.W.Frag → Sp} {q : Program} {loose : List Str} {XP : (Str → Option Value) → Heap → Prop} {YP : World → Heap → Prop} {d : DefRec} {K : Params → PySem.W.Frag} {x : Str} (hn : l.most = some 63) (hdf : d.params.defaults = []) (hr : Room k callerA)
    (hY : ∀ (w : World) (h : Heap), YP w h → (K w.params).In h)
    (F : ∀ (w : World) (mg : Str → Option Value) (fa : Addr) (h : Heap), (K w.params).In h → h.Ns mainGlobals mg → mg d.name = some (.ref fa) →
      ∃ fd : FuncData, (∀ (s : Shared) (u : Value), BindsTo s fd ⟨[u], []⟩ [(x, u)]) ∧ ∀ (P : Program) (base : Heap), (K w.params).In base → base.Ns mainGlobals mg → FnOk P w (K w.params) mg base CX k fa fd [x] (sp (K w.params)))
    (hsp : ∀ (K : PySem.W.Frag) (H : Hp) (a : Addr) (ns : List Int), ns.length ≤ 63 → Only H → SqL K H a (ns.map V.int) → sp K [.ref a] H (fun v _ => v = .bl true) fun _ _ _ => False)
    (hCX : ∀ (H : Hp) (s : Shared) (e : Value) (s' : Shared), CX [] H s (fun _ _ _ => False) e s' → False) :
    PySem.W.WalkO q loose XP YP l.row.toRowW d [] (fun f vs => PySem.call f vs) :=
  L2.walk_of (n := 63) (k := k) (x := x) (CX := fun _ => CX) (sp := fun w => sp (K w.params)) hn (by decide) hdf hr hY
    (fun w mg fa h a b c => let ⟨fd, h1, h2⟩ := F w mg fa h a b c; ⟨fd, h1, fun base => h2 l.prog base⟩) (fun w H a ns => hsp (K w.params) H a ns) fun _ H s e s' => hCX H s e s'
end Cv

namespace Cv
open PySem PySem.Spec PyProof.Rows L2
/-! small facts for the readings -/
theorem pl {j : Int} (h : 0 < j := by decide) : 0 < j := h
theorem at_map (xs : List Int) (k : Nat) (h : k < xs.length) : atI (xs.map V.int) (k : Int) = some (V.int (xs.getD k 0)) := by
  refine atI_nat ?_
  rw [List.getElem?_map, List.getElem?_eq_getElem h]
  simp [List.getD_eq_getElem?_getD, List.getElem?_eq_getElem h]
theorem at_mapZ (xs : List Int) (k : Int) (h0 : 0 ≤ k) (h : k < (xs.length : Int)) : atI (xs.map V.int) k = some (V.int (xs.getD k.toNat 0)) := by
  have e : k = ((k.toNat : Nat) : Int) := by omega
  have q := at_map xs k.toNat (by omega)
  rw [← e] at q
  exact q
theorem getD_nn {xs : List Int} (h : ∀ x ∈ xs, 0 ≤ x) (k : Nat) : 0 ≤ xs.getD k 0 := by
  rw [List.getD_eq_getElem?_getD]
  cases e : xs[k]? with
  | none => simp
  | some v => exact h v (List.mem_of_getElem? e)
theorem p30 : (10 : Int) ^ (30 : Int).toNat = 1000000000000000000000000000000 := by decide
theorem pos30 : (0 : Int) < (10 : Int) ^ (30 : Int).toNat := by rw [p30]; decide
theorem sz_of {n : Nat} {x : Int} {b : Nat} (h1 : x.natAbs ≤ b) (h2 : b < 2 ^ n) : Sz n x := ⟨Nat.lt_of_le_of_lt h1 h2⟩
/-- a drawn top -/
theorem gcd_abs (t b : Int) : Int.gcd (if t < 0 then -t else t) b = Int.gcd t b := by
  split
  · rw [Int.neg_gcd]
  · rfl
theorem emod_gcd (a b : Int) (hb : 0 < b) : Int.gcd b (a % b) = Int.gcd a b := by
  have := gcd_step a b
  rw [Int.fmod_eq_emod_of_nonneg a (by omega)] at this
  exact this
theorem dec_int_ne {a b : Int} (h : a ≠ b) : (!decide (V.int a = V.int b)) = true := by simp [h]
theorem kit_ii (K : PySem.W.Frag) : PySem.W.kitOne K (.type "int") (.type "int") = some true := rfl
theorem kit_ib (K : PySem.W.Frag) : PySem.W.kitOne K (.type "int") (.type "bool") = some false := rfl
theorem kit_tt (K : PySem.W.Frag) : PySem.W.kitOne K (.type "tuple") (.type "tuple") = some true := rfl
theorem kit_bb (K : PySem.W.Frag) : PySem.W.kitOne K (.type "bool") (.type "bool") = some true := rfl
theorem kit_ll (K : PySem.W.Frag) : PySem.W.kitOne K (.type "list") (.type "list") = some true := rfl
end Cv

namespace Cv
open PySem PySem.Spec PyProof.Rows L2
/-! ### an exception on its way, with none ahead of it -/
structure TrX (h B : Heap) (e : Addr) (cls fl : Value) : Prop where
  ex : ∃ (oe : Obj) (vs : Array Value) (T : Addr) (oT : Obj) (ts : Array Value), (h.get? e = some oe ∧ oe.cls = cls ∧ oe.data = .fields vs ∧ oe.dict = none) ∧ (vs[2]? = some .none ∧ vs[1]? = some (.ref T)) ∧ (B.get? T = none ∧ T ≠ e) ∧ h.get? T = some oT ∧ oT.data = .fields ts ∧ ts[3]? = some fl
structure FlyX (B : Heap) (l : List Env) (e : Addr) (cls fl : Value) (h : Heap) : Prop where
  stays : B.StaysIn h
  new : B.get? e = none
  frames : h.FunFrames B l
  tr : TrX h B e cls fl
theorem FlyX.there {B h : Heap} {l : List Env} {e : Addr} {cls fl : Value} (x : FlyX B l e cls fl h) : ∃ o vs, h.get? e = some o ∧ o.cls = cls ∧ o.data = .fields vs ∧ vs[2]? = some .none ∧ o.dict = none := by
  obtain ⟨o, vs, _, _, _, ⟨a, b, c, f⟩, ⟨d, _⟩, _⟩ := x.tr.ex
  exact ⟨o, vs, a, b, c, d, f⟩
section
variable {M : Model} {A : Around} {E : Value → Shared → Prop} {s : Shared} {B : Heap} {env : Env} {outer : List Env} {L e : Addr}
end
end Cv

namespace Cv
open PySem PySem.Spec PyProof.Rows L2
/-! ### an exception that flies -/
/-- from a call's entry (H, h) to the flight: B holds all that stays, frames aside; h' is the heap of the flight -/
structure UnB (fs : List Addr) (H H' : Hp) (h B h' : Heap) : Prop where
  keep : ∀ b o, h.get? b = some o → H b = none → b ∉ fs → B.get? b = some o
  slot : ∀ b o, h.get? b = some o → H b = none → b ∈ fs → ∃ sl, h'.get? b = some { o with slots := sl }
  free : ∀ b o, h.get? b = some o → H b = none → H' b = none
  there : ∀ b o, h.get? b = some o → b ∉ fs → ∃ o', B.get? b = some o'
  tups : ∀ b xs, H b = some (.tup xs) → H' b = some (.tup xs)
  frzs : ∀ b o u, H b = some (.frz o u) → H' b = some (.frz o u)
  tbls : ∀ b ps, H b = some (.tbl ps) → ∃ more, H' b = some (.tbl (ps ++ more))
theorem UnB.un {fs : List Addr} {H H' : Hp} {h B h' : Heap} (u : UnB fs H H' h B h') (hB : B.StaysIn h') (hf : ∀ b ∈ fs, H b = none) : Un fs [] H H' h h' where
  keep := fun b o e n hb _ => hB b o (u.keep b o e n hb)
  slot := fun b o e n hb _ => u.slot b o e n hb
  free := fun b o e n _ => u.free b o e n
  there := fun b o e _ => by
    by_cases hb : b ∈ fs
    · obtain ⟨sl, q⟩ := u.slot b o e (hf b hb) hb
      exact ⟨_, q⟩
    · obtain ⟨o', q⟩ := u.there b o e hb
      exact ⟨o', hB b o' q⟩
  tups := u.tups
  frzs := u.frzs
  tbls := u.tbls
section
variable {X : Cx} {pins : List (Addr × Obj)} {σ : L2.St} {H H' : Hp} {s : Shared}
end
section
variable {P : Program} {w : World} {K : PySem.W.Frag} {mg : Str → Option Value} {base : Heap} {N : List Str} {qual : Str} {scope : Scope} {f : Addr} {cd : Value} {A : Around} {outer : List Env} {s : Shared} {H : Hp} {E : XK}
end

/-! ### a def whose exceptions fly on -/
section
variable {P : Program} {w : World} {K : PySem.W.Frag} {mg : Str → Option Value} {base : Heap}
end
/-! ### the classes of refusals -/
section
variable {X : Cx} {x : Str} {C : Addr} {np cpos pos : Pos} {E : XK} {e₀ : Expr} {ta : TA}
end

/-! ### try, except C as n -/
section
variable {X : Cx} {pins pins' : List (Addr × Obj)} {σ : L2.St} {H H' : Hp} {s : Shared}
end
section
variable {X : Cx}
end
end Cv

namespace Cv
open PySem PySem.Spec PyProof.Rows L2
/-! ### isinstance of a caught exception -/
section
variable {X : Cx}
end
end Cv
namespace Cv
open PySem PySem.Spec PyProof.Rows L2
/-! ### promises with refusals -/
theorem Bd.zero : Bd 4000 (0 : Rat) := ⟨Sz.zero.mono (by decide), Sz.one.mono (by decide)⟩
theorem Bd.one : Bd 4000 (1 : Rat) := ⟨Sz.one.mono (by decide), Sz.one.mono (by decide)⟩
end Cv

namespace Cv
open PySem PySem.Spec PyProof.Rows L2
/-! ### a list comprehension: one clause, no test -/
noncomputable abbrev cxComp (X : Cx) (scope : Scope) (cl : List (Str × Addr)) (Nc : List Str) (C : Addr) (s0 : Shared) (H0 : Hp) (fp : List Addr) : Cx where
  prog := X.prog
  w := X.w
  K := X.K
  mg := X.mg
  base := X.base
  A := X.A
  N := Nc
  s₀ := s0
  H₀ := H0
  env := compEnvC scope cl C X.env
  outer := X.stack
  stack := X.stack
  ex := fp
  fn := fun _ => false
  calm := X.calm
  pn := []
  xe := fun _ _ => False
noncomputable def capd (σ : L2.St) (ix : List Nat) : L2.St := ix.map fun j => (σ[j]?).getD none
section
variable {X : Cx}
end
end Cv

namespace Cv
open PySem PySem.Spec PyProof.Rows L2
/-! ### closures of a comprehension's block -/
theorem closure_go {env : Env} : ∀ (names : List (Str × NameKind)) (acc : List (Str × Addr)), (∀ y ∈ names, y.2 = .free → ∃ c, env.cells.lookup y.1 = some c) →
    ∃ cl, (forIn names acc fun (x : Str × NameKind) (r : List (Str × Addr)) => if (x.2 == NameKind.free) = true then (do let c ← cellOf env x.1; pure (ForInStep.yield ((x.1, c) :: r))) else pure (ForInStep.yield r) : Sem (List (Str × Addr))) = pure cl ∧
      ((∀ y c, acc.lookup y = some c → env.cells.lookup y = some c) → ∀ y c, cl.lookup y = some c → env.cells.lookup y = some c) ∧
      (∀ y, (∃ c, acc.lookup y = some c) → ∃ c, cl.lookup y = some c) ∧ ∀ y ∈ names, y.2 = .free → ∃ c, cl.lookup y.1 = some c
  | [], acc, _ => ⟨acc, by simp, fun h => h, fun _ h => h, fun _ h => nomatch h⟩
  | (n, k) :: r, acc, h => by
    rw [List.forIn_cons]
    by_cases hk : k = .free
    · subst hk
      obtain ⟨c, hc⟩ := h (n, .free) (.head _) rfl
      obtain ⟨cl, e, h1, h2, h3⟩ := closure_go (env := env) r ((n, c) :: acc) fun y hy => h y (.tail _ hy)
      refine ⟨cl, ?_, fun ha => h1 fun y d hd => ?_, fun y hy => h2 y ?_, fun y hy hf => ?_⟩
      · have ec : cellOf env n = pure c := by
          unfold cellOf
          have hc' : env.cells.lookup n = some c := hc
          rw [hc']
        simp only [ec]
        exact e
      · rw [List.lookup_cons] at hd
        by_cases hy : y == n
        · rw [hy] at hd
          cases hd
          rw [eq_of_beq hy]; exact hc
        · rw [Bool.not_eq_true] at hy
          rw [hy] at hd
          exact ha y d hd
      · rw [List.lookup_cons]
        by_cases hyn : y == n
        · rw [hyn]; exact ⟨_, rfl⟩
        · rw [Bool.not_eq_true] at hyn
          rw [hyn]; exact hy
      · rcases List.mem_cons.mp hy with rfl | hy
        · exact h2 n ⟨c, by rw [List.lookup_cons]; simp⟩
        · exact h3 y hy hf
    · obtain ⟨cl, e, h1, h2, h3⟩ := closure_go (env := env) r acc fun y hy => h y (.tail _ hy)
      refine ⟨cl, ?_, h1, h2, fun y hy hf => ?_⟩
      · have hk' : (k == NameKind.free) = false := by
          cases k <;> first | rfl | exact absurd rfl hk
        simp only [hk']
        exact e
      · rcases List.mem_cons.mp hy with rfl | hy
        · exact absurd hf hk
        · exact h3 y hy hf
theorem closure_of {scope : Scope} {env : Env} (h : ∀ y ∈ scope.names, y.2 = .free → ∃ c, env.cells.lookup y.1 = some c) :
    ∃ cl, closureFor scope env = pure cl ∧ (∀ y c, cl.lookup y = some c → env.cells.lookup y = some c) ∧ ∀ y ∈ scope.names, y.2 = .free → ∃ c, cl.lookup y.1 = some c := by
  obtain ⟨cl, e, h1, _, h3⟩ := closure_go (env := env) scope.names [] h
  refine ⟨cl, ?_, h1 (fun _ _ z => nomatch z), h3⟩
  unfold closureFor
  have := congrArg (fun (m : Sem (List (Str × Addr))) => m >>= fun r => pure r) e
  first
    | exact e
    | simpa using e
    | (simp only [bind_pure] at this ⊢; exact this)
/-- the names of the block, by their kinds in the def around it -/
theorem relabel_lookup {env : Env} : ∀ {names : List (Str × NameKind)} {y : Str} {k : NameKind}, (∀ z ∈ names, z.2 ≠ .cell) →
    (names.map fun (n, k) => if (k == NameKind.free && env.scope.kind == .function && env.kindOf n == some .cell) then (n, NameKind.cell) else (n, k)).lookup y = some k → (k = .cell ∨ k = .free) → (y, NameKind.free) ∈ names
  | [], _, _, _, h, _ => by simp at h
  | (n, q) :: r, y, k, hc, h, hk => by
    rw [List.map_cons] at h
    by_cases hy : y == n
    · have e : y = n := eq_of_beq hy
      subst e
      by_cases ht : (q == NameKind.free && env.scope.kind == .function && env.kindOf y == some .cell) = true
      · have : q = .free := by
          simp only [Bool.and_eq_true] at ht
          exact eq_of_beq ht.1.1
        rw [this]; exact .head _
      · simp only [ht] at h
        rw [List.lookup_cons] at h
        simp at h
        subst h
        rcases hk with rfl | rfl
        · exact absurd rfl (hc _ (.head _))
        · exact .head _
    · rw [Bool.not_eq_true] at hy
      refine .tail _ (relabel_lookup (env := env) (fun z hz => hc z (.tail _ hz)) ?_ hk)
      by_cases ht : (q == NameKind.free && env.scope.kind == .function && env.kindOf n == some .cell) = true
      · simp only [ht] at h
        rw [List.lookup_cons] at h
        have h' := h
        (simp [hy] at h'; simpa using h')
      · simp only [ht] at h
        rw [List.lookup_cons] at h
        have h' := h
        (simp [hy] at h'; simpa using h')
section
variable {prog : Program} {w : World} {A : Around} {R : Result → Shared → Prop} {s : Shared}
theorem compLoop_listG {elt target iter : Expr} {scope : Scope} {pos : Pos} {it acc : Value} {env : Env} (I : Nat → Shared → Prop)
    (turn : ∀ n s, I n s → wpAny (model prog w) A (pyNext it) (fun r s₁ => match r with
      | none => R (.ok .next) s₁
      | some v => wpAny (model prog w) A (letOwnedTupleGo target it v) (fun _ s₁' => wpAny (model prog w) A (assign target env v) (fun _ s₂ => wpAny (model prog w) A (eval elt env) (fun x s₃ =>
          wpAny (model prog w) A (call (.builtin "list.append") [acc, x]) (fun _ s₄ => ∃ m, m < n ∧ I m s₄) (notedBy (model prog w) A env fun e s' => R (.error e) s') s₃)
          (notedBy (model prog w) A env fun e s' => R (.error e) s') s₂) (notedBy (model prog w) A env fun e s' => R (.error e) s') s₁') (notedBy (model prog w) A env fun e s' => R (.error e) s') s₁) (notedBy (model prog w) A env fun e s' => R (.error e) s') s)
    (n : Nat) (h : I n s) :
    codeAny (model prog w) A (.compLoop (.ListComp elt [⟨target, iter, [], 0⟩] scope pos) 0 it acc env) R s := by
  refine codeAny_loop rfl I (fun n s hI => ?_) n h
  show wpAny _ _ ((compTurn (.ListComp elt [⟨target, iter, [], 0⟩] scope pos) 0 it acc env).onRaise (fun x => do noteFrame x env; theTreesLotGoes x)) _ _ s
  refine wpAny_noted ?_
  rw [compTurn_list1]
  refine wpAny_bind (wpAny_standAt (wpAny_bind (wpAny_mono (turn n s hI) (fun r s₁ h₁ => ?_) fun _ _ h' => h')))
  cases r with
  | none => exact wpAny_pure h₁
  | some v =>
    refine wpAny_bind (wpAny_mono h₁ (fun _ s₁' h₁' => ?_) fun _ _ h' => h')
    exact wpAny_bind (wpAny_mono h₁' (fun _ s₂ h₂ => wpAny_bind (wpAny_bind (wpAny_mono h₂ (fun x s₃ h₃ => wpAny_bind (wpAny_mono h₃
      (fun _ s₄ h₄ => wpAny_pure (wpAny_pure ⟨rfl, h₄⟩)) fun _ _ h' => h')) fun _ _ h' => h'))) fun _ _ h' => h')
end
noncomputable def CompGoal (k : Nat) (J : It) (H1 : Hp) (g : TG) (te : TE) (cs : L2.St) (Q : VK) : Prop := ∀ D, H1 D = none → ∃ W : Nat → Nat → List V → Hp → Prop, (∃ m, W 0 m [] (upd H1 D (.lst []))) ∧
  ∀ i m ys H2, W i m ys H2 → (J.stop i H2 ∧ Q (.ref D) H2) ∨ (J.go i H2 ∧ ∀ x H', J.yld i H2 x H' → ∀ own : L2.St, own.length = k → g x (own ++ cs) H' fun σ2 H4 => (∃ own' : L2.St, own'.length = k ∧ σ2 = own' ++ cs) ∧
    te σ2 H4 fun v H3 => H3 D = some (.lst ys) ∧ ys.length < sizeLine ∧ ∃ m', m' < m ∧ W (i + 1) m' (ys ++ [v]) (upd H3 D (.lst (ys ++ [v]))))
noncomputable def tCompG (k : Nat) (wi : TI) (g : TG) (te : TE) (ix : List Nat) : TE := fun σ H Q => wi σ H fun J H1 => CompGoal k J H1 g te (capd σ ix) Q
section
variable {X : Cx}
theorem comp_core {tg elt iter : Expr} {os : List Str} {pos ipos : Pos} {scope : Scope} {wi : TI} {g : TG} {te : TE} {caps : List (Nat × Str)} {pins : List (Addr × Obj)} {s : Shared} {σ : L2.St} {H : Hp} {Q : VK} {use : Option (Value → Sem Unit)} {R : Value → Shared → Prop} (hi : PI X tg iter wi)
    (hg : ∀ cl C s0 H0 fp, PG (cxComp X scope cl (os ++ caps.map (·.2)) C s0 H0 fp) tg g)
    (he : ∀ cl C s0 H0 fp, PE (cxComp X scope cl (os ++ caps.map (·.2)) C s0 H0 fp) elt te)
    (hfree : ∀ y ∈ scope.names, y.2 = .free → X.env.kindOf y.1 = some .cell)
    (hcap : ∀ p ∈ caps, X.N[p.1]? = some p.2 ∧ X.env.kindOf p.2 = some .cell ∧ ((relabel scope X.env).names.lookup p.2 = some .cell ∨ (relabel scope X.env).names.lookup p.2 = some .free))
    (hkind : scope.kind = .function) (hcell : ∀ y ∈ scope.names, y.2 ≠ .cell)
    (hnames : ∀ y ∈ scope.names, y.2 = .local → scope.names.lookup y.1 = some .local) (hc : X.calm = true) (hfs : ∀ v, foldedSetIterable iter X.env v = pure v)
    (hfin : ∀ D C H5 s6 m6, Inv X pins σ H5 s6 → s6.heap.Ns C m6 → FpOk X pins H5 C → Q (.ref D) H5 → compPost (model X.prog X.w) X.A X.xe use R (.ref D) C (.ok .next) s6)
    (I : Inv X pins σ H s) (h : tCompG os.length wi g te (caps.map (·.1)) σ H Q) :
    wpAny (model X.prog X.w) X.A (comprehension (.ListComp elt [⟨tg, iter, [], 0⟩] scope pos) scope X.env ipos (newList []) false (eval iter X.env) use) R X.xe s := by
  obtain ⟨cl, hclos, hcl, hin⟩ := closure_of (scope := scope) (env := X.env) fun y hy hf => I.ok.has y.1 (.inl (hfree y hy hf))
  have hhas : ∀ y, ((relabel scope X.env).names.lookup y = some .cell ∨ (relabel scope X.env).names.lookup y = some .free) → ∃ c, cl.lookup y = some c := fun y hy => by
    rcases hy with hy | hy
    · exact hin (y, .free) (relabel_lookup (env := X.env) hcell hy (.inl rfl)) rfl
    · exact hin (y, .free) (relabel_lookup (env := X.env) hcell hy (.inr rfl)) rfl
  refine wpAny_comprehension_free (use := use) rfl hfs hclos hkind hnames ?_
  refine thn (hi pins s σ H _ I h) fun v s1 h1 => thn h1 fun itv s2 h2 => ?_
  obtain ⟨it, fp, tn, J, H1, rfl, I2, T, st2, f2, rd⟩ := h2
  refine wpAny_newObj_type ?_ (by show 0 ≤ sizeLine; decide)
  have hD : H1 s2.heap.objs.size = none := I2.hok.fresh (Nat.le_refl _)
  obtain ⟨W, ⟨m0, w0⟩, turn⟩ := rd s2.heap.objs.size hD
  generalize eD : s2.heap.objs.size = D at hD w0 turn
  have I3 : Inv X pins σ (upd H1 D (.lst [])) { s2 with heap := s2.heap.push { cls := .type "list", data := .seq ([] : List Value).toArray } } := by
    subst eD
    exact I2.laid (t' := s2.toks) (fun b u e => Heap.get?_push_of_some _ e) (Nat.le_refl _) ⟨Nat.zero_le _, [], 0, .nil, Heap.get?_push_size _ rfl⟩
  generalize e3 : ({ s2 with heap := s2.heap.push { cls := .type "list", data := .seq ([] : List Value).toArray } } : Shared) = s3 at I3
  have hs3 : s3.heap.objs.size = D + 1 := by rw [← e3, ← eD]; simp
  have k23 : ∀ b o, s2.heap.get? b = some o → s3.heap.get? b = some o := fun b o e => by rw [← e3]; exact Heap.get?_push_of_some _ e
  refine wpAny_newFunctionEnv hcell (by intro y hy; simp at hy) (fun h4 hn4 hs4 => ?_) hkind
  have k34 : ∀ b o, s3.heap.get? b = some o → h4.get? b = some o := fun b o e => (hs4.2 b (Nat.ne_of_lt (Heap.lt_size e))).trans (Heap.get?_push_of_some _ e)
  generalize eC : s3.heap.objs.size = C at hn4 hs4
  have hfpC : ∀ b ∈ fp, b ≠ C := fun b hb z => by
    obtain ⟨o, e, _⟩ := T.obj 0 _ st2 b hb
    have h1 := Heap.lt_size e
    rw [z, ← eC, hs3, eD] at h1
    exact absurd h1 (Nat.not_lt.mpr (Nat.le_succ D))
  have hfps : ∀ b ∈ fp, b ∉ frs X.stack := fun b hb z => by
    rcases List.mem_cons.mp (I2.stkSub b z) with q | q
    · exact (f2 b hb).2.1 q
    · exact (f2 b hb).2.2.1 q
  have hfpD : ∀ b ∈ fp, b ≠ D := fun b hb z => by
    obtain ⟨o, e, _⟩ := T.obj 0 _ st2 b hb
    have h1 := Heap.lt_size e
    rw [z, eD] at h1
    exact Nat.lt_irrefl _ h1
  have okc : (cxComp X scope cl (os ++ caps.map (·.2)) C s3 (upd H1 D (.lst [])) fp).Ok := by
    refine ⟨I3.ok.mod, hkind, I3.ok.glob, I3.ok.blt, Nat.le_of_eq eC, fun y z c h1 h2 => I3.ok.inj y z c (hcl y c h1) (hcl z c h2), fun y hy => hhas y hy, fun y c hf => absurd hf Bool.false_ne_true, I3.ok.hd, I3.ok.frames, .inl rfl,
      fun b hb => ⟨hfpC b hb, fun y c e => (f2 b hb).2.2.2.2.1 y c (hcl y c e)⟩, I3.bs, Nat.le_trans I3.ok.bsz I3.sz, fun b o e hb => ?_, fun b hb => hfps b hb, I3.stack, I3.stkFree⟩
    rcases (f2 b hb).2.2.2.1 with z | z
    · exact I3.ok.noex b o e z
    · exact Nat.lt_irrefl _ (Nat.lt_of_lt_of_le (Heap.lt_size (I3.ok.bs b o e).1) z)
  have capS : (capd σ (caps.map (·.1))).length = caps.length := by unfold capd; rw [List.length_map, List.length_map]
  have Ic : Inv (cxComp X scope cl (os ++ caps.map (·.2)) C s3 (upd H1 D (.lst [])) fp) [] (List.replicate os.length none ++ capd σ (caps.map (·.1))) (upd H1 D (.lst [])) { s3 with heap := h4, toks := s3.toks + ([] : List (Str × Value)).length } := by
    refine ⟨okc, rfl, I3.bare, Un.kept k34, ⟨_, hn4, fun i y v e1 e2 e3' => ?_⟩, fun y c e => ?_, I3.hok.fresh (Nat.le_of_eq eC), fun y c e => I3.freeC y c (hcl y c e), fun p hp => absurd hp (by simp), I3.hok.kept k34, ?_⟩
    · by_cases hik : i < os.length
      · rw [List.getElem?_append_left (by rw [List.length_replicate]; exact hik), List.getElem?_replicate] at e2
        split at e2 <;> cases e2
      · have e1' : (caps.map (·.2))[i - os.length]? = some y := by
          have z : (os ++ caps.map (·.2))[i]? = some y := e1
          rw [List.getElem?_append_right (by omega)] at z
          exact z
        have e2' : (capd σ (caps.map (·.1)))[i - os.length]? = some (some v) := by
          rw [List.getElem?_append_right (by rw [List.length_replicate]; omega), List.length_replicate] at e2
          exact e2
        generalize i - os.length = i at e1' e2'
        rw [List.getElem?_map] at e1'
        unfold capd at e2'
        rw [List.getElem?_map, List.getElem?_map] at e2'
        cases q : caps[i]? with
        | none => rw [q] at e1'; cases e1'
        | some p =>
          rw [q] at e1' e2'
          have ey : p.2 = y := Option.some.inj e1'
          have ev : (σ[p.1]?).getD none = some v := Option.some.inj e2'
          have es : σ[p.1]? = some (some v) := by
            cases z : σ[p.1]? with
            | none => rw [z] at ev; cases ev
            | some w' => rw [z] at ev; exact congrArg some ev
          obtain ⟨hN, hk, hv⟩ := hcap p (List.mem_of_getElem? q)
          obtain ⟨m, _, hl⟩ := I3.loc
          obtain ⟨u, r, lk⟩ := hl p.1 p.2 v hN es (.inr (.inl hk))
          rw [ey] at hk hv lk
          refine ⟨u, r, .inr ⟨hv, ?_⟩⟩
          obtain ⟨c, hc'⟩ := hhas y hv
          rcases lk with ⟨z, _⟩ | ⟨_, c2, z, ic⟩
          · rw [hk] at z; cases z
          · have ec := (hcl y c hc').symm.trans z
            cases ec
            obtain ⟨o, ho, hd⟩ := ic
            exact ⟨c, hc', o, k34 _ _ ho, hd⟩
    · obtain ⟨v, o, ho, hd⟩ := I3.cell y c (hcl y c e)
      exact ⟨v, o, k34 _ _ ho, hd⟩
    · show (List.replicate os.length (none : Option V) ++ capd σ (caps.map fun p => p.1)).length = (os ++ caps.map fun p => p.2).length
      rw [List.length_append, List.length_append, List.length_replicate, capS, List.length_map]
  have fpc : ∀ H', (∀ b ∈ fp, H' b = none) → ∀ b ∈ fp, FpOk (cxComp X scope cl (os ++ caps.map (·.2)) C s3 (upd H1 D (.lst [])) fp) [] H' b := fun H' hn b hb =>
    ⟨hn b hb, hfpC b hb, hfps b hb, .inl hb, fun y c e => (f2 b hb).2.2.2.2.1 y c (hcl y c e), fun p hp => absurd hp (by simp)⟩
  have st4 : tn 0 h4 := T.keep _ _ _ (T.keep _ _ _ st2 fun b _ o e => k23 b o e) fun b _ o e => k34 b o e
  have fp0 : ∀ b ∈ fp, (upd H1 D (.lst [])) b = none := fun b hb => by rw [upd_ne (hfpD b hb)]; exact (f2 b hb).1
  have loop : codeAny (model X.prog X.w) X.A (.compLoop (.ListComp elt [⟨tg, iter, [], 0⟩] scope pos) 0 (.ref it) (.ref D) (compEnvC scope cl C X.env)) (compPost (model X.prog X.w) X.A X.xe use R (.ref D) C)
      { s3 with heap := h4, toks := s3.toks + ([] : List (Str × Value)).length } := by
    refine compLoop_listG (fun n s' => ∃ i ys own H', own.length = os.length ∧ Inv (cxComp X scope cl (os ++ caps.map (·.2)) C s3 (upd H1 D (.lst [])) fp) [] (own ++ capd σ (caps.map (·.1))) H' s' ∧ tn i s'.heap ∧ (∀ b ∈ fp, H' b = none) ∧ W i n ys H') ?_ m0 ⟨0, [], List.replicate os.length none, _, List.length_replicate, Ic, st4, fp0, w0⟩
    rintro n s5 ⟨i, ys, own, H5, ho5, I5, st5, fr5, w5⟩
    rcases turn i n ys H5 w5 with ⟨stop, qn⟩ | ⟨go, step⟩
    · refine thn (T.done (cxComp X scope cl (os ++ caps.map (·.2)) C s3 (upd H1 D (.lst [])) fp) rfl rfl rfl hc i [] s5 _ H5 _ I5 (fpc H5 fr5) st5 stop) fun r s6 ⟨hr, I6⟩ => ?_
      subst hr
      obtain ⟨m6, hn6, _⟩ := I6.loc
      have hs' : Heap.SameBut C s6.heap s6.heap := ⟨rfl, fun _ _ => rfl⟩
      generalize eh' : s6.heap = h' at hs'
      have hs' : Heap.SameBut C s6.heap h' := by rw [eh']; exact hs'
      have neC : ∀ b o, s3.heap.get? b = some o → b ≠ C := fun b o e => Nat.ne_of_lt (eC ▸ Heap.lt_size e)
      have ns : ∀ b o, s2.heap.get? b = some o → b ≠ D := fun b o e => Nat.ne_of_lt (eD ▸ Heap.lt_size e)
      have B := I6.base
      have uu : Un (frs X.stack) fp H1 H5 s2.heap h' := by
        refine ⟨fun b o e nn hb hf => ?_, fun b o e nn hb hf => ?_, fun b o e nn hf => ?_, fun b o e hf => ?_, fun b xs e => ?_, fun b o u' e => ?_, fun b ps e => ?_⟩
        · exact (hs'.2 b (neC b o (k23 b o e))).trans (B.keep b o (k23 b o e) (by show (upd H1 D _) b = none; rw [upd_ne (ns b o e)]; exact nn) hb hf)
        · obtain ⟨sl, z⟩ := B.slot b o (k23 b o e) (by show (upd H1 D _) b = none; rw [upd_ne (ns b o e)]; exact nn) hb hf
          exact ⟨sl, (hs'.2 b (neC b o (k23 b o e))).trans z⟩
        · exact B.free b o (k23 b o e) (by show (upd H1 D _) b = none; rw [upd_ne (ns b o e)]; exact nn) hf
        · obtain ⟨o', z⟩ := B.there b o (k23 b o e) hf
          exact ⟨o', (hs'.2 b (neC b o (k23 b o e))).trans z⟩
        · exact B.tups b xs (by show (upd H1 D _) b = _; rw [upd_ne (ne_of_none e hD)]; exact e)
        · exact B.frzs b o u' (by show (upd H1 D _) b = _; rw [upd_ne (ne_of_none e hD)]; exact e)
        · exact B.tbls b ps (by show (upd H1 D _) b = _; rw [upd_ne (ne_of_none e hD)]; exact e)
      have hok' : HOk X.prog X.w H5 h' := fun b o e => by
        refine (I6.hok b o e).stay (fun c' u' hc' z => (hs'.2 c' fun zz => ?_).trans z) (fun _ z => z) fun _ _ z => z
        have fr : H5 C = none := I6.free
        rcases hc' with hc' | hc'
        · rw [← zz, hc', e] at fr; cases fr
        · rw [← zz, hc'] at fr; cases fr
      have ho6 : s6.os = s2.os := I6.os.trans (by show s3.os = s2.os; rw [← e3])
      subst eh'
      have hC2 : s2.heap.objs.size ≤ C := by rw [← eC, hs3, eD]; exact Nat.le_succ D
      exact hfin D C H5 s6 m6 (I2.call' (s' := s6) (ch := fp) ho6 uu hok' I6.bare (fun b hb => ⟨(f2 b hb).2.2.2.1, (f2 b hb).2.1, (f2 b hb).2.2.2.2.1, (f2 b hb).2.2.2.2.2⟩)) hn6 (I2.fpOk hC2 I6.free) qn
    · refine thn (T.item (cxComp X scope cl (os ++ caps.map (·.2)) C s3 (upd H1 D (.lst [])) fp) rfl rfl rfl hc i [] s5 _ H5 _ I5 (fpc H5 fr5) st5 go) fun r s6 ⟨u, hr, h6⟩ => ?_
      subst hr
      refine (thn h6 fun _ s7 ⟨y, H7, I7, r7, y7, st7, fr7⟩ => ?_)
      have I7' := I7.pinned (fpc H7 fr7) (T.obj _ _ st7)
      refine wpAny_mono (hg cl C s3 _ fp _ s7 _ H7 y u _ I7' r7 (step y H7 y7 own ho5)) (fun _ s8 ⟨σ8, H8, I8, ⟨own', ho8, e8⟩, q8⟩ => ?_) fun _ _ z => z.elim
      subst e8
      refine wpAny_mono (he cl C s3 _ fp _ s8 _ H8 _ I8 q8) (fun xv s9 ⟨v9, H9, I9, r9, d9, l9, m9, lt9, w9⟩ => ?_) fun _ _ z => z.elim
      refine wpAny_mono (mt_append (X := (cxComp X scope cl (os ++ caps.map (·.2)) C s3 (upd H1 D (.lst [])) fp)) _ s9 _ H9 (.ref D) [v9] (.ref D) [xv] (fun _ H10 => H10 = upd H9 D (.lst (ys ++ [v9]))) I9 rfl (.cons r9 .nil) ⟨D, ys, v9, rfl, rfl, d9, l9, rfl⟩) (fun _ s10 ⟨_, H10, I10, _, e10⟩ => ?_) fun _ _ z => z.elim
      subst e10
      refine ⟨m9, lt9, i + 1, ys ++ [v9], own', _, ho8, I10.unpinned, T.keep _ _ _ st7 fun b hb o e => (I10.pin (b, o) (List.mem_append_right _ (List.mem_append_right _ (mem_pinsAt hb e)))).1, fun b hb => ?_, w9⟩
      obtain ⟨o, e, _⟩ := T.obj _ _ st7 b hb
      exact (I10.pin (b, o) (List.mem_append_right _ (List.mem_append_right _ (mem_pinsAt hb e)))).2.1
  exact codeAny_compStart_list loop (T.self _ 0 _ _ _ st4 loop)

theorem pe_compG {tg elt iter : Expr} {os : List Str} {pos : Pos} {scope : Scope} {wi : TI} {g : TG} {te : TE} {caps : List (Nat × Str)} (hi : PI X tg iter wi)
    (hg : ∀ cl C s0 H0 fp, PG (cxComp X scope cl (os ++ caps.map (·.2)) C s0 H0 fp) tg g)
    (he : ∀ cl C s0 H0 fp, PE (cxComp X scope cl (os ++ caps.map (·.2)) C s0 H0 fp) elt te)
    (hfree : ∀ y ∈ scope.names, y.2 = .free → X.env.kindOf y.1 = some .cell)
    (hcap : ∀ p ∈ caps, X.N[p.1]? = some p.2 ∧ X.env.kindOf p.2 = some .cell ∧ ((relabel scope X.env).names.lookup p.2 = some .cell ∨ (relabel scope X.env).names.lookup p.2 = some .free))
    (hkind : scope.kind = .function) (hcell : ∀ y ∈ scope.names, y.2 ≠ .cell)
    (hnames : ∀ y ∈ scope.names, y.2 = .local → scope.names.lookup y.1 = some .local) (hc : X.calm = true) (hfs : ∀ v, foldedSetIterable iter X.env v = pure v) :
    PE X (.ListComp elt [⟨tg, iter, [], 0⟩] scope pos) (tCompG os.length wi g te (caps.map (·.1))) := by
  intro pins s σ H Q I h
  rw [eval_ListComp]
  refine comp_core (Q := Q) (use := none) (R := EP X pins σ Q) hi hg he hfree hcap hkind hcell hnames hc hfs (fun D C H5 s6 m6 I6 n6 f6 q6 => ?_) I h
  refine ⟨m6, n6, fun h' hs' => ⟨.ref D, H5, ?_, rfl, q6⟩⟩
  exact I6.turned (t' := s6.toks) (fun b o hb e => (hs'.2 b hb).trans e) f6.1 f6.2.1 f6.2.2.2.1 f6.2.2.2.2.1 f6.2.2.2.2.2
end
end Cv

namespace Cv
open PySem PySem.Spec PyProof.Rows L2
/-! ### what a comprehension asks of the scopes, by one reckoning -/
noncomputable def compOk (N : List Str) (sc scope : Scope) (caps : List (Nat × Str)) : Bool :=
  decide (scope.kind = .function) && scope.names.all (fun y => decide (y.2 ≠ .cell) && (!decide (y.2 = .free) || decide (sc.names.lookup y.1 = some .cell)) && (!decide (y.2 = .local) || decide (scope.names.lookup y.1 = some .local))) &&
    caps.all fun p => decide (N[p.1]? = some p.2) && decide (sc.names.lookup p.2 = some .cell) && decide (scope.names.lookup p.2 = some .free)
theorem relabel_free {env : Env} : ∀ {names : List (Str × NameKind)} {y : Str}, names.lookup y = some .free →
    (names.map fun (n, k) => if (k == NameKind.free && env.scope.kind == .function && env.kindOf n == some .cell) then (n, NameKind.cell) else (n, k)).lookup y = some .cell ∨
    (names.map fun (n, k) => if (k == NameKind.free && env.scope.kind == .function && env.kindOf n == some .cell) then (n, NameKind.cell) else (n, k)).lookup y = some .free
  | [], _, h => by simp at h
  | (n, q) :: r, y, h => by
    rw [List.lookup_cons] at h
    rw [List.map_cons]
    by_cases hy : y == n
    · rw [hy] at h
      cases h
      by_cases ht : (NameKind.free == NameKind.free && env.scope.kind == .function && env.kindOf n == some .cell) = true
      · left; simp only [ht]; rw [List.lookup_cons]; simp [eq_of_beq hy]
      · right; simp only [ht]; rw [List.lookup_cons]; simp [eq_of_beq hy]
    · rw [Bool.not_eq_true] at hy
      rw [hy] at h
      have ih := relabel_free (env := env) h
      by_cases ht : (q == NameKind.free && env.scope.kind == .function && env.kindOf n == some .cell) = true
      · simp only [ht]; rw [List.lookup_cons]; simpa [hy] using ih
      · simp only [ht]; rw [List.lookup_cons]; simpa [hy] using ih
section
variable {X : Cx}
theorem pe_compS {tg elt iter : Expr} {os : List Str} {pos : Pos} {scope : Scope} {wi : TI} {g : TG} {te : TE} {caps : List (Nat × Str)} (N : List Str) (sc : Scope) (hi : PI X tg iter wi)
    (hg : ∀ cl C s0 H0 fp, PG (cxComp X scope cl (os ++ caps.map (·.2)) C s0 H0 fp) tg g)
    (he : ∀ cl C s0 H0 fp, PE (cxComp X scope cl (os ++ caps.map (·.2)) C s0 H0 fp) elt te)
    (ok : compOk N sc scope caps = true) (hN : X.N = N := by rfl) (hsc : X.env.scope = sc := by rfl) (hc : X.calm = true := by rfl) (hfs : ∀ v, foldedSetIterable iter X.env v = pure v := by intro _; rfl) :
    PE X (.ListComp elt [⟨tg, iter, [], 0⟩] scope pos) (tCompG os.length wi g te (caps.map (·.1))) := by
  subst hN hsc
  unfold compOk at ok
  simp only [Bool.and_eq_true, List.all_eq_true, decide_eq_true_eq, Bool.or_eq_true, Bool.not_eq_true', decide_eq_false_iff_not] at ok
  obtain ⟨⟨h1, h2⟩, h3⟩ := ok
  refine pe_compG hi hg he (fun y hy hf => ?_) (fun p hp => ?_) h1 (fun y hy => (h2 y hy).1.1) (fun y hy hl => ?_) hc hfs
  · rcases (h2 y hy).1.2 with z | z
    · exact absurd hf z
    · exact z
  · obtain ⟨⟨a, b⟩, c⟩ := h3 p hp
    exact ⟨a, b, relabel_free c⟩
  · rcases (h2 y hy).2 with z | z
    · exact absurd hl z
    · exact z
end
/-! ### tuples never change -/
noncomputable def Tup (H H' : Hp) : Prop := ∀ b xs, H b = some (.tup xs) → H' b = some (.tup xs)
theorem _root_.L2.Same.tup {H H' : Hp} (h : Same H H') : Tup H H' := fun b xs e => h b _ e
theorem Tup.refl (H : Hp) : Tup H H := fun _ _ e => e
theorem Tup.trans {H H1 H2 : Hp} (a : Tup H H1) (b : Tup H1 H2) : Tup H H2 := fun c xs e => b c xs (a c xs e)
theorem Tup.lst {H : Hp} {D : Addr} {ys : List V} {o : HO} (h : H D = some (.lst ys)) : Tup H (upd H D o) := fun b xs e => by
  rw [upd_ne (fun z => by rw [z, h] at e; cases e)]; exact e
theorem Tup.new {H : Hp} {D : Addr} {o : HO} (h : H D = none) : Tup H (upd H D o) := L2.Same.tup (Same.new h)
theorem ShV.tup {H H' : Hp} {v : V} {q : Rat} (h : ShV H v q) (e : Tup H H') : ShV H' v q := by
  obtain ⟨a, rfl, h⟩ := h
  exact ⟨a, rfl, e _ _ h⟩
/-! ### comprehensions by what their items are -/
/-- an iterator of n items that are known ahead -/
noncomputable def Plain1 (J : It) (H1 : Hp) (n : Nat) (f : Nat → V) : Prop := ∀ H2, Same H1 H2 → ∀ i, (i < n → J.go i H2 ∧ ∀ x H', J.yld i H2 x H' → H' = H2 ∧ x = f i) ∧ (i = n → J.stop i H2)
/-- .. of n pairs (tuples that are new, or known ahead) -/
noncomputable def Plain2 (K : PySem.W.Frag) (J : It) (H1 : Hp) (n : Nat) (f g : Nat → V) : Prop := ∀ H2, Same H1 H2 → ∀ i, (i < n → J.go i H2 ∧ ∀ x H', J.yld i H2 x H' → Same H2 H' ∧ ∃ a, x = .ref a ∧ SqT K H' a [f i, g i]) ∧ (i = n → J.stop i H2)
theorem plain_list {K : PySem.W.Frag} {a : Addr} {xs : List V} {H1 : Hp} (h : SqL K H1 a xs) : Plain1 (Itl K a) H1 xs.length fun i => (xs[i]?).getD .non := fun H2 s i =>
  ⟨fun hi => ⟨⟨xs, xs[i], s.seq h, by simp [hi]⟩, fun x H' y => ⟨y.1, by show x = (xs[i]?).getD .non; rw [y.2 xs (s.seq h)]; rfl⟩⟩, fun e => by subst e; exact ⟨xs, s.seq h, Nat.le_refl _⟩⟩
theorem plain_tup {K : PySem.W.Frag} {a : Addr} {xs : List V} {H1 : Hp} (h : SqT K H1 a xs) : Plain1 (Itt K a) H1 xs.length fun i => (xs[i]?).getD .non := fun H2 s i =>
  ⟨fun hi => ⟨⟨xs, xs[i], SqT.same s h, by simp [hi]⟩, fun x H' y => ⟨y.1, by show x = (xs[i]?).getD .non; rw [y.2 xs (SqT.same s h)]; rfl⟩⟩, fun e => by subst e; exact ⟨xs, SqT.same s h, Nat.le_refl _⟩⟩
theorem small_line {n : Nat} (h : n ≤ 100000) : n < sizeLine := Nat.lt_of_le_of_lt h (by rw [sizeLine_eq]; decide)
section
variable {K : PySem.W.Frag} {J : It} {H1 : Hp} {te : TE} {cs : L2.St} {Q : VK} {n : Nat}
theorem comp1 {f : Nat → V} (hJ : Plain1 J H1 n f) (hn : n ≤ 100000) (R : Nat → V → Hp → Prop) (hR : ∀ i v H H', Tup H H' → R i v H → R i v H')
    (he : ∀ i H2 (k : VK), i < n → Same H1 H2 → (∀ v H3, Same H2 H3 → R i v H3 → k v H3) → te (some (f i) :: cs) H2 k)
    (hq : ∀ D ys H2, H1 D = none → Same H1 H2 → H2 D = some (.lst ys) → ys.length = n → (∀ i v, ys[i]? = some v → R i v H2) → Q (.ref D) H2) :
    CompGoal 1 J H1 (gName 0) te cs Q := by
  intro D hD
  refine ⟨fun i m ys H2 => m = n - i ∧ i ≤ n ∧ ys.length = i ∧ Same H1 H2 ∧ H2 D = some (.lst ys) ∧ ∀ j v, ys[j]? = some v → R j v H2, ⟨n, by simp, Nat.zero_le _, rfl, Same.new hD, upd_same, fun j v e => by simp at e⟩, ?_⟩
  rintro i m ys H2 ⟨rfl, hi, hl, s2, d2, r2⟩
  by_cases hlt : i < n
  · refine .inr ⟨((hJ H2 s2 i).1 hlt).1, fun x H' y own ho => ?_⟩
    obtain ⟨rfl, rfl⟩ := ((hJ H2 s2 i).1 hlt).2 x H' y
    cases own with
    | nil => cases ho
    | cons o1 r =>
      cases r with
      | cons _ _ => cases ho
      | nil =>
        refine ⟨⟨[some (f i)], rfl, rfl⟩, he i _ _ hlt s2 fun v H3 s3 r3 => ⟨s3 _ _ d2, small_line (by omega), n - (i + 1), by omega, rfl, hlt, by rw [List.length_append, hl]; rfl, fun b o e => ?_, upd_same, fun j w e => ?_⟩⟩
        · rw [upd_ne (ne_of_none e hD)]; exact s3 _ _ (s2 _ _ e)
        · have t3 : Tup H3 (upd H3 D (.lst (ys ++ [v]))) := Tup.lst (s3 _ _ d2)
          by_cases hj : j < ys.length
          · rw [List.getElem?_append_left hj] at e
            exact hR _ _ _ _ (s3.tup.trans t3) (r2 j w e)
          · rw [List.getElem?_append_right (by omega)] at e
            have hj0 : j - ys.length = 0 := by
              cases q : j - ys.length with
              | zero => rfl
              | succ k => rw [q] at e; simp at e
            rw [hj0] at e
            have e' : v = w := by simpa using e
            have hji : j = i := by omega
            rw [← e', hji]
            exact hR _ _ _ _ t3 r3
  · have e : i = n := by omega
    subst e
    exact .inl ⟨(hJ H2 s2 i).2 rfl, hq D ys H2 hD s2 d2 hl r2⟩
theorem comp2 {f g : Nat → V} (hJ : Plain2 K J H1 n f g) (hn : n ≤ 100000) (R : Nat → V → Hp → Prop) (hR : ∀ i v H H', Tup H H' → R i v H → R i v H')
    (he : ∀ i H2 (k : VK), i < n → Same H1 H2 → (∀ v H3, Same H2 H3 → R i v H3 → k v H3) → te (some (f i) :: some (g i) :: cs) H2 k)
    (hq : ∀ D ys H2, H1 D = none → Same H1 H2 → H2 D = some (.lst ys) → ys.length = n → (∀ i v, ys[i]? = some v → R i v H2) → Q (.ref D) H2) :
    CompGoal 2 J H1 (gTup K 2 (gCons (gName 0) (gCons (gName 1) gNil))) te cs Q := by
  intro D hD
  refine ⟨fun i m ys H2 => m = n - i ∧ i ≤ n ∧ ys.length = i ∧ Same H1 H2 ∧ H2 D = some (.lst ys) ∧ ∀ j v, ys[j]? = some v → R j v H2, ⟨n, by simp, Nat.zero_le _, rfl, Same.new hD, upd_same, fun j v e => by simp at e⟩, ?_⟩
  rintro i m ys H2 ⟨rfl, hi, hl, s2, d2, r2⟩
  by_cases hlt : i < n
  · refine .inr ⟨((hJ H2 s2 i).1 hlt).1, fun x H' y own ho => ?_⟩
    obtain ⟨s2', a, rfl, ht⟩ := ((hJ H2 s2 i).1 hlt).2 x H' y
    cases own with
    | nil => cases ho
    | cons o1 r =>
      cases r with
      | nil => cases ho
      | cons o2 r =>
        cases r with
        | cons _ _ => cases ho
        | nil =>
          refine ⟨a, _, rfl, ht, rfl, _, _, rfl, _, _, rfl, rfl, ⟨[some (f i), some (g i)], rfl, rfl⟩, he i _ _ hlt (s2.trans s2') fun v H3 s3 r3 => ⟨s3 _ _ (s2' _ _ d2), small_line (by omega), n - (i + 1), by omega, rfl, hlt, by rw [List.length_append, hl]; rfl, fun b o e => ?_, upd_same, fun j w e => ?_⟩⟩
          · rw [upd_ne (ne_of_none e hD)]; exact s3 _ _ (s2' _ _ (s2 _ _ e))
          · have t3 : Tup H3 (upd H3 D (.lst (ys ++ [v]))) := Tup.lst (s3 _ _ (s2' _ _ d2))
            by_cases hj : j < ys.length
            · rw [List.getElem?_append_left hj] at e
              exact hR _ _ _ _ ((s2'.trans s3).tup.trans t3) (r2 j w e)
            · rw [List.getElem?_append_right (by omega)] at e
              have hj0 : j - ys.length = 0 := by
                cases q : j - ys.length with
                | zero => rfl
                | succ k => rw [q] at e; simp at e
              rw [hj0] at e
              have e' : v = w := by simpa using e
              have hji : j = i := by omega
              rw [← e', hji]
              exact hR _ _ _ _ t3 r3
  · have e : i = n := by omega
    subst e
    exact .inl ⟨(hJ H2 s2 i).2 rfl, hq D ys H2 hD s2 d2 hl r2⟩
end
/-! ### rules that name K plainly (a comprehension's block hands on no context) -/
section
variable {X : Cx}
theorem ix_listK (K : PySem.W.Frag) (h : X.K = K := by rfl) : IxR X (rIxL K) := by subst h; exact ix_list
theorem ix_tupK (K : PySem.W.Frag) (h : X.K = K := by rfl) : IxR X (rIxT K) := by subst h; exact ix_tup
theorem sl_listK (K : PySem.W.Frag) (h : X.K = K := by rfl) : SlR X (rSlL K) := by subst h; exact sl_list
theorem op_eqDK (K : PySem.W.Frag) (hu : X.A.units + 64 < cLine) (h : X.K = K := by rfl) : OpR X (compareOp .Eq) (rEqD K) := by subst h; exact op_eqD hu
theorem op_neDK (K : PySem.W.Frag) (hu : X.A.units + 64 < cLine) (h : X.K = K := by rfl) : OpR X (compareOp .NotEq) (rNeD K) := by subst h; exact op_neD hu
theorem call_lenK (K : PySem.W.Frag) (h : X.K = K := by rfl) : CallR X (.builtin "len") (fun xs H Q => ∃ p ys, xs = [.ref p] ∧ (SqL K H p ys ∨ SqT K H p ys) ∧ Q (.int ys.length) H) := by subst h; exact call_len_seq
theorem call_isiK (K : PySem.W.Frag) (h : X.K = K := by rfl) : CallR X (.builtin "isinstance") (fun xs H Q => ∃ x T t b, xs = [x, .ty T] ∧ TyOf K H x t ∧ PySem.W.kitOne K t (.type T) = some b ∧ Q (.bl b) H) := by subst h; exact call_isi
theorem pg_tupK (K : PySem.W.Frag) {es : List Expr} {k : Nat} {t : TGs} {n : Nat} {pos : Pos} (hc : X.calm = true) (h : PGs X es t) (hK : X.K = K := by rfl)
    (hn : (assignEach es X.env).length = n := by rfl) (hst : (assignEach es X.env).findIdx? (·.1) = none := by rfl) : PG X (.Tuple es k pos) (gTup K n t) := by subst hK; exact pg_tup hc h hn hst
end
end Cv

namespace Cv
open PySem PySem.Spec PyProof.Rows L2
/-! ### reversed of a list, walked -/
section
variable {X : Cx} {tg : Expr}
end
end Cv

namespace Cv
open PySem PySem.Spec PyProof.Rows L2
section
variable {prog : Program} {w : World} {A : Around} {E : Value → Shared → Prop} {s : Shared}
end
section
variable {X : Cx}
/-- e[::-1], a list -/
noncomputable def tBack (K : PySem.W.Frag) (te : TE) (ts : TO) : TE := fun σ H Q => te σ H fun x H1 => ts σ H1 fun o H2 => o = some (-1) ∧ ∃ (a : Addr) (xs : List V), x = .ref a ∧ SqL K H2 a xs ∧ ∀ l, H2 l = none → Q (.ref l) (upd H2 l (.lst xs.reverse))
theorem pe_backward (K : PySem.W.Frag) {e : Expr} {st : Expr} {te : TE} {ts : TO} {p2 pos : Pos} (he : PE X e te) (hs : PO X (some st) ts) (hK : X.K = K := by rfl) : PE X (.Subscript e (.Slice none none (some st) p2) pos) (tBack K te ts) := by
  subst hK
  intro pins s σ H Q I h
  refine Subscript_ (thn (he pins s σ H _ I h) fun v s1 ⟨x, H1, I1, r1, q1⟩ => ?_)
  refine wpAny_Slice ?_
  rw [evalPart_none]
  refine wpAny_pure ?_
  refine wpAny_pure ?_
  refine thn (hs pins s1 σ H1 _ I1 q1) fun vs s3 ⟨o, H3, I3, pu, q3⟩ => ?_
  obtain ⟨rfl, a, xs, rfl, hq, q⟩ := q3
  cases r1
  have I4 : Inv X pins σ H3 { s3 with heap := s3.heap.push { cls := .type "slice", data := .fields #[.none, .none, vs] } } := I3.kept (t' := s3.toks) fun b ob q => Heap.get?_push_of_some _ q
  obtain ⟨its, r, ht, hz⟩ := I4.list hq
  have hlen := r.length
  have hg : wpAny (model X.prog X.w) X.A (getItem (.ref a) (.ref s3.heap.objs.size)) (EP X pins σ Q) X.xe { s3 with heap := s3.heap.push { cls := .type "slice", data := .fields #[.none, .none, vs] } } := by
    refine wpAny_getItem_list_slice ht.isList (Heap.IsSliceOf.new ..) .none .none pu (by decide) ?_ (by rw [List.size_toArray] <;> omega)
    rw [PySem.W.krv_pick]
    refine ⟨.ref _, _, I4.laid (t' := s3.toks) (o := .lst xs.reverse) (fun b ob q => Heap.get?_push_of_some _ q) (Nat.le_refl _) ?_, rfl, q _ (I4.hok.fresh (Nat.le_refl _))⟩
    exact ⟨by rw [List.length_reverse]; exact hz, _, 0, r.reverse, Heap.get?_push_size _ rfl⟩
  show wpAny (model X.prog X.w) X.A (subscriptTail e (.Slice none none (some st) p2) (.ref a) (.ref s3.heap.objs.size)) (EP X pins σ Q) X.xe { s3 with heap := s3.heap.push { cls := .type "slice", data := .fields #[.none, .none, vs] } }
  exact tail_any (ops := [.ref a, .ref s3.heap.objs.size]) ht.isList.typeIs slot_list_getitem.lookup hg (by with_unfolding_all rfl)
end
end Cv

namespace Cv
open PySem PySem.Spec PyProof.Rows L2
section
variable {X : Cx} {pins : List (Addr × Obj)} {σ : L2.St} {H : Hp} {s : Shared} {h' : Heap}
/-- untracked records of ours have turned, a new object is laid and tracked -/
theorem turnedLay {t' : Nat} {ch : List Addr} {a : Addr} {o : HO} (I : Inv X pins σ H s) (hf : ∀ b ∈ ch, FpOk X pins H b) (k : ∀ b o, b ∉ ch → s.heap.get? b = some o → h'.get? b = some o)
    (ha : s.heap.objs.size ≤ a) (new : ObjOk X.prog X.w (upd H a o) h' a o) : Inv X pins σ (upd H a o) { s with heap := h', toks := t' } := by
  have hna : H a = none := I.hok.fresh ha
  have nit : ∀ b u, H b = some u → b ∉ ch := fun b u e z => by rw [(hf b z).1] at e; cases e
  have up : ∀ b u, H b = some u → upd H a o b = some u := fun b u e => by rw [upd_ne (ne_of_none e hna)]; exact e
  refine I.step (g' := s.gens) (d' := s.drawn) (ch := ch) (fun b hb => ⟨(hf b hb).2.2.2.1, (hf b hb).2.1, (hf b hb).2.2.2.2.1, (hf b hb).2.2.2.2.2⟩) (fun b o _ _ hc e _ => k b o hc e) (fun b o _ _ hc e _ => ⟨o.slots, k b o hc e⟩) (fun b o _ e n => ?_)
    (fun b o hc e => ⟨o, k b o hc e⟩) (fun _ _ e => up _ _ e) (fun _ _ _ e => up _ _ e) (fun b ps e => ⟨#[], by rw [up _ _ e]; simp⟩) (fun m hm => ?_) (fun b u e => ?_) I.bare
  · rw [upd_ne (fun z => by rw [z] at e; exact absurd (Heap.lt_size e) (Nat.not_lt.mpr ha))]; exact n
  · obtain ⟨o, es, ep, ho, r⟩ := hm
    exact ⟨o, es, ep, k _ o (fun z => (hf _ z).2.1 rfl) ho, r⟩
  · by_cases hb : b = a
    · subst hb
      rw [upd_same] at e
      cases e
      exact new
    · rw [upd_ne hb] at e
      refine (I.hok b u e).stay (fun c v hc q => k c v ?_ q) (fun _ q => up _ _ q) fun _ _ q => up _ _ q
      rcases hc with z | z
      · rw [z]; exact nit b u e
      · exact nit c _ z
theorem turnedL {t' : Nat} {ch : List Addr} (I : Inv X pins σ H s) (hf : ∀ b ∈ ch, FpOk X pins H b) (k : ∀ b o, b ∉ ch → s.heap.get? b = some o → h'.get? b = some o) : Inv X pins σ H { s with heap := h', toks := t' } := by
  have nit : ∀ b u, H b = some u → b ∉ ch := fun b u e z => by rw [(hf b z).1] at e; cases e
  refine I.step (g' := s.gens) (d' := s.drawn) (ch := ch) (fun b hb => ⟨(hf b hb).2.2.2.1, (hf b hb).2.1, (hf b hb).2.2.2.2.1, (hf b hb).2.2.2.2.2⟩) (fun b o _ _ hc e _ => k b o hc e) (fun b o _ _ hc e _ => ⟨o.slots, k b o hc e⟩) (fun _ _ _ _ n => n)
    (fun b o hc e => ⟨o, k b o hc e⟩) (fun _ _ e => e) (fun _ _ _ e => e) (fun b ps e => ⟨#[], by rw [e]; simp⟩) (fun m hm => ?_) (fun b u e => ?_) I.bare
  · obtain ⟨o, es, ep, ho, r⟩ := hm
    exact ⟨o, es, ep, k _ o (fun z => (hf _ z).2.1 rfl) ho, r⟩
  · refine (I.hok b u e).stay (fun c v hc q => k c v ?_ q) (fun _ q => q) fun _ _ q => q
    rcases hc with z | z
    · rw [z]; exact nit b u e
    · exact nit c _ z
end
/-! ### zip of two lists, walked by pairs of names -/
section
variable {X : Cx}
/-! ### all, any of a list of truths -/
end
end Cv

namespace Cv
open PySem PySem.Spec PyProof.Rows L2
section
set_option autoImplicit true
@[irreducible] noncomputable def PEi (X : Cx) (e : Expr) (t : TE) : Prop := PE X e t
@[irreducible] noncomputable def PAi (X : Cx) (e : List Expr) (t : TA) : Prop := PA X e t
@[irreducible] noncomputable def PTi (X : Cx) (e : Expr) (t : TT) : Prop := PT X e t
@[irreducible] noncomputable def PWi (X : Cx) (e : Expr) (t : TT) : Prop := PW X e t
@[irreducible] noncomputable def PSi (X : Cx) (e : Stmt) (t : TS) : Prop := PS X e t
@[irreducible] noncomputable def PSsi (X : Cx) (e : List Stmt) (t : TS) : Prop := PSs X e t
@[irreducible] noncomputable def PGi (X : Cx) (e : Expr) (t : TG) : Prop := PG X e t
@[irreducible] noncomputable def PGsi (X : Cx) (e : List Expr) (t : TGs) : Prop := PGs X e t
@[irreducible] noncomputable def PIi (X : Cx) (tg e : Expr) (t : TI) : Prop := PI X tg e t
@[irreducible] noncomputable def POi (X : Cx) (e : Option Expr) (t : TO) : Prop := PO X e t
theorem pvI  (i : Nat) {x : Str} {pos : Pos} (hN : X.N[i]? = some x := by rfl) (hv : Vis X.env.scope x := by first | exact Or.inl rfl | exact Or.inr (Or.inl rfl) | exact Or.inr (Or.inr rfl)) (hd : (x == ("__debug__" : Str)) = false := by decide) (hcd : (x == ("__classdict__" : Str)) = false := by decide) : PEi X (.Name x pos) (tVar i) := by with_unfolding_all exact pv (i := i) (hN := hN) (hv := hv) (hd := hd) (hcd := hcd)
theorem pe_intI  {i j pos} : PEi X (.Constant (.int i) j pos) (tC (.int i)) := by with_unfolding_all exact pe_int 
theorem pe_blI  {b j pos} : PEi X (.Constant (.bool b) j pos) (tC (.bl b)) := by with_unfolding_all exact pe_bl 
theorem pe_nonI  {j pos} : PEi X (.Constant .none j pos) (tC .non) := by with_unfolding_all exact pe_non 
theorem pe_bltnI  {x : Str} {v : V} {u : Value} {pos : Pos} (hg : Gl X x) (hm : X.mg x = none) (hv : bootBuiltins x = some u) (r : RelV v u) (hn : x ≠ "__name__" := by decide) (hd : (x == ("__debug__" : Str)) = false := by decide) : PEi X (.Name x pos) (tC v) := by with_unfolding_all exact pe_bltn (hg := hg) (hm := hm) (hv := hv) (r := r) (hn := hn) (hd := hd)
theorem pe_opI  {op : Operator} {r : R2} (ho : OpR X (binaryOp op) r) (ha : PEi X a ta) (hb : PEi X b tb) : PEi X (.BinOp a op b pos) (tOp r ta tb) := by with_unfolding_all exact pe_op (ho := ho) (ha := ha) (hb := hb)
theorem pe_unI  {op : UnaryOp} {r : V → Hp → VK → Prop} (ho : UnR X (unaryOp op) r) (ha : PEi X a ta) : PEi X (.UnaryOp op a pos) (tUn r ta) := by with_unfolding_all exact pe_un (ho := ho) (ha := ha)
theorem pe_cmpRI  {op : CmpOp} {r : R2} (ho : OpR X (compareOp op) r) (ha : PEi X a ta) (hb : PEi X b tb) (hm : behindInMarks op b = false) : PEi X (.Compare a [op] [b] pos) (tOp r ta tb) := by with_unfolding_all exact pe_cmpR (ho := ho) (ha := ha) (hb := hb) (hm := hm)
theorem pe_andI {rest : List Expr} (ha : PEi X a ta) (hb : PEi X (.BoolOp .And (b :: rest) pos) tb) : PEi X (.BoolOp .And (a :: b :: rest) pos) (tAndV ta tb) := by with_unfolding_all exact pe_and (ha := ha) (hb := hb)
theorem pe_oneI  {op} {t : TE} (h : PEi X a t) : PEi X (.BoolOp op [a] pos) t := by with_unfolding_all exact pe_one (h := h)
theorem pe_fnI  (D : DefOk X.prog X.w X.K X.mg X.base CX k x ps sp) (hr : Room j X.A) (hx : Passes CX X E) (ha : PAi X (e :: es) t) (hk : k ≤ j := by decide) (hg : Gl X x := by rfl) (hdb : (x == ("__debug__" : Str)) = false := by decide) (he : starEach (e :: es) X.env = (false, eval e X.env) :: starEach es X.env := by rfl) (hpl : (backTo pos (starEach es X.env)).any (·.1) = false := by rfl) : PEi X (.Call (.Name x p) (e :: es) [] pos) (tFn sp E t) := by with_unfolding_all exact pe_fn (D := D) (hr := hr) (hx := hx) (ha := ha) (hk := hk) (hg := hg) (hdb := hdb) (he := he) (hpl := hpl)
theorem pe_callBI {id : String} (hc : CallR X (.builtin id) r) (hg : Gl X x) (hm : X.mg x = none) (hv : bootBuiltins x = some (.builtin id)) (ha : PAi X (e :: es) t) (hn : x ≠ "__name__" := by decide) (hdb : (x == ("__debug__" : Str)) = false := by decide) (he : starEach (e :: es) X.env = (false, eval e X.env) :: starEach es X.env := by rfl) (hpl : (backTo pos (starEach es X.env)).any (·.1) = false := by rfl) : PEi X (.Call (.Name x p) (e :: es) [] pos) (tCB r t) := by with_unfolding_all exact pe_callB (hc := hc) (hg := hg) (hm := hm) (hv := hv) (ha := ha) (hn := hn) (hdb := hdb) (he := he) (hpl := hpl)
theorem pe_callTyI  (hc : CallR X (.type T) r) (hg : Gl X x) (hm : X.mg x = none) (hv : bootBuiltins x = some (.type T)) (ha : PAi X (e :: es) t) (hn : x ≠ "__name__" := by decide) (hdb : (x == ("__debug__" : Str)) = false := by decide) (he : starEach (e :: es) X.env = (false, eval e X.env) :: starEach es X.env := by rfl) (hpl : (backTo pos (starEach es X.env)).any (·.1) = false := by rfl) : PEi X (.Call (.Name x p) (e :: es) [] pos) (tCB r t) := by with_unfolding_all exact pe_callTy (hc := hc) (hg := hg) (hm := hm) (hv := hv) (ha := ha) (hn := hn) (hdb := hdb) (he := he) (hpl := hpl)
theorem pe_bmI {id : String} (pa : PlainAttrs T) (slot : Slot T name id) (hty : typeOf (.builtin id) = pure (.type "method_descriptor")) (hm : MtR X id r) (ho : PEi X o to) (ha : PAi X (e :: es) t) (hbase : attributeBase o name X.env (eval o X.env) = eval o X.env := by rfl) (hfew : ((backTo cpos (starEach (e :: es) X.env)).all (fun x => !x.1) && (backToKw cpos (keywordEach [] X.env)).all (fun x => x.1.isSome)
      && decide ((e :: es).length + ([] : List Keyword).length + (if ([] : List Keyword).isEmpty then 0 else 1) < 30)) = true := by rfl) (hline : (apos.endLine == cpos.line) = true := by rfl) (hs : starEach (e :: es) X.env = (false, eval e X.env) :: starEach es X.env := by rfl) (hplain : (backTo cpos (starEach es X.env)).any (·.1) = false := by rfl) : PEi X (.Call (.Attribute o name apos) (e :: es) [] cpos) (tBM X.K T r to t) := by with_unfolding_all exact pe_bm (pa := pa) (slot := slot) (hty := hty) (hm := hm) (ho := ho) (ha := ha) (hbase := hbase) (hfew := hfew) (hline := hline) (hs := hs) (hplain := hplain)
theorem pe_bm0I {id : String} (pa : PlainAttrs T) (slot : Slot T name id) (hty : typeOf (.builtin id) = pure (.type "method_descriptor")) (hm : MtR X id r) (ho : PEi X o to) (hbase : attributeBase o name X.env (eval o X.env) = eval o X.env := by rfl) (hline : (apos.endLine == cpos.line) = true := by rfl) : PEi X (.Call (.Attribute o name apos) [] [] cpos) (tBM0 X.K T r to) := by with_unfolding_all exact pe_bm0 (pa := pa) (slot := slot) (hty := hty) (hm := hm) (ho := ho) (hbase := hbase) (hline := hline)
theorem pe_ixI  {r : R2} (hr : IxR X r) (ha : PEi X a ta) (hb : PEi X b tb) (hs : PlainIx b) : PEi X (.Subscript a b pos) (tOp r ta tb) := by with_unfolding_all exact pe_ix (hr := hr) (ha := ha) (hb := hb) (hs := hs)
theorem pe_sliceI {lo hi : Option Expr} {r : V → Option Int → Option Int → Hp → VK → Prop} (hr : SlR X r) (he : PEi X e te) (hl : POi X lo tl) (hu : POi X hi th) : PEi X (.Subscript e (.Slice lo hi none p2) pos) (tSl r te tl th) := by with_unfolding_all exact pe_slice (hr := hr) (he := he) (hl := hl) (hu := hu)
theorem pe_tupI  {x1} (h : PAi X es t) : PEi X (.Tuple es x1 pos) (tTup t) := by with_unfolding_all exact pe_tup (h := h)
theorem pe_lstI  (h : PAi X es t) : PEi X (.List es pos) (tLst t) := by with_unfolding_all exact pe_lst (h := h)
theorem pe_compSI  {tg elt iter : Expr} {os : List Str} {pos : Pos} {scope : Scope} {wi : TI} {g : TG} {te : TE} {caps : List (Nat × Str)} (N : List Str) (sc : Scope) (hi : PIi X tg iter wi) (hg : ∀ cl C s0 H0 fp, PGi (cxComp X scope cl (os ++ caps.map (·.2)) C s0 H0 fp) tg g) (he : ∀ cl C s0 H0 fp, PEi (cxComp X scope cl (os ++ caps.map (·.2)) C s0 H0 fp) elt te) (ok : compOk N sc scope caps = true) (hN : X.N = N := by rfl) (hsc : X.env.scope = sc := by rfl) (hc : X.calm = true := by rfl) (hfs : ∀ v, foldedSetIterable iter X.env v = pure v := by intro _; rfl) : PEi X (.ListComp elt [⟨tg, iter, [], 0⟩] scope pos) (tCompG os.length wi g te (caps.map (·.1))) := by with_unfolding_all exact pe_compS (N := N) (sc := sc) (hi := hi) (hg := hg) (he := he) (ok := ok) (hN := hN) (hsc := hsc) (hc := hc) (hfs := hfs)
theorem pe_backwardI  (K : PySem.W.Frag) {e : Expr} {st : Expr} {te : TE} {ts : TO} {p2 pos : Pos} (he : PEi X e te) (hs : POi X (some st) ts) (hK : X.K = K := by rfl) : PEi X (.Subscript e (.Slice none none (some st) p2) pos) (tBack K te ts) := by with_unfolding_all exact pe_backward (K := K) (he := he) (hs := hs) (hK := hK)
theorem pa_nilI   : PAi X [] tNil := by with_unfolding_all exact pa_nil 
theorem pa_consI  (ha : PEi X e te) (hr : PAi X es t) (hs : starEach (e :: es) X.env = (false, eval e X.env) :: starEach es X.env := by rfl) : PAi X (e :: es) (tCons te t) := by with_unfolding_all exact pa_cons (ha := ha) (hr := hr) (hs := hs)
theorem pt_cmpRI  {op : CmpOp} {r : R2} (ho : OpR X (compareOp op) r) (ha : PEi X a ta) (hb : PEi X b tb) (hm : behindInMarks op b = false) : PTi X (.Compare a [op] [b] pos) (tTest (tOp r ta tb)) := by with_unfolding_all exact pt_cmpR (ho := ho) (ha := ha) (hb := hb) (hm := hm)
theorem pt_notI  (ha : PTi X a tA) : PTi X (.UnaryOp .Not a pos) (tNot tA) := by with_unfolding_all exact pt_not (ha := ha)
theorem pt_valI  {e : Expr} {t : TE} (h : PEi X e t) (he : ∀ whole, isTrue e X.env whole = (do let v ← whole; standAt e.pos; holding [v] (truthy v)) := by intro _; rfl) : PTi X e (tB t) := by with_unfolding_all exact pt_val (h := h) (he := he)
theorem PW_ptI  {X : Cx} {e : Expr} {t : TT} (h : PWi X e t) : PTi X e t := by with_unfolding_all exact L2.PW.pt (h := h)
theorem pw_and1I  (ha : PTi X a tA) : PWi X (.BoolOp .And [a] pos) tA := by with_unfolding_all exact pw_and1 (ha := ha)
theorem pw_or1I  (ha : PTi X a tA) : PWi X (.BoolOp .Or [a] pos) tA := by with_unfolding_all exact pw_or1 (ha := ha)
theorem pw_andI {rest : List Expr} (ha : PTi X a tA) (hb : PWi X (.BoolOp .And (b :: rest) pos) tB') : PWi X (.BoolOp .And (a :: b :: rest) pos) (tAnd tA tB') := by with_unfolding_all exact pw_and (ha := ha) (hb := hb)
theorem pw_orI {rest : List Expr} (ha : PTi X a tA) (hb : PWi X (.BoolOp .Or (b :: rest) pos) tB') : PWi X (.BoolOp .Or (a :: b :: rest) pos) (tOr tA tB') := by with_unfolding_all exact pw_or (ha := ha) (hb := hb)
theorem pss_nilI   : PSsi X [] tNext := by with_unfolding_all exact pss_nil 
theorem pss_consI {st : Stmt} {rest : List Stmt} (h1 : PSi X st t) (h2 : PSsi X rest u) : PSsi X (st :: rest) (tSeq t u) := by with_unfolding_all exact pss_cons (h1 := h1) (h2 := h2)
theorem pss_oneI {st : Stmt} (h1 : PSi X st t) : PSsi X [st] t := by with_unfolding_all exact pss_one (h1 := h1)
theorem ps_exprI  (he : PEi X e te) (hs : swapsWith e none pos.line X.env = pure false := by rfl) : PSi X (.Expr e pos) (tDrop te) := by with_unfolding_all exact ps_expr (he := he) (hs := hs)
theorem ps_retI  (he : PEi X e te) : PSi X (.Return (some e) pos) (tRet te) := by with_unfolding_all exact ps_ret (he := he)
theorem ps_ifI  {c : Expr} {a b : List Stmt} {tc : TT} (hc : PTi X c tc) (ha : PSsi X a t) (hb : PSsi X b u) : PSi X (.If c a b pos) (tIfS tc t u) := by with_unfolding_all exact ps_if (hc := hc) (ha := ha) (hb := hb)
theorem ps_asgI  {tg e : Expr} {te : TE} {g : TG} (he : PEi X e te) (hg : PGi X tg g) (hs : swapsWithSole [tg] e pos.line X.env = pure false := by rfl) (hw : swappedStores [tg] e X.env = pure none := by rfl) (h1 : (assignEach [tg] X.env).map (·.2) = [assign tg X.env] := by rfl) : PSi X (.Assign [tg] e pos) (tAsg te g) := by with_unfolding_all exact ps_asg (he := he) (hg := hg) (hs := hs) (hw := hw) (h1 := h1)
theorem ps_setI  {i : Nat} {x : Str} {e : Expr} {te : TE} {pos' : Pos} (hN : X.N.Nodup) (hi : X.N[i]? = some x) (hx : Loc X.env.scope x) (he : PEi X e te) (hs : swapsWith e (some (.Name x pos')) pos.line X.env = pure false := by rfl) (hf : X.fn x = true ∨ X.env.scope.names.lookup x = some .local := by first | exact .inl rfl | exact .inr rfl | assumption) : PSi X (.Assign [.Name x pos'] e pos) (tAsg te (gName i)) := by with_unfolding_all exact ps_set (hN := hN) (hi := hi) (hx := hx) (he := he) (hs := hs) (hf := hf)
theorem ps_parI  {i j : Nat} {x y : Str} {a b : Expr} {ta : TA} {px py pt : Pos} {kt k2 pt2} (hc : X.calm = true) (hN : X.N.Nodup) (hi : X.N[i]? = some x) (hj : X.N[j]? = some y) (hij : i ≠ j) (hx : X.env.scope.names.lookup x = some .local) (hy : X.env.scope.names.lookup y = some .local) (ha : PAi X [a, b] ta) (hw : swappedStores [.Tuple [.Name x px, .Name y py] kt pt] (.Tuple [a, b] k2 pt2) X.env = pure (some [x, y])) (hs : swapsWithSole [.Tuple [.Name x px, .Name y py] kt pt] (.Tuple [a, b] k2 pt2) pos.line X.env = pure false := by rfl) : PSi X (.Assign [.Tuple [.Name x px, .Name y py] kt pt] (.Tuple [a, b] k2 pt2) pos) (tPar i j ta) := by with_unfolding_all exact ps_par (hc := hc) (hN := hN) (hi := hi) (hj := hj) (hij := hij) (hx := hx) (hy := hy) (ha := ha) (hw := hw) (hs := hs)
theorem ps_whileI  {c : Expr} {body : List Stmt} {tc : TT} {tb : TS} (hp : PassesOwn (model X.prog X.w) X.A X.env X.xe) (hc : PTi X c tc) (hb : PSsi X body tb) : PSi X (.While c body [] pos) (tWhile tc tb) := by with_unfolding_all exact ps_while (hp := hp) (hc := hc) (hb := hb)
theorem ps_forI  {iter : Expr} {body : List Stmt} {wi : TI} {g : TG} {tb : TS} {pos : Pos} (hp : PassesOwn (model X.prog X.w) X.A X.env X.xe) (hc : X.calm = true) (hi : PIi X tg iter wi) (hg : PGi X tg g) (hb : PSsi X body tb) (hs : ∀ x, foldedSetIterable iter X.env x = pure x := by intro _; rfl) : PSi X (.For tg iter body [] pos) (tFor wi g tb) := by with_unfolding_all exact ps_for (hp := hp) (hc := hc) (hi := hi) (hg := hg) (hb := hb) (hs := hs)
theorem pg_nameI  {i : Nat} {x : Str} (hN : X.N.Nodup) (hi : X.N[i]? = some x) (hx : Loc X.env.scope x) (hf : X.fn x = true ∨ X.env.scope.names.lookup x = some .local := by first | exact .inl rfl | exact .inr rfl | assumption) : PGi X (.Name x pos) (gName i) := by with_unfolding_all exact pg_name (hN := hN) (hi := hi) (hx := hx) (hf := hf)
theorem pgs_nilI   : PGsi X [] gNil := by with_unfolding_all exact pgs_nil 
theorem pgs_consI  {e : Expr} {es : List Expr} {t : TG} {u : TGs} (h1 : PGi X e t) (h2 : PGsi X es u) (hs : (assignEach (e :: es) X.env).map (·.2) = assign e X.env :: (assignEach es X.env).map (·.2) := by rfl) : PGsi X (e :: es) (gCons t u) := by with_unfolding_all exact pgs_cons (h1 := h1) (h2 := h2) (hs := hs)
theorem pg_tupKI  (K : PySem.W.Frag) {es : List Expr} {k : Nat} {t : TGs} {n : Nat} {pos : Pos} (hc : X.calm = true) (h : PGsi X es t) (hK : X.K = K := by rfl) (hn : (assignEach es X.env).length = n := by rfl) (hst : (assignEach es X.env).findIdx? (·.1) = none := by rfl) : PGi X (.Tuple es k pos) (gTup K n t) := by with_unfolding_all exact pg_tupK (K := K) (hc := hc) (h := h) (hK := hK) (hn := hn) (hst := hst)
theorem pg_subI  {o i : Expr} {to ti : TE} {t : TSet} (ho : PEi X o to) (hi : PEi X i ti) (hs : PSet X t) (ha : ∀ v, assign (.Subscript o i pos) X.env v = (do
      let ov ← holding [v] (eval o X.env)
      let iv ← holding [v, ov] (eval i X.env)
      standAt pos
      holding [v, ov, iv] (setItem ov iv v)
      release [v, ov, iv] []) := by intro _; rfl) : PGi X (.Subscript o i pos) (gSub to ti t) := by with_unfolding_all exact pg_sub (ho := ho) (hi := hi) (hs := hs) (ha := ha)
theorem pi_listI  {l : Expr} {tl : TE} (hl : PEi X l tl) : PIi X tg l (iList X.K tl) := by with_unfolding_all exact pi_list (hl := hl)
theorem pi_tupI  {l : Expr} {tl : TE} (hl : PEi X l tl) : PIi X tg l (iTup X.K tl) := by with_unfolding_all exact pi_tup (hl := hl)
theorem pi_range1I  {a : Expr} {ta : TA} {p pos : Pos} (hg : Gl X "range") (hm : X.mg "range" = none) (ha : PAi X [a] ta) (hs : starEach [a] X.env = [(false, eval a X.env)] := by rfl) : PIi X tg (.Call (.Name "range" p) [a] [] pos) (iRng1 ta) := by with_unfolding_all exact pi_range1 (hg := hg) (hm := hm) (ha := ha) (hs := hs)
theorem po_noneI   : POi X none tNoPart := by with_unfolding_all exact po_none 
theorem po_someI  (h : PEi X e te) : POi X (some e) (tPart te) := by with_unfolding_all exact po_some (h := h)
theorem def_okI {P : Program} {w : World} {K : PySem.W.Frag} {mg : Str → Option Value} {base : Heap} {x : Str} {st : Stmt} {N ps : List Str} {k : Nat} {sp : Sp} (F : FunAt K mg x st ps) (S : FnScope N ps (defScope st)) (len : ∀ vs H Q E, sp vs H Q E → vs.length = ps.length) (hbody : ∀ (f : Addr) (cdv : Value) (A : Around) (outer : List Env) (s : Shared) (H : Hp) (vs : List V) (Q : VK) (E : XK), Room k (A.deeper (envOfC x (defScope st) s.heap.objs.size f cdv)) → sp vs H Q E →
      ∃ t, PSsi (cxOf CX0 P w K mg base N x (defScope st) f cdv A outer s H E).nox (defBody st) t ∧ t { nx := fun _ H' => Q .non H', rt := Q } (start N vs) H) : DefOk P w K mg base CX0 (k + 1) x ps sp := by with_unfolding_all exact def_ok (F := F) (S := S) (len := len) (hbody := hbody)
end
end Cv

namespace Cv
open PySem PySem.Spec PyProof.Rows L2
/-! ### the end of a list while an exception is handled; any of a list of truths there -/
section
variable {prog : Program} {w : World} {A : Around} {E : Value → Shared → Prop} {s : Shared}
end
section
variable {X : Cx}
end
end Cv

namespace Cv
open PySem PySem.Spec PyProof.Rows L2
/-! ### promises of what is refused -/
/-! ### is, is not of two truths -/
section
variable {X : Cx}
end
end Cv
namespace Cv
open PySem PySem.Spec PyProof.Rows L2
/-! ### what goes on is read once -/
end Cv

namespace Cv
open PySem PySem.Spec PyProof.Rows L2
/-- a def's body read in two parts: the second one is hidden while the first one is read -/
theorem uln0 {α : Type} {P : List α → Prop} (h : P []) : ∀ us : List α, us.length = 0 → P us
  | [], _ => h
theorem ulnS {α : Type} {n : Nat} {P : List α → Prop} (h : ∀ a, ∀ us : List α, us.length = n → P (a :: us)) : ∀ us : List α, us.length = n + 1 → P us
  | [], e => nomatch e
  | a :: us, e => h a us (Nat.succ.inj e)
@[elab_as_elim] theorem uln1 {α : Type} {P : List α → Prop} (h : ∀ a, P [a]) (us : List α) (hl : us.length = 1) : P us := (ulnS fun a => uln0 (h a)) us hl
@[elab_as_elim] theorem uln2 {α : Type} {P : List α → Prop} (h : ∀ a b, P [a, b]) (us : List α) (hl : us.length = 2) : P us := (ulnS fun a => ulnS fun b => uln0 (h a b)) us hl
@[elab_as_elim] theorem uln3 {α : Type} {P : List α → Prop} (h : ∀ a b c, P [a, b, c]) (us : List α) (hl : us.length = 3) : P us := (ulnS fun a => ulnS fun b => ulnS fun c => uln0 (h a b c)) us hl
@[elab_as_elim] theorem uln4 {α : Type} {P : List α → Prop} (h : ∀ a b c d, P [a, b, c, d]) (us : List α) (hl : us.length = 4) : P us := (ulnS fun a => ulnS fun b => ulnS fun c => ulnS fun d => uln0 (h a b c d)) us hl
end Cv

namespace Cv
open PySem PySem.Spec PyProof.Rows L2
/-! ### loops whose turns do not see what goes on behind them -/
end Cv
namespace Cv
open PySem PySem.Spec PyProof.Rows L2
end Cv
namespace Cv
open PySem PySem.Spec PyProof.Rows L2
section
variable {X : Cx}
theorem call_list_ofKH (K : PySem.W.Frag) (h : X.K = K := by rfl) : CallR X (.type "list") (fun xs H Q => ∃ p ys, xs = [.ref p] ∧ (SqL K H p ys ∨ SqT K H p ys) ∧ ∀ l, H l = none → Q (.ref l) (upd H l (.lst ys))) := by subst h; exact call_list_of
end
end Cv
namespace Cv
open PySem PySem.Spec PyProof.Rows L2
/-! ### steps of a reading, each by one small word -/
end Cv

namespace Cv
open PySem PySem.Spec PyProof.Rows L2
/-! ### points and steps -/
noncomputable def PtV (H : Hp) (v : V) (x y : Rat) : Prop := ∃ a vx vy, v = .ref a ∧ H a = some (.tup [vx, vy]) ∧ ShV H vx x ∧ ShV H vy y
theorem PtV.same {H H' : Hp} {v : V} {x y : Rat} (h : PtV H v x y) (e : Same H H') : PtV H' v x y := by
  obtain ⟨a, vx, vy, rfl, h, h1, h2⟩ := h
  exact ⟨a, vx, vy, rfl, e _ _ h, h1.same e, h2.same e⟩
end Cv
namespace Cv
open PySem PySem.Spec PyProof.Rows L2
/-! ### pairs that are not in lowest terms, as the law reckons them -/
noncomputable def RwV (H : Hp) (v : V) (t b : Int) : Prop := ∃ a, v = .ref a ∧ H a = some (.tup [.int t, .int b])
theorem RwV.same {H H' : Hp} {v : V} {t b : Int} (h : RwV H v t b) (e : Same H H') : RwV H' v t b := by
  obtain ⟨a, rfl, h⟩ := h
  exact ⟨a, rfl, e _ _ h⟩
theorem ShV.rw {H : Hp} {v : V} {q : Rat} (h : ShV H v q) : RwV H v q.num q.den := h
end Cv

namespace Cv
open PySem PySem.Spec PyProof.Rows L2
theorem upd_keep {H : Hp} {p b : Addr} {o x : HO} (h : H p = none) (e : H b = some x) : upd H p o b = some x := by rw [upd_ne (ne_of_none e h)]; exact e
theorem Bd.zero' : Bd 1 (0 : Rat) := ⟨⟨by decide⟩, ⟨by decide⟩⟩
theorem Bd.one' : Bd 1 (1 : Rat) := ⟨⟨by decide⟩, ⟨by decide⟩⟩
theorem PtV.tup {H H' : Hp} {v : V} {x y : Rat} (h : PtV H v x y) (e : Tup H H') : PtV H' v x y := by
  obtain ⟨a, vx, vy, rfl, h, h1, h2⟩ := h
  exact ⟨a, vx, vy, rfl, e _ _ h, h1.tup e, h2.tup e⟩
theorem RwV.tup {H H' : Hp} {v : V} {x y : Int} (h : RwV H v x y) (e : Tup H H') : RwV H' v x y := by
  obtain ⟨a, rfl, h⟩ := h
  exact ⟨a, rfl, e _ _ h⟩
theorem SqL.same' {K : PySem.W.Frag} {H H' : Hp} {a : Addr} {xs : List V} (h : SqL K H a xs) (e : Same H H') : SqL K H' a xs := e.seq h
theorem SqT.same' {K : PySem.W.Frag} {H H' : Hp} {a : Addr} {xs : List V} (h : SqT K H a xs) (e : Same H H') : SqT K H' a xs := SqT.same e h
end Cv

namespace Cv
open PySem PySem.Spec PyProof.Rows L2
/-! ### pairs not in lowest terms, by what they are worth -/
noncomputable def RwQ (H : Hp) (v : V) (r : Rat) (n : Nat) : Prop := ∃ t b : Int, RwV H v t b ∧ 0 < b ∧ (t : Rat) = r * (b : Rat) ∧ Sz n t ∧ Sz n b
theorem RwQ.same {H H' : Hp} {v : V} {r : Rat} {n : Nat} (h : RwQ H v r n) (e : Same H H') : RwQ H' v r n := by
  obtain ⟨t, b, h1, h2⟩ := h
  exact ⟨t, b, h1.same e, h2⟩
theorem RwQ.tup {H H' : Hp} {v : V} {r : Rat} {n : Nat} (h : RwQ H v r n) (e : Tup H H') : RwQ H' v r n := by
  obtain ⟨t, b, h1, h2⟩ := h
  exact ⟨t, b, h1.tup e, h2⟩
theorem cast_ne {b : Int} (h : 0 < b) : (b : Rat) ≠ 0 := by
  intro z
  have : b = 0 := by exact_mod_cast z
  omega
theorem mulN {n m : Nat} {i j : Int} (h1 : Sz n i) (h2 : Sz m j) (h : n + m ≤ 100000000) : CMulA i j := mulB h1 h2 h
end Cv

namespace Cv
/-! ### curves by rows, over Rat -/
noncomputable abbrev Pt := Rat × Rat
/-! ### sizes: tops over one bottom -/
noncomputable def Ov (D : Int) (n : Nat) (x : Rat) : Prop := ∃ m : Int, x * (D : Rat) = (m : Rat) ∧ Sz n m
theorem Ov.mono {D : Int} {n k : Nat} {x : Rat} (h : Ov D n x) (hk : n ≤ k) : Ov D k x := by
  obtain ⟨m, e, z⟩ := h
  exact ⟨m, e, z.mono hk⟩
theorem Ov.bd {D : Int} {n d : Nat} {x : Rat} (h : Ov D n x) (hD : D ≠ 0) (hd : Sz d D) : Bd (max n d) x := by
  obtain ⟨m, e, z⟩ := h
  rw [eq_divInt hD e]
  exact Bd.of z hd hD
theorem Ov.add {D E : Int} {n m d e : Nat} {x y : Rat} (hx : Ov D n x) (hy : Ov E m y) (hd : Sz d D) (he : Sz e E) : Ov (D * E) (max (n + e) (m + d) + 1) (x + y) := by
  obtain ⟨m1, e1, z1⟩ := hx
  obtain ⟨m2, e2, z2⟩ := hy
  refine ⟨m1 * E + m2 * D, ?_, ?_⟩
  · simp only [Rat.intCast_add, Rat.intCast_mul]
    rw [← e1, ← e2]; grind
  · exact ((z1.mul he).add (z2.mul hd)).mono (by omega)
theorem Ov.mul {D E : Int} {n m : Nat} {x y : Rat} (hx : Ov D n x) (hy : Ov E m y) : Ov (D * E) (n + m) (x * y) := by
  obtain ⟨m1, e1, z1⟩ := hx
  obtain ⟨m2, e2, z2⟩ := hy
  refine ⟨m1 * m2, ?_, z1.mul z2⟩
  simp only [Rat.intCast_mul]
  rw [← e1, ← e2]; grind
theorem Bd.ov {n : Nat} {x : Rat} (h : Bd n x) : Ov x.den n x := ⟨x.num, (num_cast x).symm, h.num⟩
noncomputable def OvP (D : Int) (n : Nat) (p : Pt) : Prop := Ov D n p.1 ∧ Ov D n p.2
theorem sz_pow {a : Nat} {x : Int} (h : Sz a x) : ∀ r : Nat, Sz (r * a + 1) (x ^ r)
  | 0 => ⟨by simp⟩
  | r + 1 => by
    rw [Int.pow_succ]
    exact ((sz_pow h r).mul h).mono (by rw [Nat.succ_mul]; omega)
end Cv

namespace Cv
open PySem PySem.Spec PyProof.Rows L2
/-! ### lists of points -/
structure PtsV (H : Hp) (vs : List V) (ps : List Pt) : Prop where
  len : vs.length = ps.length
  get : ∀ (i : Nat) v p, vs[i]? = some v → ps[i]? = some p → PtV H v p.1 p.2
theorem PtsV.tup {H H' : Hp} {vs : List V} {ps : List Pt} (h : PtsV H vs ps) (t : Tup H H') : PtsV H' vs ps := ⟨h.len, fun i v p e1 e2 => (h.get i v p e1 e2).tup t⟩
theorem PtsV.same {H H' : Hp} {vs : List V} {ps : List Pt} (h : PtsV H vs ps) (t : Same H H') : PtsV H' vs ps := h.tup t.tup
theorem PtsV.nil (H : Hp) : PtsV H [] [] := ⟨rfl, fun i v p e _ => by simp at e⟩
theorem PtsV.snoc {H : Hp} {vs : List V} {ps : List Pt} {v : V} {p : Pt} (h : PtsV H vs ps) (hv : PtV H v p.1 p.2) : PtsV H (vs ++ [v]) (ps ++ [p]) := by
  refine ⟨by simp [h.len], fun i w q e1 e2 => ?_⟩
  by_cases hi : i < vs.length
  · rw [List.getElem?_append_left hi] at e1
    rw [List.getElem?_append_left (by rw [← h.len]; exact hi)] at e2
    exact h.get i w q e1 e2
  · rw [List.getElem?_append_right (by omega)] at e1
    rw [List.getElem?_append_right (by rw [← h.len]; omega), ← h.len] at e2
    cases hk : i - vs.length with
    | zero =>
      rw [hk] at e1 e2
      simp at e1 e2
      subst e1 e2
      exact hv
    | succ k => rw [hk] at e1; simp at e1
theorem PtsV.at {H : Hp} {vs : List V} {ps : List Pt} (h : PtsV H vs ps) {i : Nat} {p : Pt} (hp : ps[i]? = some p) : ∃ v, vs[i]? = some v ∧ PtV H v p.1 p.2 := by
  have hi : i < ps.length := (List.getElem?_eq_some_iff.mp hp).1
  have e : vs[i]? = some (vs[i]'(by rw [h.len]; exact hi)) := List.getElem?_eq_getElem _
  exact ⟨_, e, h.get i _ p e hp⟩
theorem PtsV.of {H : Hp} {vs : List V} {ps : List Pt} (hl : vs.length = ps.length) (h : ∀ (i : Nat) v p, vs[i]? = some v → ps[i]? = some p → PtV H v p.1 p.2) : PtsV H vs ps := ⟨hl, h⟩
noncomputable def datPt (p : Pt) : PySem.W.Dat := .tuple [datSh p.1, datSh p.2]
noncomputable def datPts (ps : List Pt) : PySem.W.Dat := .list (ps.map datPt)
theorem datPt_ok (p : Pt) (n : Nat) : PySem.W.kqdOk (n + 2) (datPt p) = true := by
  have h1 := datSh_ok p.1 n
  have h2 := datSh_ok p.2 n
  simp [datPt, PySem.W.kqdOk, h1, h2]
theorem datPts_ok (ps : List Pt) (n : Nat) : PySem.W.kqdOk (n + 3) (datPts ps) = true := by
  have h : ∀ p : Pt, PySem.W.kqdOk (n + 2) (datPt p) = true := fun p => datPt_ok p n
  simp [datPts, PySem.W.kqdOk, h]
theorem PtV.dn {K : PySem.W.Frag} {H : Hp} {v : V} {p : Pt} (h : PtV H v p.1 p.2) : Dn K H (datPt p) v := by
  obtain ⟨a, vx, vy, rfl, h, h1, h2⟩ := h
  unfold datPt
  simp only [Dn, DnAll]
  exact ⟨a, _, rfl, SqT.of h, _, _, rfl, h1.dn, _, _, rfl, h2.dn, rfl⟩
theorem dnAll_pts {K : PySem.W.Frag} {H : Hp} : ∀ {ps : List Pt} {vs : List V}, PtsV H vs ps → DnAll K H (ps.map datPt) vs
  | [], vs, h => by
    have : vs = [] := List.length_eq_zero_iff.mp h.len
    subst this
    simp [DnAll]
  | p :: ps, vs, h => by
    cases vs with
    | nil => have := h.len; simp at this
    | cons v vs =>
      simp only [List.map_cons, DnAll]
      exact ⟨v, vs, rfl, (h.get 0 v p rfl rfl).dn, dnAll_pts ⟨by have := h.len; simpa using this, fun i w q e1 e2 => h.get (i + 1) w q (by simpa using e1) (by simpa using e2)⟩⟩
theorem PtsV.dn {K : PySem.W.Frag} {H : Hp} {a : Addr} {vs : List V} {ps : List Pt} (h : PtsV H vs ps) (hs : SqL K H a vs) : Dn K H (datPts ps) (.ref a) := by
  unfold datPts
  simp only [Dn]
  exact ⟨a, vs, rfl, hs, dnAll_pts h⟩
/-! ### promises of the law's helpers -/
theorem atI_last' {α : Type} (xs : List α) (v : α) (h : xs[xs.length - 1]? = some v) (hl : 1 ≤ xs.length) : atI xs (-1) = some v := by
  rcases List.eq_nil_or_concat xs with rfl | ⟨ys, y, rfl⟩
  · simp at hl
  · have : (ys ++ [y])[ys.length]? = some v := by simpa using h
    have e : y = v := by simpa using this
    subst e
    have := atI_last ys y
    simpa using this
theorem atI_nat' {α : Type} {xs : List α} {j : Nat} {i : Int} {v : α} (e : i = (j : Int)) (h : xs[j]? = some v) : atI xs i = some v := by subst e; exact atI_nat h
end Cv

namespace Cv
open PySem PySem.Spec PyProof.Rows L2
theorem cut_from {α : Type} (f : α → V) (xs : List α) (k : Nat) (h : k ≤ xs.length) : cutV (xs.map f) (some (k : Int)) none = (xs.drop k).map f := by
  unfold cutV
  have e : HT.sIx (xs.map f).length 0 (some (k : Int)) = k := by
    have := HT.sIx_nat (xs.map f).length 0 k
    rw [List.length_map] at this
    rw [List.length_map]
    exact this.trans (by omega)
  rw [e, HT.sIx_none, ← List.map_drop]
  refine List.take_of_length_le ?_
  rw [List.length_map, List.length_drop, List.length_map]
  omega
theorem cut_fromI {α : Type} (f : α → V) (xs : List α) (k : Int) (n : Nat) (e : k = (n : Int)) (h : n ≤ xs.length) : cutV (xs.map f) (some k) none = (xs.drop n).map f := by subst e; exact cut_from f xs n h
theorem low_gcd {t b x : Int} (hx : 0 ≤ x) (e : Int.gcd x 0 = Int.gcd t b) : x = (Int.gcd t b : Int) := by
  rw [Int.gcd_zero] at e
  omega
theorem ov_divInt {B m : Int} {n : Nat} (hB : B ≠ 0) (h : Sz n m) : Ov B n (Rat.divInt m B) := by
  refine ⟨m, ?_, h⟩
  rw [Rat.divInt_eq_div]
  have hb' : (B : Rat) ≠ 0 := by
    intro z
    exact hB (by exact_mod_cast z)
  grind
/-- a list of lists of points -/
theorem getD_bnd {T : List Int} {lo hi : Int} (h : ∀ x ∈ T, lo ≤ x ∧ x ≤ hi) {j : Nat} (hj : j < T.length) : lo ≤ T.getD j 0 ∧ T.getD j 0 ≤ hi := by
  rw [List.getD_eq_getElem?_getD, List.getElem?_eq_getElem hj]
  exact h _ (List.getElem_mem hj)
/-- an item of a written table of numbers, and its bounds -/
theorem tab (T : List Int) (lo hi i : Int) (h : ∀ x ∈ T, lo ≤ x ∧ x ≤ hi) (h0 : 0 ≤ i) (h1 : i < (T.length : Int)) : ∃ v : Int, atI (T.map V.int) i = some (.int v) ∧ lo ≤ v ∧ v ≤ hi :=
  ⟨_, at_mapZ T i h0 h1, getD_bnd h (by omega)⟩
theorem sh_int (i : Int) : ((i : Rat).num = i) ∧ ((i : Rat).den = 1) := ⟨by simp, by simp⟩
theorem ShV.int {H : Hp} {a : Addr} {i : Int} (h : H a = some (.tup [.int i, .int 1])) : ShV H (.ref a) (i : Rat) := ⟨a, rfl, by rw [(sh_int i).1, (sh_int i).2]; exact h⟩
theorem Bd.intc {n : Nat} {i : Int} (h : Sz (n + 1) i) : Bd (n + 1) (i : Rat) := ⟨by rw [(sh_int i).1]; exact h, by rw [(sh_int i).2]; exact Sz.one.mono (by omega)⟩
theorem p29 : (10 : Int) ^ (29 : Int).toNat = 100000000000000000000000000000 := by decide
theorem p9 : (10 : Int) ^ (9 : Int).toNat = 1000000000 := by decide
end Cv

namespace Cv
open PySem PySem.Spec PyProof.Rows L2
/-! ### maps -/
structure Mp where
  a : Rat
  b : Rat
  c : Rat
  d : Rat
  e : Rat
  f : Rat
noncomputable def MpV (H : Hp) (v : V) (m : Mp) : Prop := ∃ x v0 v1 v2 v3 v4 v5, v = .ref x ∧ H x = some (.tup [v0, v1, v2, v3, v4, v5]) ∧ ShV H v0 m.a ∧ ShV H v1 m.b ∧ ShV H v2 m.c ∧ ShV H v3 m.d ∧ ShV H v4 m.e ∧ ShV H v5 m.f
theorem MpV.tup {H H' : Hp} {v : V} {m : Mp} (h : MpV H v m) (t : Tup H H') : MpV H' v m := by
  obtain ⟨x, v0, v1, v2, v3, v4, v5, rfl, h, h0, h1, h2, h3, h4, h5⟩ := h
  exact ⟨x, v0, v1, v2, v3, v4, v5, rfl, t _ _ h, h0.tup t, h1.tup t, h2.tup t, h3.tup t, h4.tup t, h5.tup t⟩
theorem MpV.same {H H' : Hp} {v : V} {m : Mp} (h : MpV H v m) (t : Same H H') : MpV H' v m := h.tup t.tup
/-! the mathematics -/
theorem Ov.scale {D E : Int} {n e : Nat} {x : Rat} (h : Ov D n x) (he : Sz e E) : Ov (D * E) (n + e) x := by
  obtain ⟨m, e1, z⟩ := h
  refine ⟨m * E, ?_, z.mul he⟩
  rw [Rat.intCast_mul, Rat.intCast_mul, ← e1]; grind
theorem Ov.scaleL {D E : Int} {n e : Nat} {x : Rat} (h : Ov D n x) (he : Sz e E) : Ov (E * D) (n + e) x := by
  rw [Int.mul_comm]; exact h.scale he
/-! shares in a list, each of a bounded size -/
noncomputable def ShsV (n : Nat) (H : Hp) (vs : List V) : Prop := ∀ (i : Nat) v, vs[i]? = some v → ∃ q, ShV H v q ∧ Bd n q
theorem ShsV.tup {n : Nat} {H H' : Hp} {vs : List V} (h : ShsV n H vs) (t : Tup H H') : ShsV n H' vs := fun i v e => let ⟨q, w, b⟩ := h i v e; ⟨q, w.tup t, b⟩
theorem ShsV.mono {n m : Nat} {H : Hp} {vs : List V} (h : ShsV n H vs) (hm : n ≤ m) : ShsV m H vs := fun i v e => let ⟨q, w, b⟩ := h i v e; ⟨q, w, b.mono hm⟩
theorem PtsV.one {H : Hp} {v : V} {p : Pt} (h : PtV H v p.1 p.2) : PtsV H [v] [p] := ⟨rfl, fun i w q e1 e2 => by
  cases i with
  | zero => simp at e1 e2; subst e1 e2; exact h
  | succ i => simp at e1⟩
theorem dnP {K : PySem.W.Frag} {H : Hp} {a : Addr} {vs : List V} {ps : List Pt} (hs : H a = some (.lst vs)) (h : PtsV H vs ps) : Dn K H (datPts ps) (.ref a) := h.dn (SqL.of hs)
end Cv

namespace Cv
/-! ### axes: tops over all the bottoms -/
noncomputable def prodI : List Int → Int
  | [] => 1
  | b :: r => b * prodI r
theorem prodI_append (xs ys : List Int) : prodI (xs ++ ys) = prodI xs * prodI ys := by
  induction xs with
  | nil => simp [prodI]
  | cons x r ih => simp only [List.cons_append, prodI, ih, Int.mul_assoc]
theorem prodI_snoc (xs : List Int) (y : Int) : prodI (xs ++ [y]) = prodI xs * y := by rw [prodI_append]; simp [prodI]
theorem prodI_pos {xs : List Int} (h : ∀ x ∈ xs, 0 < x) : 0 < prodI xs := by
  induction xs with
  | nil => decide
  | cons x r ih => exact Int.mul_pos (h x (.head _)) (ih fun y hy => h y (.tail _ hy))
noncomputable def axR (tops bs : List Int) : List Rat := tops.map fun x => Rat.divInt x (prodI bs)
/-! ### lowest terms, bottom by bottom -/
theorem int_dvd {y x u : Int} (hc : Int.gcd y x = 1) (h : y ∣ x * u) : y ∣ u := by
  have h2 : y.natAbs ∣ x.natAbs * u.natAbs := by rw [← Int.natAbs_mul]; exact Int.natAbs_dvd_natAbs.mpr h
  exact Int.natAbs_dvd_natAbs.mp (Nat.Coprime.dvd_of_dvd_mul_left hc h2)
theorem gcd_parts (a b : Int) (hb : 0 < b) : ∃ g x y : Int, (Int.gcd a b : Int) = g ∧ 0 < g ∧ a = g * x ∧ b = g * y ∧ Int.gcd x y = 1 ∧ 0 < y ∧ a.fdiv g = x ∧ b.fdiv g = y := by
  have g0 : 0 < (Int.gcd a b : Int) := by
    have := Int.gcd_pos_of_ne_zero_right a (show b ≠ 0 by omega)
    omega
  obtain ⟨x, hx⟩ : (Int.gcd a b : Int) ∣ a := Int.gcd_dvd_left ..
  obtain ⟨y, hy⟩ : (Int.gcd a b : Int) ∣ b := Int.gcd_dvd_right ..
  have hc : Int.gcd x y = 1 := by
    have h1 : Int.gcd a b = Int.gcd ((Int.gcd a b : Int) * x) ((Int.gcd a b : Int) * y) := by rw [← hx, ← hy]
    rw [Int.gcd_mul_left, Int.natAbs_natCast] at h1
    have h2 : 0 < Int.gcd a b := by omega
    have h3 : Int.gcd a b * 1 = Int.gcd a b * Int.gcd x y := by rw [Nat.mul_one]; exact h1
    exact (Nat.eq_of_mul_eq_mul_left h2 h3).symm
  generalize (Int.gcd a b : Int) = g at g0 hx hy
  have hyp : 0 < y := by
    rw [hy] at hb
    rcases Int.lt_trichotomy y 0 with h | h | h
    · have := Int.mul_neg_of_pos_of_neg g0 h; omega
    · rw [h, Int.mul_zero] at hb; omega
    · exact h
  refine ⟨g, x, y, rfl, g0, hx, hy, hc, hyp, ?_, ?_⟩
  · rw [Int.fdiv_eq_ediv_of_nonneg _ (Int.le_of_lt g0), hx]
    exact Int.mul_ediv_cancel_left _ (by omega)
  · rw [Int.fdiv_eq_ediv_of_nonneg _ (Int.le_of_lt g0), hy]
    exact Int.mul_ediv_cancel_left _ (by omega)
/-! ### a common bottom -/
theorem den_dvd {q : Rat} {D : Int} {n : Nat} (h : Ov D n q) : (q.den : Int) ∣ D := by
  obtain ⟨m, e, _⟩ := h
  have h1 := num_cast q
  have hd := den_cast_ne q
  have e2 : (q.num : Rat) * (D : Rat) = (m : Rat) * ((q.den : Int) : Rat) := by rw [h1, ← e]; grind
  have e3 : q.num * D = m * q.den := by exact_mod_cast e2
  have hr : Int.gcd q.den q.num = 1 := by rw [Int.gcd_comm]; exact q.reduced
  exact int_dvd hr ⟨m, by rw [e3]; exact Int.mul_comm ..⟩
theorem lcm_step {W d D : Int} (hd : 0 < d) (h1 : W ∣ D) (h2 : d ∣ D) : d ∣ W * d.fdiv (Int.gcd W d) ∧ W * d.fdiv (Int.gcd W d) ∣ D ∧ 0 < d.fdiv (Int.gcd W d) ∧ 0 < (Int.gcd W d : Int) ∧ (Int.gcd W d : Int) ∣ d := by
  obtain ⟨g, x, y, eg, g0, hx, hy, hc, hyp, ex, ey⟩ := gcd_parts W d hd
  rw [eg, ey]
  refine ⟨⟨x, by rw [hx, hy]; grind⟩, ?_, hyp, g0, ⟨y, hy⟩⟩
  obtain ⟨u, hu⟩ := h1
  obtain ⟨v, hv⟩ := h2
  have e : x * u = y * v := by
    have : g * (x * u) = g * (y * v) := by rw [← Int.mul_assoc, ← Int.mul_assoc, ← hx, ← hy, ← hu, hv]
    exact Int.eq_of_mul_eq_mul_left (by omega) this
  obtain ⟨w, hw⟩ := int_dvd (y := y) (x := x) (u := u) (by rw [Int.gcd_comm]; exact hc) ⟨v, e⟩
  exact ⟨w, by rw [hu, hw]; grind⟩
theorem sz_dvd {n : Nat} {x D : Int} (hD : D ≠ 0) (h : x ∣ D) (z : Sz n D) : Sz n x := z.le (Nat.le_of_dvd (by omega) (Int.natAbs_dvd_natAbs.mpr h))
end Cv

namespace Cv
open PySem PySem.Spec PyProof.Rows L2
/-! ### lists of shares, axes -/
structure ShL (H : Hp) (vs : List V) (qs : List Rat) : Prop where
  len : vs.length = qs.length
  get : ∀ (i : Nat) v q, vs[i]? = some v → qs[i]? = some q → ShV H v q
theorem ShL.tup {H H' : Hp} {vs : List V} {qs : List Rat} (h : ShL H vs qs) (t : Tup H H') : ShL H' vs qs := ⟨h.len, fun i v q e1 e2 => (h.get i v q e1 e2).tup t⟩
theorem ShL.same {H H' : Hp} {vs : List V} {qs : List Rat} (h : ShL H vs qs) (t : Same H H') : ShL H' vs qs := h.tup t.tup
theorem ShL.at {H : Hp} {vs : List V} {qs : List Rat} (h : ShL H vs qs) {i : Nat} {q : Rat} (hq : qs[i]? = some q) : ∃ v, vs[i]? = some v ∧ ShV H v q := by
  have hi : i < qs.length := (List.getElem?_eq_some_iff.mp hq).1
  have e : vs[i]? = some (vs[i]'(by rw [h.len]; exact hi)) := List.getElem?_eq_getElem _
  exact ⟨_, e, h.get i _ q e hq⟩
theorem ShL.atV {H : Hp} {vs : List V} {qs : List Rat} (h : ShL H vs qs) {i : Nat} {v : V} (hv : vs[i]? = some v) : ∃ q, qs[i]? = some q ∧ ShV H v q := by
  have hi : i < vs.length := (List.getElem?_eq_some_iff.mp hv).1
  have e : qs[i]? = some (qs[i]'(by rw [← h.len]; exact hi)) := List.getElem?_eq_getElem _
  exact ⟨_, e, h.get i v _ hv e⟩
theorem PtsV.atV {H : Hp} {vs : List V} {ps : List Pt} (h : PtsV H vs ps) {i : Nat} {v : V} (hv : vs[i]? = some v) : ∃ p, ps[i]? = some p ∧ PtV H v p.1 p.2 := by
  have hi : i < vs.length := (List.getElem?_eq_some_iff.mp hv).1
  have e : ps[i]? = some (ps[i]'(by rw [← h.len]; exact hi)) := List.getElem?_eq_getElem _
  exact ⟨_, e, h.get i v _ hv e⟩
noncomputable def AxV (H : Hp) (v : V) (n : Nat) (tops bs : List Int) : Prop := ∃ a lt lb, v = .ref a ∧ H a = some (.tup [.ref lt, .ref lb]) ∧ H lt = some (.lst (tops.map V.int)) ∧ H lb = some (.lst (bs.map V.int)) ∧ (∀ x ∈ tops, Sz n x) ∧ (∀ b ∈ bs, 0 < b ∧ Sz 9000 b) ∧ bs.length ≤ 100 ∧ tops.length ≤ 1000
theorem AxV.same {H H' : Hp} {v : V} {n : Nat} {tops bs : List Int} (h : AxV H v n tops bs) (s : Same H H') : AxV H' v n tops bs := by
  obtain ⟨a, lt, lb, e, h1, h2, h3, h4⟩ := h
  exact ⟨a, lt, lb, e, s _ _ h1, s _ _ h2, s _ _ h3, h4⟩
noncomputable def spCommon (K : PySem.W.Frag) : Sp := fun vs H Q _ => ∃ (a : Addr) (ws : List V) (qs : List Rat) (D : Int), vs = [.ref a] ∧ SqL K H a ws ∧ ShL H ws qs ∧ 0 < D ∧ Sz 9000 D ∧ (∀ q ∈ qs, (q.den : Int) ∣ D) ∧ qs.length ≤ 40 ∧
  ∀ (l : Addr) (bs : List Int) (H' : Hp), Same H H' → H' l = some (.lst (bs.map V.int)) → (∀ b ∈ bs, 0 < b ∧ Sz 9000 b) → (∀ q ∈ qs, (q.den : Int) ∣ prodI bs) → prodI bs ∣ D → bs.length ≤ qs.length → Q (.ref l) H'
noncomputable def spProduct (K : PySem.W.Frag) : Sp := fun vs H Q _ => ∃ (a : Addr) (bs : List Int), vs = [.ref a] ∧ SqL K H a (bs.map V.int) ∧ (∀ b ∈ bs, 0 < b ∧ Sz 9000 b) ∧ bs.length ≤ 100 ∧ Q (.int (prodI bs)) H
noncomputable def spAxis (K : PySem.W.Frag) : Sp := fun vs H Q _ => ∃ (a : Addr) (ws : List V) (qs : List Rat) (D : Int) (m : Nat), vs = [.ref a] ∧ SqL K H a ws ∧ ShL H ws qs ∧ 0 < D ∧ Sz 9000 D ∧ (∀ q ∈ qs, (q.den : Int) ∣ D ∧ Bd m q) ∧ m ≤ 9000 ∧ qs.length ≤ 40 ∧
  ∀ v tops bs H', Same H H' → AxV H' v (m + 9000) tops bs → axR tops bs = qs → bs.length ≤ qs.length → Q v H'
noncomputable def spAxes (K : PySem.W.Frag) : Sp := fun vs H Q _ => ∃ (a : Addr) (ws : List V) (ps : List Pt) (D : Int) (m : Nat), vs = [.ref a] ∧ SqL K H a ws ∧ PtsV H ws ps ∧ 0 < D ∧ Sz 9000 D ∧ (∀ p ∈ ps, ((p.1.den : Int) ∣ D ∧ Bd m p.1) ∧ (p.2.den : Int) ∣ D ∧ Bd m p.2) ∧ m ≤ 9000 ∧ ps.length ≤ 40 ∧
  ∀ c x y t1 b1 t2 b2 H', Same H H' → H' c = some (.tup [x, y]) → AxV H' x (m + 9000) t1 b1 → AxV H' y (m + 9000) t2 b2 → axR t1 b1 = ps.map (·.1) → axR t2 b2 = ps.map (·.2) → b1.length ≤ ps.length → b2.length ≤ ps.length → Q (.ref c) H'
/-! the mathematics of the loops -/
theorem prod_sz {bs : List Int} (h : ∀ b ∈ bs, 0 < b ∧ Sz 9000 b) : Sz (9000 * bs.length + 1) (prodI bs) := by
  induction bs with
  | nil => exact ⟨by decide⟩
  | cons b r ih =>
    show Sz _ (b * prodI r)
    exact ((h b (.head _)).2.mul (ih fun c hc => h c (.tail _ hc))).mono (by rw [List.length_cons]; omega)
theorem top_of {q : Rat} {W : Int} (hW : 0 < W) (h : (q.den : Int) ∣ W) : Rat.divInt (q.num * W.fdiv q.den) W = q := by
  have hd : 0 < (q.den : Int) := by have := q.den_pos; omega
  obtain ⟨w, hw⟩ := h
  have e : W.fdiv q.den = w := by
    rw [Int.fdiv_eq_ediv_of_nonneg _ (Int.le_of_lt hd)]
    conv => lhs; rw [hw]
    exact Int.mul_ediv_cancel_left _ (by omega)
  rw [e]
  symm
  refine eq_divInt (by omega) ?_
  have h1 := num_cast q
  rw [hw]
  simp only [Rat.intCast_mul]
  rw [h1]; grind
theorem quo_sz {n : Nat} {W d : Int} (hW : 0 < W) (hd : 0 < d) (h : d ∣ W) (z : Sz n W) : Sz n (W.fdiv d) := by
  obtain ⟨w, hw⟩ := h
  have e : W.fdiv d = w := by
    rw [Int.fdiv_eq_ediv_of_nonneg _ (Int.le_of_lt hd)]
    conv => lhs; rw [hw]
    exact Int.mul_ediv_cancel_left _ (by omega)
  rw [e]
  exact sz_dvd (by omega) ⟨d, by rw [hw]; exact Int.mul_comm ..⟩ z
theorem ints_at {bs : List Int} {i : Nat} {x : V} (h : (bs.map V.int)[i]? = some x) : ∃ b, bs[i]? = some b ∧ x = .int b := by
  rw [List.getElem?_map] at h
  cases e : bs[i]? with
  | none => rw [e] at h; cases h
  | some b => rw [e] at h; cases h; exact ⟨b, rfl, rfl⟩
theorem take_snoc {α : Type} {bs : List α} {i : Nat} {b : α} (h : bs[i]? = some b) : bs.take (i + 1) = bs.take i ++ [b] := by rw [List.take_succ, h]; rfl
theorem ints_of {α : Type} {ys : List V} {qs : List α} {f : α → Int} (hl : ys.length = qs.length) (h : ∀ (i : Nat) v, ys[i]? = some v → ∀ q, qs[i]? = some q → v = .int (f q)) : ys = (qs.map f).map V.int := by
  refine List.ext_getElem? fun i => ?_
  rw [List.getElem?_map, List.getElem?_map]
  cases e : ys[i]? with
  | none =>
    have : qs[i]? = none := List.getElem?_eq_none (by have := List.getElem?_eq_none_iff.mp e; omega)
    rw [this]; rfl
  | some v =>
    have hi : i < qs.length := by have := (List.getElem?_eq_some_iff.mp e).1; omega
    have e2 : qs[i]? = some qs[i] := List.getElem?_eq_getElem hi
    rw [h i v e _ e2, e2]; rfl
theorem axR_tops {qs : List Rat} {bs : List Int} (hb : 0 < prodI bs) (h : ∀ q ∈ qs, (q.den : Int) ∣ prodI bs) : axR (qs.map fun q => q.num * (prodI bs).fdiv q.den) bs = qs := by
  unfold axR
  rw [List.map_map]
  conv => rhs; rw [← List.map_id qs]
  refine List.map_congr_left fun q hq => ?_
  exact top_of hb (h q hq)
theorem ShL.map {H : Hp} {ys : List V} {ps : List Pt} {f : Pt → Rat} (hl : ys.length = ps.length) (h : ∀ (i : Nat) v, ys[i]? = some v → ∀ p, ps[i]? = some p → ShV H v (f p)) : ShL H ys (ps.map f) := by
  refine ⟨by rw [hl, List.length_map], fun i v q e1 e2 => ?_⟩
  rw [List.getElem?_map] at e2
  cases e3 : ps[i]? with
  | none => rw [e3] at e2; cases e2
  | some p => rw [e3] at e2; cases e2; exact h i v e1 p e3
theorem int_at {t : List Int} {i : Nat} {x : Int} (h : t[i]? = some x) : ((t.map V.int)[i]?).getD V.non = .int x := by rw [List.getElem?_map, h]; rfl
end Cv

namespace Cv
open PySem PySem.Spec PyProof.Rows L2
/-! ### rows, polar points, cuts and stretches of the program -/
/-- a curve as the program takes it: its seats, a common bottom, sizes -/
theorem AxV.lst {H : Hp} {v : V} {n : Nat} {tops bs : List Int} {l : Addr} {ls : List Addr} {o : HO} (h : AxV H v n tops bs) (hl : H l = some (.lst (ls.map V.ref))) (h1 : 1 ≤ ls.length) : AxV (upd H l o) v n tops bs := by
  obtain ⟨a, lt, lb, e, g1, g2, g3, g4⟩ := h
  have ne : ∀ (b : Addr) (xs : List Int), H b = some (.lst (xs.map V.int)) → b ≠ l := fun b xs e z => by
    rw [z, hl] at e
    have e' : ls.map V.ref = xs.map V.int := by simpa using e
    cases ls with
    | nil => simp at h1
    | cons x r =>
      cases xs with
      | nil => simp at e'
      | cons y s => simp at e'
  have na : a ≠ l := fun z => by rw [z, hl] at g1; cases g1
  exact ⟨a, lt, lb, e, by rw [upd_ne na]; exact g1, by rw [upd_ne (ne _ _ g2)]; exact g2, by rw [upd_ne (ne _ _ g3)]; exact g3, g4⟩
end Cv

namespace Cv
open PySem PySem.Spec PyProof.Rows L2
/-! ### the order of the shares does not matter -/
/-! ### sizes -/
theorem PtsV.take {H : Hp} {ws : List V} {ps : List Pt} (h : PtsV H ws ps) (n : Nat) : PtsV H (ws.take n) (ps.take n) := by
  refine ⟨by rw [List.length_take, List.length_take, h.len], fun i v p e1 e2 => ?_⟩
  rw [List.getElem?_take] at e1 e2
  by_cases hi : i < n
  · rw [if_pos hi] at e1 e2; exact h.get i v p e1 e2
  · rw [if_neg hi] at e1; cases e1
end Cv

namespace Cv
/-! ### polar points share by share: each goes between as the share does -/
/-! ### a stretch's rows -/
/-! ### at 0 and at 1 -/
end Cv

namespace Cv
/-! ### sizes of the halves -/
theorem ov_up {B : Int} {n a r R : Nat} {t : Rat} {x : Rat} (ht : Bd a t) (h : Ov (B * (t.den : Int) ^ r) (n + r * (a + 2)) x) (hr : r ≤ R) : Ov (B * (t.den : Int) ^ R) (n + R * (a + 2) + 1) x := by
  have e : B * (t.den : Int) ^ R = B * (t.den : Int) ^ r * (t.den : Int) ^ (R - r) := by
    rw [Int.mul_assoc, ← Int.pow_add]
    congr 2; omega
  rw [e]
  refine (h.scale (sz_pow ht.den (R - r))).mono ?_
  obtain ⟨k, rfl⟩ : ∃ k, R = r + k := ⟨R - r, by omega⟩
  have : r + k - r = k := by omega
  rw [this, Nat.add_mul]
  have : k * (a + 2) = k * a + 2 * k := by rw [Nat.mul_add]; omega
  omega
end Cv

namespace Cv
open PySem PySem.Spec PyProof.Rows L2
/-! ### curves the other way round, stretches of stretches -/
/-! ### the bottoms of a stretch's seats -/
end Cv

namespace Cv
open PySem PySem.Spec PyProof.Rows L2
/-! ### curves and shares drawn from the script's cells -/
section
variable {X : Cx}
end
theorem ShL.nil (H : Hp) : ShL H [] [] := ⟨rfl, fun i v q e => by simp at e⟩
theorem ShL.snoc {H : Hp} {vs : List V} {qs : List Rat} {v : V} {q : Rat} (h : ShL H vs qs) (hv : ShV H v q) : ShL H (vs ++ [v]) (qs ++ [q]) := by
  refine ⟨by rw [List.length_append, List.length_append, h.len]; rfl, fun i x y e1 e2 => ?_⟩
  have hl := h.len
  by_cases hi : i < vs.length
  · rw [List.getElem?_append_left hi] at e1
    rw [List.getElem?_append_left (by omega)] at e2
    exact h.get i x y e1 e2
  · rw [List.getElem?_append_right (by omega)] at e1 e2
    rw [hl] at e1
    match hj : i - qs.length, e1, e2 with
    | 0, e1, e2 => cases e1; cases e2; exact hv
    | j + 1, e1, e2 => simp at e1
end Cv

namespace Cv
open PySem PySem.Spec PyProof.Rows L2
/-! ### how many ways, sums, powers -/
noncomputable def ch : Nat → Nat → Nat
  | _, 0 => 1
  | 0, _ + 1 => 0
  | n + 1, k + 1 => ch n k + ch n (k + 1)
noncomputable def sm (f : Nat → Rat) : Nat → Rat
  | 0 => 0
  | n + 1 => sm f n + f n
/-! ### the weighted sum -/
noncomputable def gX (ps : List Pt) (j : Nat) : Rat := ((ps[j]?).getD (0, 0)).1
noncomputable def gY (ps : List Pt) (j : Nat) : Rat := ((ps[j]?).getD (0, 0)).2
/-! ### a walk over pairs -/
/-! ### promises -/
end Cv

namespace Cv
open PySem PySem.Spec PyProof.Rows L2
section
variable {X : Cx}
end
/-! ### the weights -/
end Cv

namespace Cv
open PySem PySem.Spec PyProof.Rows L2
/-! ### enumerate of a list -/
section
variable {X : Cx}
end
/-! ### least and greatest of a list of whole numbers -/
section
variable {X : Cx}
end
end Cv

namespace Cv
open PySem PySem.Spec PyProof.Rows L2
/-! ### tuples that never change: ours, or the module's -/
noncomputable def TK (K : PySem.W.Frag) (H : Hp) (a : Addr) (xs : List V) : Prop := H a = some (.tup xs) ∨ ∃ (o : Obj) (its : Array Value) (n : Nat), K.lookup a = some o ∧ o.cls = .type "tuple" ∧ o.data = .seq its n ∧ its.size ≤ sizeLine ∧ Vals xs its.toList
theorem TK.of {K : PySem.W.Frag} {H : Hp} {a : Addr} {xs : List V} (h : H a = some (.tup xs)) : TK K H a xs := .inl h
theorem TK.sq {K : PySem.W.Frag} {H : Hp} {a : Addr} {xs : List V} (h : TK K H a xs) : SqT K H a xs := by
  rcases h with h | h
  · exact SqT.of h
  · exact .inr h
theorem TK.tup {K : PySem.W.Frag} {H H' : Hp} {a : Addr} {xs : List V} (h : TK K H a xs) (t : Tup H H') : TK K H' a xs := by
  rcases h with h | h
  · exact .inl (t _ _ h)
  · exact .inr h
theorem TK.same {K : PySem.W.Frag} {H H' : Hp} {a : Addr} {xs : List V} (h : TK K H a xs) (t : Same H H') : TK K H' a xs := h.tup t.tup
theorem TK.same' {K : PySem.W.Frag} {H H' : Hp} {a : Addr} {xs : List V} (t : Same H H') (h : TK K H a xs) : TK K H' a xs := h.tup t.tup
structure ShK (K : PySem.W.Frag) (H : Hp) (v : V) (q : Rat) : Prop where
  ex : ∃ a, v = .ref a ∧ TK K H a [.int q.num, .int (q.den : Int)]
structure PtK (K : PySem.W.Frag) (H : Hp) (v : V) (x y : Rat) : Prop where
  ex : ∃ a vx vy, v = .ref a ∧ TK K H a [vx, vy] ∧ ShK K H vx x ∧ ShK K H vy y
structure PtsK (K : PySem.W.Frag) (H : Hp) (vs : List V) (ps : List Pt) : Prop where
  len : vs.length = ps.length
  get : ∀ (i : Nat) v p, vs[i]? = some v → ps[i]? = some p → PtK K H v p.1 p.2
section
variable {K : PySem.W.Frag} {H H' : Hp} {v : V} {q x y : Rat} {vs : List V} {ps : List Pt}
theorem ShK.tup (h : ShK K H v q) (t : Tup H H') : ShK K H' v q := by obtain ⟨a, rfl, h⟩ := h; exact ⟨a, rfl, h.tup t⟩
theorem ShK.same (h : ShK K H v q) (t : Same H H') : ShK K H' v q := h.tup t.tup
theorem ShV.k (h : ShV H v q) : ShK K H v q := by obtain ⟨a, rfl, h⟩ := h; exact ⟨a, rfl, .inl h⟩
theorem PtK.tup (h : PtK K H v x y) (t : Tup H H') : PtK K H' v x y := by obtain ⟨a, vx, vy, rfl, h, h1, h2⟩ := h; exact ⟨a, vx, vy, rfl, h.tup t, h1.tup t, h2.tup t⟩
theorem PtK.same (h : PtK K H v x y) (t : Same H H') : PtK K H' v x y := h.tup t.tup
theorem PtV.k (h : PtV H v x y) : PtK K H v x y := by obtain ⟨a, vx, vy, rfl, h, h1, h2⟩ := h; exact ⟨a, vx, vy, rfl, .inl h, h1.k, h2.k⟩
theorem PtsK.tup (h : PtsK K H vs ps) (t : Tup H H') : PtsK K H' vs ps := ⟨h.len, fun i v p e1 e2 => (h.get i v p e1 e2).tup t⟩
theorem PtsK.same (h : PtsK K H vs ps) (t : Same H H') : PtsK K H' vs ps := h.tup t.tup
theorem PtsV.k (h : PtsV H vs ps) : PtsK K H vs ps := ⟨h.len, fun i v p e1 e2 => (h.get i v p e1 e2).k⟩
theorem PtsK.nil (K : PySem.W.Frag) (H : Hp) : PtsK K H [] [] := ⟨rfl, fun i v p e _ => by simp at e⟩
theorem PtsK.snoc {p : Pt} (h : PtsK K H vs ps) (hv : PtK K H v p.1 p.2) : PtsK K H (vs ++ [v]) (ps ++ [p]) := by
  refine ⟨by simp [h.len], fun i w q e1 e2 => ?_⟩
  by_cases hi : i < vs.length
  · rw [List.getElem?_append_left hi] at e1
    rw [List.getElem?_append_left (by rw [← h.len]; exact hi)] at e2
    exact h.get i w q e1 e2
  · rw [List.getElem?_append_right (by omega)] at e1
    rw [List.getElem?_append_right (by rw [← h.len]; omega), ← h.len] at e2
    cases hk : i - vs.length with
    | zero =>
      rw [hk] at e1 e2
      simp at e1 e2
      subst e1 e2
      exact hv
    | succ k => rw [hk] at e1; simp at e1
theorem PtsK.at (h : PtsK K H vs ps) {i : Nat} {p : Pt} (hp : ps[i]? = some p) : ∃ v, vs[i]? = some v ∧ PtK K H v p.1 p.2 := by
  have hi : i < ps.length := (List.getElem?_eq_some_iff.mp hp).1
  have e : vs[i]? = some (vs[i]'(by rw [h.len]; exact hi)) := List.getElem?_eq_getElem _
  exact ⟨_, e, h.get i _ p e hp⟩
end
/-! ### differences -/
/-! sizes -/
theorem Ov.zero (D : Int) (n : Nat) : Ov D (n + 1) 0 := ⟨0, by simp, ⟨by show 0 < _; exact Nat.two_pow_pos _⟩⟩
/-! ### isinstance, also of the module's tuples -/
section
variable {X : Cx}
end
/-! ### promises -/
end Cv

namespace Cv
open PySem PySem.Spec PyProof.Rows L2
/-! ### a list is unpacked -/
section
variable {prog : Program} {w : World} {A : Around} {E : Value → Shared → Prop}
variable {s : Shared}
end
section
variable {X : Cx}
end
end Cv

namespace Cv
open PySem PySem.Spec PyProof.Rows L2
/-! ### places: pairs of whole numbers, in lists -/
noncomputable abbrev Pl := Int × Int
structure PlsV (H : Hp) (vs : List V) (pl : List Pl) : Prop where
  len : vs.length = pl.length
  get : ∀ (i : Nat) v p, vs[i]? = some v → pl[i]? = some p → RwV H v p.1 p.2
section
variable {H H' : Hp} {vs : List V} {pl : List Pl}
theorem PlsV.tup (h : PlsV H vs pl) (t : Tup H H') : PlsV H' vs pl := ⟨h.len, fun i v p e1 e2 => (h.get i v p e1 e2).tup t⟩
theorem PlsV.same (h : PlsV H vs pl) (t : Same H H') : PlsV H' vs pl := h.tup t.tup
theorem PlsV.at (h : PlsV H vs pl) {i : Nat} {p : Pl} (hp : pl[i]? = some p) : ∃ a, vs[i]? = some (.ref a) ∧ H a = some (.tup [.int p.1, .int p.2]) := by
  have hi : i < pl.length := (List.getElem?_eq_some_iff.mp hp).1
  have e : vs[i]? = some (vs[i]'(by rw [h.len]; exact hi)) := List.getElem?_eq_getElem _
  obtain ⟨a, e2, h2⟩ := h.get i _ p e hp
  exact ⟨a, by rw [e, e2], h2⟩
theorem pls_exist {n : Nat} : ∀ {ys : List V}, (∀ (i : Nat) v, ys[i]? = some v → ∃ x y : Int, RwV H v x y ∧ Sz n x ∧ Sz n y) → ∃ pl : List Pl, PlsV H ys pl ∧ ∀ p ∈ pl, Sz n p.1 ∧ Sz n p.2
  | [], _ => ⟨[], ⟨rfl, fun i v p e => by simp at e⟩, fun _ h => nomatch h⟩
  | y :: ys, h => by
    obtain ⟨a, b, hp, z1, z2⟩ := h 0 y rfl
    obtain ⟨pl, hP, hO⟩ := pls_exist (ys := ys) fun i v e => h (i + 1) v e
    refine ⟨(a, b) :: pl, ⟨by rw [List.length_cons, List.length_cons, hP.len], fun i v q e1 e2 => ?_⟩, fun q hq => ?_⟩
    · cases i with
      | zero => cases e1; cases e2; exact hp
      | succ i => exact hP.get i v q e1 e2
    · rcases List.mem_cons.mp hq with rfl | hq
      · exact ⟨z1, z2⟩
      · exact hO q hq
end
theorem plain_pls {K : PySem.W.Frag} {a : Addr} {ws : List V} {pl : List Pl} {H1 : Hp} (h : SqL K H1 a ws) (hP : PlsV H1 ws pl) : Plain2 K (Itl K a) H1 pl.length (fun i => .int ((pl[i]?).getD (0, 0)).1) (fun i => .int ((pl[i]?).getD (0, 0)).2) := fun H2 s i => by
  refine ⟨fun hi => ?_, fun e => ⟨ws, s.seq h, by rw [hP.len]; omega⟩⟩
  obtain ⟨b, e1, hb⟩ := hP.at (List.getElem?_eq_getElem hi)
  refine ⟨⟨ws, _, s.seq h, e1⟩, fun x H' y => ?_⟩
  obtain ⟨rfl, y2⟩ := y
  have := y2 ws (s.seq h)
  rw [e1] at this
  refine ⟨L2.Same.refl _, b, (Option.some.inj this).symm, SqT.of ?_⟩
  show H' b = some (.tup [.int ((pl[i]?).getD (0, 0)).1, .int ((pl[i]?).getD (0, 0)).2])
  rw [List.getElem?_eq_getElem hi]
  exact s _ _ hb
structure WayV (H : Hp) (v : V) (B kd : Int) : Prop where
  ex : ∃ (a s b : Addr) (sx sy bx by_ : Int), v = .ref a ∧ H a = some (.tup [.int B, .int kd, .ref s, .ref b]) ∧ H s = some (.tup [.int sx, .int sy]) ∧ H b = some (.tup [.int bx, .int by_]) ∧ 1 ≤ B ∧ B ≤ 1000000007 ∧ sx.natAbs ≤ 20 ∧ sy.natAbs ≤ 20 ∧ bx.natAbs ≤ 3 ∧ by_.natAbs ≤ 3
theorem WayV.same {H H' : Hp} {v : V} {B kd : Int} (h : WayV H v B kd) (t : Same H H') : WayV H' v B kd := by
  obtain ⟨a, s, b, sx, sy, bx, by_, rfl, h1, h2, h3, r⟩ := h
  exact ⟨a, s, b, sx, sy, bx, by_, rfl, t _ _ h1, t _ _ h2, t _ _ h3, r⟩
noncomputable def spStreamC : Sp := fun vs H Q _ => ∃ c : Int, ∃ n : Nat, vs = [.int c, .int (n : Int)] ∧ n ≤ 1000 ∧ ∀ (l : Addr) (xs : List Int) (H' : Hp), Same H H' → H l = none → H' l = some (.lst (xs.map V.int)) → xs.length = n → (∀ x ∈ xs, 0 ≤ x ∧ x ≤ 2147483647) → Q (.ref l) H'
noncomputable def spWay : Sp := fun vs H Q _ => ∃ c : Int, vs = [.int c] ∧ ∀ v B kd H', Same H H' → WayV H' v B kd → Q v H'
noncomputable def spPlace : Sp := fun vs H Q _ => ∃ (c : Int) (w : V) (B kd : Int), vs = [.int c, w] ∧ WayV H w B kd ∧ ∀ v x y H', Same H H' → RwV H' v x y → Sz 110 x → Sz 110 y → Q v H'
noncomputable def ptsOf (B : Int) (pl : List Pl) : List Pt := pl.map fun p => (Rat.divInt p.1 B, Rat.divInt p.2 B)
noncomputable def spHanded (K : PySem.W.Frag) : Sp := fun vs H Q _ => ∃ (a : Addr) (ws : List V) (pl : List Pl) (B : Int), vs = [.ref a, .int B] ∧ SqL K H a ws ∧ PlsV H ws pl ∧ 1 ≤ B ∧ Sz 9000 B ∧ pl.length ≤ 1000 ∧ ∀ (l : Addr) (us : List V) (H' : Hp), Same H H' → H l = none → H' l = some (.lst us) → PtsV H' us (ptsOf B pl) → Q (.ref l) H'
noncomputable def spLPoints (K : PySem.W.Frag) : Sp := fun vs H Q _ => ∃ (a : Addr) (ns : List Int), vs = [.ref a, .int 40] ∧ SqL K H a (ns.map V.int) ∧ ∀ (c l : Addr) (ws : List V) (pl : List Pl) (B : Int) (H' : Hp), Same H H' → H' c = some (.tup [.int B, .ref l]) → H' l = some (.lst ws) → PlsV H' ws pl → 1 ≤ pl.length → pl.length ≤ 40 → 1 ≤ B → B ≤ 1000000007 → (∀ p ∈ pl, Sz 110 p.1 ∧ Sz 110 p.2) → Q (.ref c) H'
theorem p25 : (10 : Int) ^ (25 : Int).toNat = 10000000000000000000000000 := by decide
/-! ### least and greatest -/
noncomputable def LeastQ (qs : List Rat) (m : Rat) : Prop := m ∈ qs ∧ ∀ q ∈ qs, m ≤ q
noncomputable def GreatQ (qs : List Rat) (m : Rat) : Prop := m ∈ qs ∧ ∀ q ∈ qs, q ≤ m
theorem LeastQ.one {qs : List Rat} {a b : Rat} (h1 : LeastQ qs a) (h2 : LeastQ qs b) : a = b := Rat.le_antisymm (h1.2 b h2.1) (h2.2 a h1.1)
theorem GreatQ.one {qs : List Rat} {a b : Rat} (h1 : GreatQ qs a) (h2 : GreatQ qs b) : a = b := Rat.le_antisymm (h2.2 a h1.1) (h1.2 b h2.1)
theorem LeastQ.of {qs rs : List Rat} {a : Rat} (h : LeastQ qs a) (e : ∀ q, q ∈ qs ↔ q ∈ rs) : LeastQ rs a := ⟨(e a).mp h.1, fun q hq => h.2 q ((e q).mpr hq)⟩
theorem GreatQ.of {qs rs : List Rat} {a : Rat} (h : GreatQ qs a) (e : ∀ q, q ∈ qs ↔ q ∈ rs) : GreatQ rs a := ⟨(e a).mp h.1, fun q hq => h.2 q ((e q).mpr hq)⟩
structure BoxV (H : Hp) (v : V) (xs ys : List Rat) : Prop where
  ex : ∃ (a : Addr) (v1 v2 v3 v4 : V) (q1 q2 q3 q4 : Rat), v = .ref a ∧ H a = some (.tup [v1, v2, v3, v4]) ∧ ShV H v1 q1 ∧ ShV H v2 q2 ∧ ShV H v3 q3 ∧ ShV H v4 q4 ∧ LeastQ xs q1 ∧ LeastQ ys q2 ∧ GreatQ xs q3 ∧ GreatQ ys q4
theorem BoxV.same {H H' : Hp} {v : V} {xs ys : List Rat} (h : BoxV H v xs ys) (t : Same H H') : BoxV H' v xs ys := by
  obtain ⟨a, v1, v2, v3, v4, q1, q2, q3, q4, rfl, h0, h1, h2, h3, h4, r⟩ := h
  exact ⟨a, v1, v2, v3, v4, q1, q2, q3, q4, rfl, t _ _ h0, h1.same t, h2.same t, h3.same t, h4.same t, r⟩
theorem BoxV.of {H : Hp} {v : V} {xs ys xs' ys' : List Rat} (h : BoxV H v xs ys) (e1 : ∀ q, q ∈ xs ↔ q ∈ xs') (e2 : ∀ q, q ∈ ys ↔ q ∈ ys') : BoxV H v xs' ys' := by
  obtain ⟨a, v1, v2, v3, v4, q1, q2, q3, q4, rfl, h0, h1, h2, h3, h4, r1, r2, r3, r4⟩ := h
  exact ⟨a, v1, v2, v3, v4, q1, q2, q3, q4, rfl, h0, h1, h2, h3, h4, r1.of e1, r2.of e2, r3.of e1, r4.of e2⟩
theorem div_le {x y P : Int} (hP : 0 < P) (h : x ≤ y) : Rat.divInt x P ≤ Rat.divInt y P := by
  have hP' : (0 : Rat) < (P : Rat) := by exact_mod_cast hP
  have hn : (P : Rat) ≠ 0 := cast_ne hP
  have e : ∀ z : Int, Rat.divInt z P * (P : Rat) = (z : Rat) := fun z => by rw [Rat.divInt_eq_div]; grind
  refine Rat.le_of_mul_le_mul_right ?_ hP'
  rw [e, e]
  exact_mod_cast h
/-! ### lists of whole numbers -/
noncomputable def datInts (ms : List Int) : PySem.W.Dat := .list (ms.map .int)
theorem datInts_ok (ms : List Int) (n : Nat) : PySem.W.kqdOk (n + 1) (datInts ms) = true := by
  have h : ∀ i : Int, PySem.W.kqdOk n (.int i) = true := fun i => by cases n <;> simp [PySem.W.kqdOk]
  simp [datInts, PySem.W.kqdOk, h]
theorem dnAll_ints {K : PySem.W.Frag} {H : Hp} : ∀ ms : List Int, DnAll K H (ms.map .int) (ms.map V.int)
  | [] => by simp [DnAll]
  | m :: ms => by
    simp only [List.map_cons, DnAll]
    exact ⟨_, _, rfl, rfl, dnAll_ints ms⟩
theorem dnInts {K : PySem.W.Frag} {H : Hp} {a : Addr} {ms : List Int} (h : SqL K H a (ms.map V.int)) : Dn K H (datInts ms) (.ref a) := by
  unfold datInts
  simp only [Dn]
  exact ⟨a, _, rfl, h, dnAll_ints ms⟩
theorem cut_ints (ns : List Int) (lo hi : Option Int) : ∃ ms : List Int, cutV (ns.map V.int) lo hi = ms.map V.int ∧ ms.length ≤ HT.sIx ns.length ns.length hi - HT.sIx ns.length 0 lo := by
  refine ⟨(ns.drop (HT.sIx ns.length 0 lo)).take (HT.sIx ns.length ns.length hi - HT.sIx ns.length 0 lo), ?_, by rw [List.length_take]; omega⟩
  unfold cutV
  rw [List.length_map, List.map_take, List.map_drop]
theorem sIx_nat' (n d : Nat) (k : Int) (h : 0 ≤ k) : HT.sIx n d (some k) = min k.toNat n := by
  have := HT.sIx_nat n d k.toNat
  rw [Int.toNat_of_nonneg h] at this
  exact this
theorem for_plain1 {J : It} {H1 : Hp} {n : Nat} {f : Nat → V} {g : TG} {tb : TS} {D : Ends} {σ : L2.St} (hJ : Plain1 J H1 n f) (Pv : Nat → L2.St → Hp → Prop) (h0 : Pv 0 σ H1) (hS : ∀ i σ H, Pv i σ H → Same H1 H)
    (hs : ∀ i σ H, i < n → Pv i σ H → g (f i) σ H fun σ2 H2 => tb { D with nx := Pv (i + 1), ct := Pv (i + 1), bk := D.nx } σ2 H2) (hd : ∀ σ H, Pv n σ H → D.nx σ H) :
    ∃ W : Nat → Nat → L2.St → Hp → Prop, (∃ m, W 0 m σ H1) ∧ ∀ i m σ H, W i m σ H →
      (J.stop i H ∧ D.nx σ H) ∨ (J.go i H ∧ ∃ N : L2.St → Hp → Prop, (∀ σ' H', N σ' H' → ∃ m', m' < m ∧ W (i + 1) m' σ' H') ∧ ∀ x H', J.yld i H x H' → g x σ H' fun σ2 H2 => tb { D with nx := N, ct := N, bk := D.nx } σ2 H2) := by
  refine ⟨fun i m σ H => m = n - i ∧ i ≤ n ∧ Pv i σ H, ⟨n, by simp, Nat.zero_le _, h0⟩, ?_⟩
  rintro i m σ H ⟨rfl, hi, p⟩
  have q := hJ H (hS i σ H p) i
  by_cases hlt : i < n
  · refine .inr ⟨(q.1 hlt).1, Pv (i + 1), fun σ' H' p' => ⟨n - (i + 1), by omega, rfl, hlt, p'⟩, fun x H' y => ?_⟩
    obtain ⟨rfl, rfl⟩ := (q.1 hlt).2 x H' y
    exact hs i σ H' hlt p
  · have e : i = n := by omega
    subst e
    exact .inl ⟨q.2 rfl, hd σ H p⟩
theorem ptsOf_len (B : Int) (pl : List Pl) : (ptsOf B pl).length = pl.length := by unfold ptsOf; simp
theorem ptsOf_ov {B : Int} {pl : List Pl} {n : Nat} (hB : 0 < B) (h : ∀ p ∈ pl, Sz n p.1 ∧ Sz n p.2) : ∀ p ∈ ptsOf B pl, OvP B n p := fun p hp => by
  unfold ptsOf at hp
  obtain ⟨q, hq, rfl⟩ := List.mem_map.mp hp
  exact ⟨ov_divInt (by omega) (h q hq).1, ov_divInt (by omega) (h q hq).2⟩
theorem pts_reverse {H : Hp} {vs : List V} {ps : List Pt} (h : PtsV H vs ps) : PtsV H vs.reverse ps.reverse := by
  have hl := h.len
  refine ⟨by rw [List.length_reverse, List.length_reverse, hl], fun i v p e1 e2 => ?_⟩
  have hi : i < vs.length := by have := (List.getElem?_eq_some_iff.mp e1).1; rw [List.length_reverse] at this; exact this
  rw [List.getElem?_reverse hi] at e1
  rw [List.getElem?_reverse (by omega), ← hl] at e2
  exact h.get _ v p e1 e2
end Cv

/-! Texts: rules for strs (k80 to k85) -/
namespace Cv
open PySem PySem.Spec PyProof.Rows L2
section
variable {X : Cx}
end
section
variable {X : Cx}
end
section
variable {X : Cx}
end
end Cv

/-! Mathematics of texts (k80 to k85) -/
namespace Cv
open PySem PySem.Spec PyProof.Rows L2
/-! ### split of what was joined -/
/-- a separator by which a text is parted at one sign alone: the sign at the place m, which stands not ahead of it -/
noncomputable def jn (sep : List Nat) : List (List Nat) → List Nat
  | [] => []
  | [p] => p
  | p :: q :: r => p ++ sep ++ jn sep (q :: r)
end Cv

namespace Cv
open PySem PySem.Spec PyProof.Rows L2
section
variable {X : Cx}
end
section
variable {K : PySem.W.Frag} {J : It} {H1 : Hp} {te : TE} {cs : L2.St} {Q : VK} {n : Nat}
end
end Cv

namespace Cv
open PySem PySem.Spec PyProof.Rows L2
/-! ### a list comprehension of two clauses -/
section
variable {prog : Program} {w : World} {A : Around} {R : Result → Shared → Prop} {s : Shared}
end
section
variable {X : Cx}
end
end Cv

namespace Cv
open PySem PySem.Spec PyProof.Rows L2
/-! ### lists of new lists -/
structure LsV (H1 H2 : Hp) (D : Addr) (ys : List V) (R : Nat → List V → Hp → Prop) : Prop where
  get : ∀ (i : Nat) (v : V), ys[i]? = some v → ∃ (l : Addr) (xs : List V), v = V.ref l ∧ H1 l = none ∧ l ≠ D ∧ H2 l = some (HO.lst xs) ∧ R i xs H2
  one : ∀ (i j : Nat) (v : V), ys[i]? = some v → ys[j]? = some v → i = j
section
variable {K : PySem.W.Frag} {J : It} {H1 : Hp} {te : TE} {cs : L2.St} {Q : VK} {n : Nat}
end
theorem LsV.base {H0 H1 H2 : Hp} {D : Addr} {ys : List V} {R : Nat → List V → Hp → Prop} (h : LsV H1 H2 D ys R) (s : Same H0 H1) : LsV H0 H2 D ys R :=
  ⟨fun i v e => by obtain ⟨l, xs, e1, e2, e3⟩ := h.get i v e; exact ⟨l, xs, e1, s.free e2, e3⟩, h.one⟩
end Cv

namespace Cv
open PySem PySem.Spec PyProof.Rows L2
section
variable {X : Cx}
theorem pi_tupKI (K : PySem.W.Frag) {tg l : Expr} {tl : TE} (hl : PEi X l tl) (hK : X.K = K := by rfl) : PIi X tg l (iTup K tl) := by subst hK; exact pi_tupI hl
theorem pi_listKI (K : PySem.W.Frag) {tg l : Expr} {tl : TE} (hl : PEi X l tl) (hK : X.K = K := by rfl) : PIi X tg l (iList K tl) := by subst hK; exact pi_listI hl
end
end Cv

namespace Cv
open PySem PySem.Spec PyProof.Rows L2
/-! ### a class of the module and its methods -/
section
variable {P : Program} {w : World} {K : PySem.W.Frag} {mg : Str → Option Value} {base : Heap}
end
section
variable {X : Cx} {CX : CXT} {k j : Nat} {ps : List Str} {sp : Sp} {E : XK} {x m : Str} {p pos apos : Pos} {o e : Expr} {es : List Expr} {t : TA} {ta : TE} {C : Addr}
end
/-! ### isinstance of an exception and a tuple of classes -/
section
variable {X : Cx}
end
end Cv

namespace Cv
open PySem PySem.Spec PyProof.Rows L2
/-! ### list(zip(a, b)): a zip whose tuples are kept -/
section
variable {prog : Program} {w : World} {A : Around} {E : Value → Shared → Prop} {s : Shared}
theorem alive_ok {a : Addr} {o : Obj} {Q : Option Obj → Shared → Prop} (ho : s.heap.get? a = some o) (h : Q (some o) s) : wpAny (model prog w) A (loadIfAlive a) Q E s := fun Γ p _ => by
  show Sem.wp _ _ (Sem.loadIfAlive a Sem.pure) _ _ _ _
  rw [Sem.wp_loadIfAlive, ho]
  exact h
noncomputable abbrev ZipK (h : Heap) (z TI TO T : Addr) (b : Bool) : Prop :=
  h.get? z = some { cls := .type "zip", dict := none, data := .fields #[rawInt T, .bool b, .bool false, .ref TI, .ref TO], slots := #[] }
theorem kept_busy {z TI TO T : Addr} {b : Bool} {o : Obj} {Q : Bool → Shared → Prop} (hz : ZipK s.heap z TI TO T b) (hT : s.heap.get? T = some o) (hQ : ∀ h', ZipK h' z TI TO T true → Heap.SameBut z s.heap h' → Q false { s with heap := h' }) :
    wpAny (model prog w) A (Builtin.SmallTypes.ownedTupleIsFree (.ref z)) Q E s := by
  unfold Builtin.SmallTypes.ownedTupleIsFree
  refine wpAny_bind (wpAny_field hz rfl (x := rawInt T) rfl ?_)
  show wpAny _ _ (loadIfAlive ((T : Int)).toNat >>= _) _ _ _
  rw [Int.toNat_natCast]
  refine wpAny_bind (alive_ok hT ?_)
  simp only [Option.isNone_some, Bool.false_eq_true, if_false]
  refine wpAny_bind (wpAny_field hz rfl (x := .bool b) rfl ?_)
  cases b with
  | true =>
    show wpAny _ _ (pure false) _ _ _
    exact wpAny_pure (hQ s.heap hz (Heap.SameBut.refl ..))
  | false =>
    show wpAny _ _ (setField (.ref z) 1 (.bool true) >>= _) _ _ _
    exact wpAny_bind (wpAny_setField_rec hz (by simp) fun h' hz' hs' => wpAny_pure (hQ h' hz' hs'))
theorem kept_item {z TI TO T i1 i2 l1 l2 : Addr} {k1 k2 : Nat} {b : Bool} {o : Obj} {xs ys : Array Value} {x y : Value} {Q : Value → Shared → Prop} (D : ZipApart z TI TO i1 i2 l1 l2)
    (hz : ZipK s.heap z TI TO T b) (hT : s.heap.get? T = some o) (hTI : IsPair s.heap TI (.ref i1) (.ref i2))
    (h1 : s.heap.IsListIter i1 l1 k1) (h2 : s.heap.IsListIter i2 l2 k2) (hl1 : s.heap.IsList l1 xs) (hl2 : s.heap.IsList l2 ys) (hx : xs[k1]? = some x) (hy : ys[k2]? = some y)
    (hQ : ∀ h', ZipK h' z TI TO T true → h'.IsListIter i1 l1 (k1 + 1) → h'.IsListIter i2 l2 (k2 + 1) → IsPair h' s.heap.objs.size x y →
      (∀ c o, c ≠ z → c ≠ i1 → c ≠ i2 → s.heap.get? c = some o → h'.get? c = some o) → Q (.ref s.heap.objs.size) { s with heap := h' }) :
    wpAny (model prog w) A (Builtin.«zip.__next__» ⟨[.ref z], []⟩) (fun fin s' => ∃ v, fin = .done (.ret v) ∧ Q v s') E s := by
  show wpAny _ _ (field (.ref z) 2 >>= _) _ _ _
  refine wpAny_bind (wpAny_field hz rfl (x := .bool false) rfl ?_)
  show wpAny _ _ (field (.ref z) 3 >>= _) _ _ _
  refine wpAny_bind (wpAny_field hz rfl (x := .ref TI) rfl ?_)
  refine wpAny_bind (wpAny_seqItems hTI rfl ?_)
  show wpAny _ _ (Builtin.SmallTypes.ownedTupleIsFree (.ref z) >>= _) _ _ _
  refine wpAny_bind (kept_busy hz hT fun hA zA sA => ?_)
  simp only [Bool.false_eq_true, if_false]
  refine wpAny_bind ?_
  simp only [List.forIn_toArray, List.forIn_cons, List.forIn_nil]
  refine wpAny_bind (wpAny_bind (wpAny_holding ?_))
  show wpAny _ _ (Builtin.SmallTypes.nextOf (.ref i1) >>= _) _ _ _
  refine wpAny_bind (wpAny_nextOf_list_item (h1.extBut sA.extBut D.i1z) (hl1.extBut sA.extBut D.l1z) hx fun hB iB sB => wpAny_pure (wpAny_pure ?_))
  refine wpAny_bind (wpAny_bind (wpAny_holding ?_))
  show wpAny _ _ (Builtin.SmallTypes.nextOf (.ref i2) >>= _) _ _ _
  refine wpAny_bind (wpAny_nextOf_list_item ((h2.extBut sA.extBut D.i2z).extBut sB.extBut D.i12.symm) ((hl2.extBut sA.extBut D.l2z).extBut sB.extBut D.l2i1) hy fun hC iC sC => wpAny_pure (wpAny_pure (wpAny_pure ?_)))
  have hsz : hC.objs.size = s.heap.objs.size := by rw [sC.1, sB.1, sA.1]
  have up : ∀ c o, c ≠ z → c ≠ i1 → c ≠ i2 → s.heap.get? c = some o → hC.get? c = some o := fun c o c1 c3 c4 e => sC.extBut _ _ c4 (sB.extBut _ _ c3 (sA.extBut _ _ c1 e))
  have zC : ZipK hC z TI TO T true := sC.extBut _ _ D.i2z.symm (sB.extBut _ _ D.i1z.symm zA)
  have i1C : hC.IsListIter i1 l1 (k1 + 1) := iB.extBut sC.extBut D.i12
  show wpAny _ _ (newTuple [x, y] >>= _) _ _ _
  refine wpAny_bind (wpAny_newTuple (wpAny_pure ⟨_, rfl, ?_⟩))
  show Q (.ref hC.objs.size) _
  rw [hsz]
  refine hQ _ (Heap.get?_push_of_some _ zC) (i1C.at fun o e => Heap.get?_push_of_some _ e) (iC.at fun o e => Heap.get?_push_of_some _ e) ?_ fun c o c1 c3 c4 e => Heap.get?_push_of_some _ (up c o c1 c3 c4 e)
  rw [← hsz]
  exact Heap.get?_push_size _ rfl
theorem kept_end {z TI TO T i1 i2 l1 l2 : Addr} {k1 k2 : Nat} {b : Bool} {o : Obj} {xs ys : Array Value} {Q : Fin → Shared → Prop} (hh : A.handled = none) (D : ZipApart z TI TO i1 i2 l1 l2)
    (hz : ZipK s.heap z TI TO T b) (hT : s.heap.get? T = some o) (hTI : IsPair s.heap TI (.ref i1) (.ref i2))
    (h1 : s.heap.IsListIter i1 l1 k1) (h2 : s.heap.IsListIter i2 l2 k2) (hl1 : s.heap.IsList l1 xs) (hl2 : s.heap.IsList l2 ys) (hend : xs[k1]? = none ∨ ys[k2]? = none)
    (hE : ∀ h' e, (∀ c o, c ≠ z → c ≠ i1 → c ≠ i2 → s.heap.get? c = some o → h'.get? c = some o) → (∃ o, h'.get? e = some o ∧ o.cls = .type "StopIteration") → E (.ref e) { s with heap := h' }) :
    wpAny (model prog w) A (Builtin.«zip.__next__» ⟨[.ref z], []⟩) Q E s := by
  show wpAny _ _ (field (.ref z) 2 >>= _) _ _ _
  refine wpAny_bind (wpAny_field hz rfl (x := .bool false) rfl ?_)
  show wpAny _ _ (field (.ref z) 3 >>= _) _ _ _
  refine wpAny_bind (wpAny_field hz rfl (x := .ref TI) rfl ?_)
  refine wpAny_bind (wpAny_seqItems hTI rfl ?_)
  show wpAny _ _ (Builtin.SmallTypes.ownedTupleIsFree (.ref z) >>= _) _ _ _
  refine wpAny_bind (kept_busy hz hT fun hA zA sA => ?_)
  simp only [Bool.false_eq_true, if_false]
  refine wpAny_bind ?_
  simp only [List.forIn_toArray, List.forIn_cons, List.forIn_nil]
  refine wpAny_bind (wpAny_bind (wpAny_holding ?_))
  show wpAny _ _ (Builtin.SmallTypes.nextOf (.ref i1) >>= _) _ _ _
  cases hx : xs[k1]? with
  | none =>
    refine wpAny_bind (wpAny_nextOf_list_end hh (h1.extBut sA.extBut D.i1z) (hl1.extBut sA.extBut D.l1z) hx fun hB e sB he => ?_)
    exact hE hB e (fun c o c1 c3 _ q => sB _ _ c3 (sA.extBut _ _ c1 q)) he
  | some x =>
    have hy : ys[k2]? = none := by
      rcases hend with q | q
      · rw [hx] at q; cases q
      · exact q
    refine wpAny_bind (wpAny_nextOf_list_item (h1.extBut sA.extBut D.i1z) (hl1.extBut sA.extBut D.l1z) hx fun hB iB sB => wpAny_pure (wpAny_pure ?_))
    refine wpAny_bind (wpAny_bind (wpAny_holding ?_))
    show wpAny _ _ (Builtin.SmallTypes.nextOf (.ref i2) >>= _) _ _ _
    refine wpAny_bind (wpAny_nextOf_list_end hh ((h2.extBut sA.extBut D.i2z).extBut sB.extBut D.i12.symm) ((hl2.extBut sA.extBut D.l2z).extBut sB.extBut D.l2i1) hy fun hC e sC he => ?_)
    exact hE hC e (fun c o c1 c3 c4 q => sC _ _ c4 (sB.extBut _ _ c3 (sA.extBut _ _ c1 q))) he
/-- a zip that stands at turn i, its first tuple perhaps kept -/
noncomputable def ZSt (z TI TO i1 i2 l1 l2 : Addr) (i : Nat) (h : Heap) : Prop :=
  (IsZip h z TI TO .none ∨ ∃ T b o, ZipK h z TI TO T b ∧ h.get? T = some o ∧ T ≠ z ∧ T ≠ TO ∧ T ≠ i1 ∧ T ≠ i2) ∧ (∃ a b, IsPair h TO a b) ∧ IsPair h TI (.ref i1) (.ref i2) ∧ h.IsListIter i1 l1 i ∧ h.IsListIter i2 l2 i
theorem zst_item {z TI TO i1 i2 l1 l2 : Addr} {i : Nat} {xs ys : Array Value} {x y : Value} {Q : Option Value → Shared → Prop} (D : ZipApart z TI TO i1 i2 l1 l2) (st : ZSt z TI TO i1 i2 l1 l2 i s.heap)
    (hl1 : s.heap.IsList l1 xs) (hl2 : s.heap.IsList l2 ys) (hx : xs[i]? = some x) (hy : ys[i]? = some y)
    (hQ : ∀ h', ZSt z TI TO i1 i2 l1 l2 (i + 1) h' → IsPair h' s.heap.objs.size x y → (∀ c o, c ≠ z → c ≠ TO → c ≠ i1 → c ≠ i2 → s.heap.get? c = some o → h'.get? c = some o) → Q (some (.ref s.heap.objs.size)) { s with heap := h' }) :
    wpAny (model prog w) A (pyNext (.ref z)) Q E s := by
  obtain ⟨hm, ⟨a, b', hTO⟩, hTI, h1, h2⟩ := st
  rcases hm with hz | ⟨T, b, o, hz, hT, t1, t2, t3, t4⟩
  · have neT : ∀ {c o}, s.heap.get? c = some o → s.heap.objs.size ≠ c := fun e => Nat.ne_of_gt (Heap.lt_size e)
    obtain ⟨o1, e1, _⟩ := id h1
    obtain ⟨o2, e2, _⟩ := id h2
    refine wpAny_pyNext_zip_item D hz hTI hTO h1 h2 hl1 hl2 hx hy fun h' a1 a2 a3 a4 a5 a6 a7 => hQ h' ⟨.inr ⟨_, _, _, a1, a5, neT hz, neT hTO, neT e1, neT e2⟩, ⟨_, _, a2⟩, a7 _ _ D.TIz D.TITO D.TIi1 D.TIi2 hTI, a3, a4⟩ a5 a7
  · have hTy : s.TypeIs (.ref z) "zip" := ⟨_, hz, rfl⟩
    unfold pyNext
    refine wpAny_bind (wpAny_attempt (wpAny_callSpecial?_slot (name := Str.ofString "__next__") hTy F.slot_zip_next
      (wpAny_call_entry F.slot_zip_next hTy F.entry_zip_next (kept_item D hz hT hTI h1 h2 hl1 hl2 hx hy fun h' a1 a3 a4 a5 a7 => wpAny_pure (hQ h' ⟨.inr ⟨T, _, o, a1, a7 T o t1 t3 t4 hT, t1, t2, t3, t4⟩, ⟨a, b', a7 _ _ D.TOz D.TOi1 D.TOi2 hTO⟩, a7 _ _ D.TIz D.TIi1 D.TIi2 hTI, a3, a4⟩ a5 fun c o c1 _ c3 c4 e => a7 c o c1 c3 c4 e)) (F.args_zip_next_1 _))))
theorem zst_end {z TI TO i1 i2 l1 l2 : Addr} {i : Nat} {xs ys : Array Value} {Q : Option Value → Shared → Prop} (hh : A.handled = none) (D : ZipApart z TI TO i1 i2 l1 l2) (st : ZSt z TI TO i1 i2 l1 l2 i s.heap)
    (hl1 : s.heap.IsList l1 xs) (hl2 : s.heap.IsList l2 ys) (hend : xs[i]? = none ∨ ys[i]? = none)
    (hQ : ∀ h', (∀ c o, c ≠ z → c ≠ TO → c ≠ i1 → c ≠ i2 → s.heap.get? c = some o → h'.get? c = some o) → Q none { s with heap := h' }) :
    wpAny (model prog w) A (pyNext (.ref z)) Q E s := by
  obtain ⟨hm, ⟨a, b', hTO⟩, hTI, h1, h2⟩ := st
  rcases hm with hz | ⟨T, b, o, hz, hT, t1, t2, t3, t4⟩
  · exact wpAny_pyNext_zip_end hh D hz hTI hTO h1 h2 hl1 hl2 hend hQ
  · have hTy : s.TypeIs (.ref z) "zip" := ⟨_, hz, rfl⟩
    unfold pyNext
    refine wpAny_bind (wpAny_attempt (wpAny_callSpecial?_slot (name := Str.ofString "__next__") hTy F.slot_zip_next
      (wpAny_call_entry F.slot_zip_next hTy F.entry_zip_next (kept_end hh D hz hT hTI h1 h2 hl1 hl2 hend fun h' e hk he => ?_) (F.args_zip_next_1 _))))
    obtain ⟨oe, ho, hc⟩ := he
    refine wpAny_bind (wpAny_isInstance (T := "StopIteration") (b := true) ⟨oe, ho, hc⟩ isSubtype_stop ?_)
    exact wpAny_pure (hQ _ fun c o c1 _ c3 c4 q => hk c o c1 c3 c4 q)
end
theorem SqL.aside {K : PySem.W.Frag} {H : Hp} {a S : Addr} {o : HO} {xs : List V} (h : SqL K H a xs) (ne : a ≠ S) : SqL K (upd H S o) a xs := by
  rcases h with (h | ⟨ob, h⟩) | h
  · exact .inl (.inl (by rw [upd_ne ne]; exact h))
  · exact .inl (.inr ⟨ob, by rw [upd_ne ne]; exact h⟩)
  · exact .inr h
noncomputable def PairsL (H : Hp) (us xs ys : List V) : Prop := ∀ (j : Nat) v, us[j]? = some v → ∃ T, v = .ref T ∧ H T = some (.tup [(xs[j]?).getD .non, (ys[j]?).getD .non])
section
variable {X : Cx} {pins : List (Addr × Obj)} {σ : L2.St} {A : Around}
theorem ext_zip {R : Result → Shared → Prop} {z TI TO i1 i2 l1 l2 S : Addr} {xs ys : List V} (hh : A.handled = none) (D : ZipApart z TI TO i1 i2 l1 l2) (n1 : l1 ≠ S) (n2 : l2 ≠ S) (nf : S ∉ [z, TI, TO, i1, i2]) (hsz : xs.length ≤ 100000) (res : Value) :
    ∀ (k i : Nat) (s : Shared) (H : Hp) (us : List V), min xs.length ys.length - i = k → i ≤ min xs.length ys.length → Inv X pins σ H s → (∀ b ∈ [z, TI, TO, i1, i2], FpOk X pins H b) → ZSt z TI TO i1 i2 l1 l2 i s.heap → SqL X.K H l1 xs → SqL X.K H l2 ys →
    H S = some (.lst us) → us.length = i → PairsL H us xs ys →
    (∀ s' H' us', Inv X pins σ H' s' → (∀ b o, b ≠ S → H b = some o → H' b = some o) → H' S = some (.lst us') → us'.length = min xs.length ys.length → PairsL H' us' xs ys → R (.ok (.ret res)) s') →
    codeAny (model X.prog X.w) A (.builtin "list.extend.loop" ⟨[.ref S, .ref z, res], []⟩) R s := by
  intro k
  induction k with
  | zero =>
    intro i s H us hk hi I hf st q1 q2 hS hul hp hR
    have hin : i = min xs.length ys.length := by omega
    obtain ⟨its1, rv1, p1, _⟩ := I.list q1
    obtain ⟨its2, rv2, p2, _⟩ := I.list q2
    have r1 := rv1.length
    have r2 := rv2.length
    refine codeAny_builtin F.entry_extend_loop ?_
    rw [Around.under_plainId F.plain_extend_loop _]
    show wpAny _ A.in1 (pyNext (.ref z) >>= _) _ _ s
    refine wpAny_bind (zst_end (A := A.in1) hh D st p1.isList p2.isList ?_ fun h' kk => ?_)
    · rcases Nat.le_total its1.length its2.length with q | q
      · exact .inl (by simp; omega)
      · exact .inr (by simp; omega)
    have I1 : Inv X pins σ H { s with heap := h', toks := s.toks } := turnedL I hf fun b o hb e => by
      simp only [List.mem_cons, List.not_mem_nil, or_false, not_or] at hb
      exact kk b o hb.1 hb.2.2.1 hb.2.2.2.1 hb.2.2.2.2 e
    exact wpAny_pure (hR _ H us I1 (fun _ _ _ e => e) hS (by omega) hp)
  | succ k ih =>
    intro i s H us hk hi I hf st q1 q2 hS hul hp hR
    have hlt : i < min xs.length ys.length := by omega
    obtain ⟨its1, rv1, p1, _⟩ := I.list q1
    obtain ⟨its2, rv2, p2, _⟩ := I.list q2
    have ex : xs[i]? = some (xs[i]'(by omega)) := List.getElem?_eq_getElem _
    have ey : ys[i]? = some (ys[i]'(by omega)) := List.getElem?_eq_getElem _
    obtain ⟨u1, hu1, ru1⟩ := rv1.get ex
    obtain ⟨u2, hu2, ru2⟩ := rv2.get ey
    refine codeAny_builtin F.entry_extend_loop ?_
    rw [Around.under_plainId F.plain_extend_loop _]
    show wpAny _ A.in1 (pyNext (.ref z) >>= _) _ _ s
    refine wpAny_bind (zst_item (A := A.in1) D st p1.isList p2.isList (x := u1) (y := u2) (by simpa using hu1) (by simpa using hu2) fun h' st' pr kk => ?_)
    have hT : H s.heap.objs.size = none := I.hok.fresh (Nat.le_refl _)
    have kk' : ∀ b o, b ∉ [z, TI, TO, i1, i2] → s.heap.get? b = some o → h'.get? b = some o := fun b o hb e => by
      simp only [List.mem_cons, List.not_mem_nil, or_false, not_or] at hb
      exact kk b o hb.1 hb.2.2.1 hb.2.2.2.1 hb.2.2.2.2 e
    have I1 := turnedLay (t' := s.toks) (a := s.heap.objs.size) (o := .tup [xs[i]'(by omega), ys[i]'(by omega)]) (h' := h') I hf kk' (Nat.le_refl _) ⟨by show 2 ≤ sizeLine; decide, [u1, u2], .cons ru1 (.cons ru2 .nil), ⟨_, pr, rfl, _, rfl⟩⟩
    have neS : S ≠ s.heap.objs.size := ne_of_none hS hT
    have hS1 : (upd H s.heap.objs.size (.tup [xs[i]'(by omega), ys[i]'(by omega)])) S = some (.lst us) := by rw [upd_ne neS]; exact hS
    obtain ⟨_, its, nn, rv, eS⟩ := (show ObjOk X.prog X.w _ h' S (.lst us) from I1.hok S _ hS1)
    have rl := rv.length
    show wpAny _ A.in1 (updateSeq S (·.push (.ref s.heap.objs.size)) >>= _) _ _ _
    refine wpAny_bind (wpAny_updateSeq eS rfl (wpAny_pure ⟨plainId_quiet F.plain_extend_loop _, ?_⟩) (by simp; rw [← rl, hul]; exact small_line (by omega) |> Nat.le_of_lt) (by simp; rw [← rl, hul]; have := small_line (n := i) (by omega); omega))
    have oth : ∀ b o, b ≠ S → h'.get? b = some o → (h'.update S (Obj.mapSeq (·.push (.ref s.heap.objs.size)))).get? b = some o := fun b o hb e => (Heap.get?_update_other _ _ (Ne.symm hb)).trans e
    have eS2 := Heap.get?_update_self (Obj.mapSeq (·.push (Value.ref s.heap.objs.size))) eS rfl
    obtain ⟨c', eS3⟩ : ∃ c', (h'.update S (Obj.mapSeq (·.push (Value.ref s.heap.objs.size)))).get? S = some { cls := .type "list", data := .seq (its ++ [Value.ref s.heap.objs.size]).toArray c' } := ⟨_, by rw [eS2]; simp [Obj.mapSeq]; rfl⟩
    have I2 : Inv X pins σ (upd (upd H s.heap.objs.size (.tup [xs[i]'(by omega), ys[i]'(by omega)])) S (.lst (us ++ [.ref s.heap.objs.size]))) { s with heap := h'.update S (Obj.mapSeq (·.push (.ref s.heap.objs.size))), toks := s.toks } := by
      refine Inv.write (s := { s with heap := h', toks := s.toks }) (x := S) (e := S) I1 ?_ (.inl rfl) oth ⟨_, eS2⟩ ⟨?_, its ++ [.ref s.heap.objs.size], c', rv.append (.cons (show RelV (.ref s.heap.objs.size) (Value.ref s.heap.objs.size) from rfl) .nil), eS3⟩
      · rw [hS1]; trivial
      · rw [List.length_append]; exact Nat.le_of_lt (small_line (by simp; omega))
    obtain ⟨hm, ⟨oa, ob, hTO⟩, hTI, hi1, hi2⟩ := id st
    have ltz : z < s.heap.objs.size := by
      rcases hm with q | ⟨_, _, _, q, _⟩
      · exact Heap.lt_size q
      · exact Heap.lt_size q
    have lt1 : i1 < s.heap.objs.size := by obtain ⟨_, e, _⟩ := hi1; exact Heap.lt_size e
    have lt2 : i2 < s.heap.objs.size := by obtain ⟨_, e, _⟩ := hi2; exact Heap.lt_size e
    have ltf : ∀ b ∈ [z, TI, TO, i1, i2], b ≠ s.heap.objs.size := fun b hb => by
      simp only [List.mem_cons, List.not_mem_nil, or_false] at hb
      rcases hb with rfl | rfl | rfl | rfl | rfl
      · exact Nat.ne_of_lt ltz
      · exact Nat.ne_of_lt (Heap.lt_size hTI)
      · exact Nat.ne_of_lt (Heap.lt_size hTO)
      · exact Nat.ne_of_lt lt1
      · exact Nat.ne_of_lt lt2
    have ns : ∀ b ∈ [z, TI, TO, i1, i2], b ≠ S := fun b hb e => nf (e ▸ hb)
    have a1 : l1 ≠ s.heap.objs.size := by obtain ⟨_, e, _⟩ := p1.isList; exact Nat.ne_of_lt (Heap.lt_size e)
    have a2 : l2 ≠ s.heap.objs.size := by obtain ⟨_, e, _⟩ := p2.isList; exact Nat.ne_of_lt (Heap.lt_size e)
    refine ih (i + 1) _ _ (us ++ [.ref s.heap.objs.size]) (by omega) hlt I2 (fun b hb => ?_) ?_ (Cv.SqL.aside (Cv.SqL.aside q1 a1) n1) (Cv.SqL.aside (Cv.SqL.aside q2 a2) n2) upd_same (by rw [List.length_append, hul]; rfl) (fun j v e => ?_) fun s' H' us' I' e1 e2 e3 e4 => hR s' H' us' I' (fun b o hb e => e1 b o hb ?_) e2 e3 e4
    · obtain ⟨f0, fr⟩ := hf b hb
      exact ⟨by rw [upd_ne (ns b hb), upd_ne (ltf b hb)]; exact f0, fr⟩
    · obtain ⟨hm', ⟨pa, pb, hTO'⟩, hTI', hi1', hi2'⟩ := st'
      refine ⟨?_, ⟨pa, pb, oth _ _ (ns TO (by simp)) hTO'⟩, oth _ _ (ns TI (by simp)) hTI', hi1'.at fun o e => oth _ o (ns i1 (by simp)) e, hi2'.at fun o e => oth _ o (ns i2 (by simp)) e⟩
      rcases hm' with q | ⟨T, b, o, q, qT, t1, t2, t3, t4⟩
      · exact .inl (oth _ _ (ns z (by simp)) q)
      · by_cases hTS : T = S
        · exact .inr ⟨T, b, _, oth _ _ (ns z (by simp)) q, by rw [hTS]; exact eS2, t1, t2, t3, t4⟩
        · exact .inr ⟨T, b, o, oth _ _ (ns z (by simp)) q, oth _ _ hTS qT, t1, t2, t3, t4⟩
    · by_cases hj : j < us.length
      · rw [List.getElem?_append_left hj] at e
        obtain ⟨T, rfl, hT'⟩ := hp j v e
        refine ⟨T, rfl, ?_⟩
        have c1 : T ≠ S := fun q => by rw [q, hS] at hT'; cases hT'
        rw [upd_ne c1, upd_ne (ne_of_none hT' hT)]; exact hT'
      · rw [List.getElem?_append_right (by omega)] at e
        have hj0 : j - us.length = 0 := by
          cases q : j - us.length with
          | zero => rfl
          | succ k => rw [q] at e; simp at e
        rw [hj0] at e
        have e' : V.ref s.heap.objs.size = v := by simpa using e
        have hji : j = i := by omega
        subst hji
        refine ⟨_, e'.symm, ?_⟩
        rw [upd_ne (Ne.symm neS), upd_same, ex, ey]; rfl
    · rw [upd_ne hb, upd_ne (ne_of_none e hT)]; exact e
theorem zip_no_len : typeLookup (.type "zip") "__len__" = pure none := by rw [typeLookup_type, builtinLookup_eq_fast]; kernel_rfl
theorem zip_no_hint : typeLookup (.type "zip") "__length_hint__" = pure none := by rw [typeLookup_type, builtinLookup_eq_fast]; kernel_rfl
/-- list(zip(a, b)) -/
noncomputable def tZipL (K : PySem.W.Frag) (ta : TA) : TE := fun σ H Q => ta σ H fun vs H1 => ∃ (l1 l2 : Addr) (xs ys : List V), vs = [.ref l1, .ref l2] ∧ SqL K H1 l1 xs ∧ SqL K H1 l2 ys ∧ xs.length ≤ 100000 ∧
  ∀ (l : Addr) (us : List V) (H2 : Hp), H1 l = none → Same H1 H2 → H2 l = some (.lst us) → us.length = min xs.length ys.length → PairsL H2 us xs ys → Q (.ref l) H2
theorem list_zip {s : Shared} {H : Hp} {E : Value → Shared → Prop} {z TI TO i1 i2 l1 l2 : Addr} {xs ys : List V} {Q : Value → Shared → Prop} (hh : A.handled = none) (D : ZipApart z TI TO i1 i2 l1 l2) (I : Inv X pins σ H s) (hf : ∀ b ∈ [z, TI, TO, i1, i2], FpOk X pins H b)
    (st : ZSt z TI TO i1 i2 l1 l2 0 s.heap) (hTy : s.TypeIs (.ref z) "zip") (q1 : SqL X.K H l1 xs) (q2 : SqL X.K H l2 ys) (hsz : xs.length ≤ 100000)
    (hQ : ∀ s' H' us, Inv X pins σ H' s' → H s.heap.objs.size = none → (∀ b o, H b = some o → H' b = some o) → H' s.heap.objs.size = some (.lst us) → us.length = min xs.length ys.length → PairsL H' us xs ys → Q (.ref s.heap.objs.size) s') :
    wpAny (model X.prog X.w) A (call (.type "list") [.ref z]) Q E s := by
  refine callType_codes (Q₁ := fun obj s₁ => obj = .ref s.heap.objs.size ∧ s₁ = { s with heap := s.heap.push { cls := .type "list", data := .seq #[] } }) F.called_list (F.typeCall_list_1 _) F.entry_list_init
    (code_list_new _ ⟨rfl, rfl⟩) fun obj s₁ h₁ => ?_
  obtain ⟨rfl, rfl⟩ := h₁
  have hS : (s.heap.push { cls := .type "list", data := .seq #[] }).get? s.heap.objs.size = some { cls := .type "list", data := .seq #[] } := Heap.get?_push_size _ rfl
  refine ⟨⟨_, hS, rfl⟩, F.args_list_init_2 _ _, ?_⟩
  show wpAny _ _ (do let old ← Builtin.List.listItems (.ref s.heap.objs.size); Builtin.List.listUpdate (.ref s.heap.objs.size) (fun _ => #[]); letGo old.toList.reverse; Builtin.List.listExtendWith (.ref s.heap.objs.size) (.ref z) .none) _ _ _
  refine wpAny_bind ?_
  unfold Builtin.List.listItems
  refine wpAny_bind (wpAny_seqItems hS rfl (wpAny_pure ?_))
  show wpAny _ _ (updateSeq s.heap.objs.size (fun _ => #[]) >>= fun _ => letGo (#[] : Array Value).toList.reverse >>= fun _ => Builtin.List.listExtendWith (.ref s.heap.objs.size) (.ref z) .none) _ _ _
  refine wpAny_bind (wpAny_updateSeq hS rfl ?_)
  have hS2 := Heap.get?_update_self (Obj.mapSeq (fun _ => (#[] : Array Value))) hS rfl
  refine wpAny_bind (wpAny_letGo ?_)
  have old1 : ∀ b o, s.heap.get? b = some o → ((s.heap.push { cls := .type "list", data := .seq #[] }).update s.heap.objs.size (Obj.mapSeq (fun _ => (#[] : Array Value)))).get? b = some o :=
    fun b o e => (Heap.get?_update_other _ _ (Nat.ne_of_gt (Heap.lt_size e))).trans (Heap.get?_push_of_some _ e)
  have hTy2 : Shared.TypeIs { s with heap := (s.heap.push { cls := .type "list", data := .seq #[] }).update s.heap.objs.size (Obj.mapSeq (fun _ => (#[] : Array Value))) } (.ref z) "zip" := by
    obtain ⟨o, ho, hc⟩ := hTy
    exact ⟨o, old1 _ _ ho, hc⟩
  have ltz : z < s.heap.objs.size := by obtain ⟨o, ho, hc⟩ := hTy; exact Heap.lt_size ho
  unfold Builtin.List.listExtendWith
  refine wpAny_bind (wpAny_typeOf hTy2 ?_)
  have h1 : Builtin.List.listSameRef (.ref s.heap.objs.size) (.ref z) = false := by simp [Builtin.List.listSameRef]; exact Nat.ne_of_gt ltz
  have h2 : (Value.type "zip" == Value.type "list") = false := by decide
  have h3 : (Value.type "zip" == Value.type "tuple") = false := by decide
  simp only [h1, h2, h3, Bool.or_false, Bool.false_eq_true, if_false]
  obtain ⟨hm, hTO, hTI, hi1, hi2⟩ := id st
  have hz0 : ∃ f0 f1, s.heap.get? z = some { cls := .type "zip", dict := none, data := .fields #[f0, f1, .bool false, .ref TI, .ref TO], slots := #[] } := by
    rcases hm with q | ⟨_, _, _, q, _⟩
    · exact ⟨_, _, q⟩
    · exact ⟨_, _, q⟩
  refine wpAny_bind (wpAny_pyIter_slot hTy2 F.slot_zip_iter (wpAny_call_entry F.slot_zip_iter hTy2 F.entry_zip_iter ?_ (F.args_zip_iter_1 _)))
  show wpAny _ _ (ret (.ref z)) _ _ _
  refine wpAny_pure ⟨_, rfl, "zip", _, hTy2, F.slot_zip_next.lookup, ?_⟩
  refine wpAny_bind (wpAny_holding ?_)
  unfold Builtin.List.listLengthHint
  refine wpAny_bind (wpAny_specialOf hTy2 zip_no_len ?_)
  show wpAny _ _ (specialOf (Value.ref z) (Str.ofString "__length_hint__") >>= _) _ _ _
  refine wpAny_bind (wpAny_specialOf hTy2 zip_no_hint ?_)
  refine wpAny_pure ?_
  show wpAny _ _ (rule "list.extend.makes-room" >>= fun _ => Builtin.List.listTouch (.ref s.heap.objs.size) >>= fun _ => again (.builtin "list.extend.loop" ⟨[.ref s.heap.objs.size, .ref z, .none], []⟩)) _ _ _
  refine wpAny_bind (wpAny_rule ?_)
  refine wpAny_bind ?_
  show wpAny _ _ (updateSeq s.heap.objs.size (·.push .none) >>= fun _ => updateSeq s.heap.objs.size (·.pop)) _ _ _
  refine wpAny_bind (wpAny_updateSeq hS2 rfl ?_)
  have hS3 := Heap.get?_update_self (Obj.mapSeq (·.push Value.none)) hS2 rfl
  refine wpAny_updateSeq hS3 rfl ?_
  have hS4 := Heap.get?_update_self (Obj.mapSeq (·.pop)) hS3 rfl
  have old : ∀ b o, s.heap.get? b = some o → ((((s.heap.push { cls := .type "list", data := .seq #[] }).update s.heap.objs.size (Obj.mapSeq (fun _ => (#[] : Array Value)))).update s.heap.objs.size (Obj.mapSeq (·.push Value.none))).update s.heap.objs.size (Obj.mapSeq (·.pop))).get? b = some o :=
    fun b o e => (Heap.get?_update_other _ _ (Nat.ne_of_gt (Heap.lt_size e))).trans ((Heap.get?_update_other _ _ (Nat.ne_of_gt (Heap.lt_size e))).trans (old1 b o e))
  have hn : H s.heap.objs.size = none := I.hok.fresh (Nat.le_refl _)
  have I1 := I.laid (t' := s.toks) (o := .lst []) old (Nat.le_refl _) ⟨Nat.zero_le _, [], _, .nil, hS4⟩
  obtain ⟨its1, rv1, p1, _⟩ := I.list q1
  obtain ⟨its2, rv2, p2, _⟩ := I.list q2
  have a1 : l1 ≠ s.heap.objs.size := by obtain ⟨_, e, _⟩ := p1.isList; exact Nat.ne_of_lt (Heap.lt_size e)
  have a2 : l2 ≠ s.heap.objs.size := by obtain ⟨_, e, _⟩ := p2.isList; exact Nat.ne_of_lt (Heap.lt_size e)
  have ltf : ∀ b ∈ [z, TI, TO, i1, i2], b ≠ s.heap.objs.size := fun b hb => by
    simp only [List.mem_cons, List.not_mem_nil, or_false] at hb
    rcases hb with rfl | rfl | rfl | rfl | rfl
    · exact Nat.ne_of_lt ltz
    · exact Nat.ne_of_lt (Heap.lt_size hTI)
    · obtain ⟨_, _, q⟩ := hTO; exact Nat.ne_of_lt (Heap.lt_size q)
    · obtain ⟨_, q, _⟩ := hi1; exact Nat.ne_of_lt (Heap.lt_size q)
    · obtain ⟨_, q, _⟩ := hi2; exact Nat.ne_of_lt (Heap.lt_size q)
  refine wpAny_pure ⟨plainId_quiet F.plain_extend_loop _, ext_zip (A := A.in1) hh D a1 a2 (fun hb => ltf _ hb rfl) hsz .none _ 0 _ _ [] rfl (Nat.zero_le _) I1 (fun b hb => ?_) ?_ (Cv.SqL.aside q1 a1) (Cv.SqL.aside q2 a2) upd_same rfl (fun j v e => by simp at e) fun s' H' us' I' e1 e2 e3 e4 => ?_⟩
  · obtain ⟨f0, fr⟩ := hf b hb
    exact ⟨by rw [upd_ne (ltf b hb)]; exact f0, fr⟩
  · obtain ⟨pa, pb, hTO'⟩ := hTO
    refine ⟨?_, ⟨pa, pb, old _ _ hTO'⟩, old _ _ hTI, hi1.at fun o e => old _ o e, hi2.at fun o e => old _ o e⟩
    rcases hm with q | ⟨T, b, o, q, qT, t⟩
    · exact .inl (old _ _ q)
    · exact .inr ⟨T, b, o, old _ _ q, old _ _ qT, t⟩
  · exact ⟨rfl, hQ s' H' us' I' hn (fun b o e => e1 b o (ne_of_none e hn) (by rw [upd_ne (ne_of_none e hn)]; exact e)) e2 e3 e4⟩
theorem pe_listzip {a b : Expr} {ta : TA} {p p2 pos pos2 : Pos} (hg : Gl X "list") (hm : X.mg "list" = none) (hg2 : Gl X "zip") (hm2 : X.mg "zip" = none) (ha : PA X [a, b] ta) (hc : X.calm = true := by rfl)
    (he : starEach [a, b] X.env = (false, eval a X.env) :: starEach [b] X.env := by rfl) (hpl : (backTo pos2 (starEach [b] X.env)).any (·.1) = false := by rfl)
    (he2 : starEach [.Call (.Name "zip" p2) [a, b] [] pos2] X.env = (false, eval (.Call (.Name "zip" p2) [a, b] [] pos2) X.env) :: starEach [] X.env := by rfl) (hpl2 : (backTo pos (starEach [] X.env)).any (·.1) = false := by rfl) :
    PE X (.Call (.Name "list" p) [.Call (.Name "zip" p2) [a, b] [] pos2] [] pos) (tZipL X.K ta) := by
  intro pins s σ H Q I h
  refine wpAny_Call_Name_kw (ld_blt I hg hm boot_list ?_ (by decide) (by decide))
  refine PyProof.Rows.callWith_type1 ?_ he2 hpl2
  rw [he2]
  refine Calls.spliced_cons ?_
  refine wpAny_Call_Name_kw (ld_blt I hg2 hm2 boot_zip ?_ (by decide) (by decide))
  refine PyProof.Rows.callWith_type1 (thn (ha pos2 pins s σ H _ I h) fun us s1 ⟨vs, H1, I1, r1, w1⟩ => ?_) he hpl
  obtain ⟨l1, l2, xs, ys, rfl, q1, q2, hsz, q⟩ := w1
  obtain ⟨u1, u2, rfl, e1, e2⟩ := vals_two r1
  cases e1; cases e2
  obtain ⟨its1, rv1, p1, hz1⟩ := I1.list q1
  obtain ⟨its2, rv2, p2, hz2⟩ := I1.list q2
  have a1 : l1 < s1.heap.objs.size := by obtain ⟨_, e, _⟩ := p1.isList; exact Heap.lt_size e
  have a2 : l2 < s1.heap.objs.size := by obtain ⟨_, e, _⟩ := p2.isList; exact Heap.lt_size e
  refine call_zip_2 p1.isList p2.isList fun h' hz hTI hTO hi1 hi2 hsz' hk => ?_
  refine Calls.spliced_nil ?_
  have I2 : Inv X pins σ H1 { s1 with heap := h', toks := s1.toks } := I1.kept hk
  have fp : ∀ b ∈ [s1.heap.objs.size + 4, s1.heap.objs.size + 2, s1.heap.objs.size + 3, s1.heap.objs.size, s1.heap.objs.size + 1], FpOk X pins H1 b := fun c hc => by
    have hge : s1.heap.objs.size ≤ c := by
      simp only [List.mem_cons, List.not_mem_nil, or_false] at hc
      rcases hc with rfl | rfl | rfl | rfl | rfl <;> omega
    exact I1.fpOk hge (I1.hok.fresh hge)
  refine list_zip (s := { s1 with heap := h', toks := s1.toks }) (I1.ok.hd hc) (zipApart_new a1 a2) I2 fp ⟨.inl hz, ⟨_, _, hTO⟩, hTI, hi1, hi2⟩ ⟨_, hz, rfl⟩ q1 q2 hsz fun s' H' us I' hn e1 e2 e3 e4 => ?_
  exact ⟨.ref _, H', I', rfl, q _ us H' hn e1 e2 e3 e4⟩
theorem pe_listzipI {a b : Expr} {ta : TA} {p p2 pos pos2 : Pos} (hg : Gl X "list") (hm : X.mg "list" = none) (hg2 : Gl X "zip") (hm2 : X.mg "zip" = none) (ha : PAi X [a, b] ta) (hc : X.calm = true := by rfl)
    (he : starEach [a, b] X.env = (false, eval a X.env) :: starEach [b] X.env := by rfl) (hpl : (backTo pos2 (starEach [b] X.env)).any (·.1) = false := by rfl)
    (he2 : starEach [.Call (.Name "zip" p2) [a, b] [] pos2] X.env = (false, eval (.Call (.Name "zip" p2) [a, b] [] pos2) X.env) :: starEach [] X.env := by rfl) (hpl2 : (backTo pos (starEach [] X.env)).any (·.1) = false := by rfl) :
    PEi X (.Call (.Name "list" p) [.Call (.Name "zip" p2) [a, b] [] pos2] [] pos) (tZipL X.K ta) := by with_unfolding_all exact pe_listzip (hg := hg) (hm := hm) (hg2 := hg2) (hm2 := hm2) (ha := ha) (hc := hc) (he := he) (hpl := hpl) (he2 := he2) (hpl2 := hpl2)
end
end Cv

namespace Cv
open PySem PySem.Spec PyProof.Rows L2
/-! ### powers of an axis: whole numbers -/
/-! ### seats of powers: sums -/
/-! ### the point by powers -/
/-! ### sizes -/
/-! ### promises -/
theorem AxV.mono {H : Hp} {v : V} {n m : Nat} {t b : List Int} (h : AxV H v n t b) (hn : n ≤ m) : AxV H v m t b := by
  obtain ⟨a, lt, lb, e, h1, h2, h3, h4, r⟩ := h
  exact ⟨a, lt, lb, e, h1, h2, h3, fun x hx => (h4 x hx).mono hn, r⟩
end Cv

namespace Cv
open PySem PySem.Spec PyProof.Rows L2
/-! ### range that goes down by one -/
section
variable {X : Cx} {tg : Expr}
end
/-! ### raising -/
noncomputable def ptAt (ps : List Pt) (j : Nat) : Pt := (gX ps j, gY ps j)
/-- the k-th raised number -/
noncomputable def rr (N : Nat) (g : Nat → Rat) (k : Nat) : Rat := ((((N : Int) : Rat) - ((k : Int) : Rat)) * g k + ((k : Int) : Rat) * g (k - 1)) / ((N : Int) : Rat)
/-! promises -/
theorem cut_butlast (us : List V) (h : 1 ≤ us.length) : cutV us none (some (-1)) = us.take (us.length - 1) := by
  unfold cutV
  have e : HT.sIx us.length us.length (some (-1)) = us.length - 1 := by
    simp [HT.sIx]
    omega
  rw [HT.sIx_none, e]; simp
end Cv

namespace Cv
open PySem PySem.Spec PyProof.Rows L2
/-! ### joins: powers behind the end -/
noncomputable def sg : Nat → Rat
  | 0 => 1
  | k + 1 => -(sg k)
/-! ### speeds by whole numbers -/
/-- how often they are alike -/
structure Cnt (E : Nat → Prop) (most : Nat) (r : Int) : Prop where
  lo : -1 ≤ r
  hi : r ≤ most
  all : ∀ j : Nat, (j : Int) ≤ r → E j
  stop : r = most ∨ ¬ E (r + 1).toNat
theorem Cnt.one {E : Nat → Prop} {most : Nat} {r s : Int} (h1 : Cnt E most r) (h2 : Cnt E most s) : r = s := by
  have key : ∀ {r s : Int}, Cnt E most r → Cnt E most s → ¬ r < s := fun {r s} h1 h2 hlt => by
    have := h1.lo
    have := h2.hi
    rcases h1.stop with q | q
    · omega
    · exact q (h2.all _ (by omega))
  have a := key h1 h2
  have b := key h2 h1
  omega
/-! ### differences of places -/
theorem PlsV.snoc {H : Hp} {vs : List V} {pl : List Pl} {v : V} {p : Pl} (h : PlsV H vs pl) (hv : RwV H v p.1 p.2) : PlsV H (vs ++ [v]) (pl ++ [p]) := by
  refine ⟨by simp [h.len], fun i w q e1 e2 => ?_⟩
  have hl := h.len
  by_cases hi : i < vs.length
  · rw [List.getElem?_append_left hi] at e1
    rw [List.getElem?_append_left (by omega)] at e2
    exact h.get i w q e1 e2
  · rw [List.getElem?_append_right (by omega)] at e1 e2
    rw [← hl] at e2
    cases hk : i - vs.length with
    | zero =>
      rw [hk] at e1 e2
      simp at e1 e2
      subst e1 e2
      exact hv
    | succ k => rw [hk] at e1; simp at e1
theorem PlsV.nil (H : Hp) : PlsV H [] [] := ⟨rfl, fun i v p e => by simp at e⟩
noncomputable def datPl (p : Pl) : PySem.W.Dat := .tuple [.int p.1, .int p.2]
theorem datPl_ok (p : Pl) (n : Nat) : PySem.W.kqdOk (n + 1) (datPl p) = true := by
  have h : ∀ i : Int, PySem.W.kqdOk n (.int i) = true := fun i => by cases n <;> simp [PySem.W.kqdOk]
  simp [datPl, PySem.W.kqdOk, h]
theorem datPl_inj {p q : Pl} : datPl p = datPl q ↔ p = q := by
  unfold datPl
  constructor
  · intro h
    simp at h
    exact Prod.ext h.1 h.2
  · intro h; rw [h]
theorem dnPl {K : PySem.W.Frag} {H : Hp} {a : Addr} {p : Pl} (h : H a = some (.tup [.int p.1, .int p.2])) : Dn K H (datPl p) (.ref a) := by
  unfold datPl
  simp only [Dn, DnAll]
  exact ⟨a, _, rfl, SqT.of h, _, _, rfl, rfl, _, _, rfl, rfl, rfl⟩
noncomputable def datPls (pl : List Pl) : PySem.W.Dat := .list (pl.map datPl)
theorem datPls_ok (pl : List Pl) (n : Nat) : PySem.W.kqdOk (n + 2) (datPls pl) = true := by
  have h : ∀ p : Pl, PySem.W.kqdOk (n + 1) (datPl p) = true := fun p => datPl_ok p n
  simp [datPls, PySem.W.kqdOk, h]
theorem dnAll_pls {K : PySem.W.Frag} {H : Hp} : ∀ {pl : List Pl} {vs : List V}, PlsV H vs pl → DnAll K H (pl.map datPl) vs
  | [], vs, h => by
    have : vs = [] := List.length_eq_zero_iff.mp h.len
    subst this
    simp [DnAll]
  | p :: pl, vs, h => by
    cases vs with
    | nil => have := h.len; simp at this
    | cons v vs =>
      simp only [List.map_cons, DnAll]
      obtain ⟨a, rfl, ha⟩ := h.get 0 v p rfl rfl
      exact ⟨_, vs, rfl, dnPl ha, dnAll_pls ⟨by have := h.len; simpa using this, fun i w q e1 e2 => h.get (i + 1) w q (by simpa using e1) (by simpa using e2)⟩⟩
theorem dnPls {K : PySem.W.Frag} {H : Hp} {a : Addr} {vs : List V} {pl : List Pl} (hs : H a = some (.lst vs)) (h : PlsV H vs pl) : Dn K H (datPls pl) (.ref a) := by
  unfold datPls
  simp only [Dn]
  exact ⟨a, vs, rfl, SqL.of hs, dnAll_pls h⟩
theorem datPls_nil {pl : List Pl} : datPls pl = datPls [] ↔ pl = [] := by
  unfold datPls
  simp
/-! ### promises -/
section
variable {X : Cx}
end
theorem PlsV.drop {H : Hp} {vs : List V} {p : List Pl} (h : PlsV H vs p) (n : Nat) : PlsV H (vs.drop n) (p.drop n) := by
  have hl := h.len
  refine ⟨by rw [List.length_drop, List.length_drop, hl], fun i v r e1 e2 => ?_⟩
  rw [List.getElem?_drop] at e1 e2
  exact h.get _ v r e1 e2
end Cv

namespace Cv
open PySem PySem.Spec PyProof.Rows L2
/-! ### lists of shares, the module's among them -/
structure ShLK (K : PySem.W.Frag) (H : Hp) (vs : List V) (qs : List Rat) : Prop where
  len : vs.length = qs.length
  get : ∀ (i : Nat) v q, vs[i]? = some v → qs[i]? = some q → ShK K H v q
section
variable {K : PySem.W.Frag} {H H' : Hp} {vs : List V} {qs : List Rat}
theorem ShLK.tup (h : ShLK K H vs qs) (t : Tup H H') : ShLK K H' vs qs := ⟨h.len, fun i v q e1 e2 => (h.get i v q e1 e2).tup t⟩
theorem ShLK.same (h : ShLK K H vs qs) (t : Same H H') : ShLK K H' vs qs := h.tup t.tup
theorem ShL.k (h : ShL H vs qs) : ShLK K H vs qs := ⟨h.len, fun i v q e1 e2 => (h.get i v q e1 e2).k⟩
theorem ShLK.map {ps : List Pt} {f : Pt → Rat} {ys : List V} (hl : ys.length = ps.length) (h : ∀ (i : Nat) v, ys[i]? = some v → ∀ p, ps[i]? = some p → ShK K H v (f p)) : ShLK K H ys (ps.map f) := by
  refine ⟨by rw [hl, List.length_map], fun i v q e1 e2 => ?_⟩
  rw [List.getElem?_map] at e2
  cases e3 : ps[i]? with
  | none => rw [e3] at e2; cases e2
  | some p =>
    rw [e3] at e2
    cases e2
    exact h i v e1 p e3
theorem PtsK.take {ps : List Pt} (h : PtsK K H vs ps) (n : Nat) : PtsK K H (vs.take n) (ps.take n) := by
  refine ⟨by rw [List.length_take, List.length_take, h.len], fun i v p e1 e2 => ?_⟩
  rw [List.getElem?_take] at e1 e2
  by_cases hi : i < n
  · rw [if_pos hi] at e1 e2
    exact h.get i v p e1 e2
  · rw [if_neg hi] at e1; cases e1
end
theorem PlsV.take {H : Hp} {vs : List V} {pl : List Pl} (h : PlsV H vs pl) (n : Nat) : PlsV H (vs.take n) (pl.take n) := by
  refine ⟨by rw [List.length_take, List.length_take, h.len], fun i v p e1 e2 => ?_⟩
  rw [List.getElem?_take] at e1 e2
  by_cases hi : i < n
  · rw [if_pos hi] at e1 e2
    exact h.get i v p e1 e2
  · rw [if_neg hi] at e1; cases e1
/-! ### onward -/
/-! ### promises -/
end Cv

namespace Cv
open PySem PySem.Spec PyProof.Rows L2
/-! ### reversed(range(n)), walked -/
section
variable {prog : Program} {w : World} {A : Around} {E : Value → Shared → Prop} {s : Shared}
end
section
variable {X : Cx} {tg : Expr}
end
/-! ### e[:0:-1], a list -/
section
variable {X : Cx}
end
end Cv

namespace Cv
open PySem PySem.Spec PyProof.Rows L2
/-! ### through points: the steps beside them, by whole numbers -/
end Cv
namespace Cv
open PySem PySem.Spec PyProof.Rows L2
/-! ### the lists of steps_beside -/
end Cv
namespace Cv
open PySem PySem.Spec PyProof.Rows L2
end Cv
namespace Cv
open PySem PySem.Spec PyProof.Rows L2
end Cv
namespace Cv
open PySem PySem.Spec PyProof.Rows L2
end Cv

namespace Cv
open PySem PySem.Spec PyProof.Rows L2
/-! ### the curves through points -/
end Cv
namespace Cv
open PySem PySem.Spec PyProof.Rows L2
noncomputable def cvP (ps : List Pt) (d e : Nat → Rat) (k : Nat) : List Pt := [ptAt ps k, (gX ps k + d k, gY ps k + e k), (gX ps (k + 1) - d (k + 1), gY ps (k + 1) - e (k + 1)), ptAt ps (k + 1)]
end Cv
namespace Cv
open PySem PySem.Spec PyProof.Rows L2
end Cv

namespace Cv
/-! ### stretches by halving whole numbers -/
noncomputable def toP (dx dy : Int) (c : List Pl) : List Pt := c.map fun p => (Rat.divInt p.1 dx, Rat.divInt p.2 dy)
noncomputable def Dvs (k : Nat) (c : List Pl) : Prop := ∀ p ∈ c, (2 : Int) ^ k ∣ p.1 ∧ (2 : Int) ^ k ∣ p.2
noncomputable def SzQ (n : Nat) (c : List Pl) : Prop := ∀ p ∈ c, Sz n p.1 ∧ Sz n p.2
theorem toP_len (dx dy : Int) (c : List Pl) : (toP dx dy c).length = c.length := by unfold toP; rw [List.length_map]
theorem two_dvd {j k : Nat} (h : j ≤ k) : (2 : Int) ^ j ∣ 2 ^ k := ⟨2 ^ (k - j), by rw [← Int.pow_add]; congr 1; omega⟩
theorem Dvs.mono {k j : Nat} {c : List Pl} (h : Dvs k c) (hj : j ≤ k) : Dvs j c := fun p hp =>
  ⟨Int.dvd_trans (two_dvd hj) (h p hp).1, Int.dvd_trans (two_dvd hj) (h p hp).2⟩
noncomputable def hp : Nat → Rat
  | 0 => 1
  | d + 1 => hp d * (1 / 2)
end Cv

namespace Cv
open PySem PySem.Spec PyProof.Rows L2
/-! ### promises of the stretches -/
/-- a list of lists of places -/
structure CsV (H : Hp) (D : Option Addr) (ys : List V) (css : List (List Pl)) : Prop where
  len : ys.length = css.length
  get : ∀ (i : Nat) (v : V) (c : List Pl), ys[i]? = some v → css[i]? = some c → ∃ (l : Addr) (us : List V), v = .ref l ∧ some l ≠ D ∧ H l = some (.lst us) ∧ PlsV H us c
theorem CsV.same {H H' : Hp} {D : Option Addr} {ys : List V} {css : List (List Pl)} (h : CsV H D ys css) (s : Same H H') : CsV H' D ys css :=
  ⟨h.len, fun i v c e1 e2 => by obtain ⟨l, us, r1, r2, r3, r4⟩ := h.get i v c e1 e2; exact ⟨l, us, r1, r2, s _ _ r3, r4.same s⟩⟩
theorem CsV.at {H : Hp} {D : Option Addr} {ys : List V} {css : List (List Pl)} (h : CsV H D ys css) {i : Nat} {c : List Pl} (hc : css[i]? = some c) : ∃ (l : Addr) (us : List V), ys[i]? = some (.ref l) ∧ H l = some (.lst us) ∧ PlsV H us c := by
  have hi : i < css.length := (List.getElem?_eq_some_iff.mp hc).1
  have e : ys[i]? = some (ys[i]'(by rw [h.len]; exact hi)) := List.getElem?_eq_getElem _
  obtain ⟨l, us, r1, r2, r3, r4⟩ := h.get i _ c e hc
  exact ⟨l, us, by rw [e, r1], r3, r4⟩
/-! ### the halves of each of a list of curves -/
theorem snoc_get {α : Type} {ys : List α} {v w : α} {j : Nat} (e : (ys ++ [v])[j]? = some w) : (j < ys.length ∧ ys[j]? = some w) ∨ (j = ys.length ∧ w = v) := by
  by_cases hj : j < ys.length
  · rw [List.getElem?_append_left hj] at e
    exact .inl ⟨hj, e⟩
  · rw [List.getElem?_append_right (by omega)] at e
    have hj0 : j - ys.length = 0 := by
      cases q : j - ys.length with
      | zero => rfl
      | succ k => rw [q] at e; simp at e
    rw [hj0] at e
    exact .inr ⟨by omega, by simpa using e.symm⟩
theorem CsV.snoc {H : Hp} {D : Option Addr} {ys : List V} {css : List (List Pl)} {l : Addr} {us : List V} {c : List Pl} (h : CsV H D ys css) (hl : some l ≠ D) (h1 : H l = some (.lst us)) (h2 : PlsV H us c) : CsV H D (ys ++ [.ref l]) (css ++ [c]) := by
  refine ⟨by rw [List.length_append, List.length_append, h.len]; rfl, fun i v c' e1 e2 => ?_⟩
  rcases snoc_get e1 with ⟨q1, q2⟩ | ⟨q1, rfl⟩
  · rcases snoc_get e2 with ⟨p1, p2⟩ | ⟨p1, _⟩
    · exact h.get i v c' q2 p2
    · have := h.len; omega
  · rcases snoc_get e2 with ⟨p1, p2⟩ | ⟨p1, rfl⟩
    · have := h.len; omega
    · exact ⟨l, us, rfl, hl, h1, h2⟩
theorem CsV.upd {H : Hp} {D : Addr} {ys zs ws : List V} {css : List (List Pl)} (h : CsV H (some D) ys css) (hD : H D = some (.lst zs)) : CsV (upd H D (.lst ws)) (some D) ys css := by
  refine ⟨h.len, fun i v c e1 e2 => ?_⟩
  obtain ⟨l, us, r1, r2, r3, r4⟩ := h.get i v c e1 e2
  have n : l ≠ D := fun z => r2 (by rw [z])
  exact ⟨l, us, r1, r2, by rw [upd_ne n]; exact r3, r4.tup (Tup.lst hD)⟩
end Cv
namespace Cv
open PySem PySem.Spec PyProof.Rows L2
theorem Plain2.congr {K : PySem.W.Frag} {J : It} {H1 : Hp} {n m : Nat} {f g f' g' : Nat → V} (h : Plain2 K J H1 n f g) (hn : n = m) (hf : ∀ i, i < n → f i = f' i) (hg : ∀ i, i < n → g i = g' i) : Plain2 K J H1 m f' g' := fun H2 s i => by
  subst hn
  refine ⟨fun hi => ⟨((h H2 s i).1 hi).1, fun x H' y => ?_⟩, (h H2 s i).2⟩
  have q := ((h H2 s i).1 hi).2 x H' y
  rw [hf i hi, hg i hi] at q
  exact q
end Cv
namespace Cv
open PySem PySem.Spec PyProof.Rows L2
end Cv
namespace Cv
open PySem PySem.Spec PyProof.Rows L2
theorem LsV.mono {H1 H2 : Hp} {D : Addr} {ys : List V} {R R' : Nat → List V → Hp → Prop} (h : LsV H1 H2 D ys R) (f : ∀ i xs, i < ys.length → R i xs H2 → R' i xs H2) : LsV H1 H2 D ys R' :=
  ⟨fun i v e => by obtain ⟨l, xs, e1, e2, e3, e4, e5⟩ := h.get i v e; exact ⟨l, xs, e1, e2, e3, e4, f i xs (List.getElem?_eq_some_iff.mp e).1 e5⟩, h.one⟩
end Cv
namespace Cv
open PySem PySem.Spec PyProof.Rows L2
/-! ### the law's two curves -/
structure CvB (H : Hp) (v : V) (l : Addr) (ws : List V) (ps : List Pt) (B : Int) (mo : Nat) : Prop where
  ref : v = .ref l
  lst : H l = some (.lst ws)
  pts : PtsV H ws ps
  l1 : 1 ≤ ps.length
  l2 : ps.length ≤ mo
  ov : ∀ p ∈ ps, OvP B 110 p
theorem CvB.same {H H' : Hp} {v : V} {l : Addr} {ws : List V} {ps : List Pt} {B : Int} {mo : Nat} (h : CvB H v l ws ps B mo) (s : Same H H') : CvB H' v l ws ps B mo := ⟨h.ref, s _ _ h.lst, h.pts.same s, h.l1, h.l2, h.ov⟩
end Cv
namespace Cv
open PySem PySem.Spec PyProof.Rows L2
/-! ### lists of curves, compared -/
noncomputable def PssV (H : Hp) (us : List V) (n : Nat) (qs : Nat → List Pt) : Prop := us.length = n ∧ ∀ (i : Nat) (v : V), us[i]? = some v → ∃ (l : Addr) (xs : List V), v = .ref l ∧ H l = some (.lst xs) ∧ PtsV H xs (qs i)
theorem PssV.same {H H' : Hp} {us : List V} {n : Nat} {qs : Nat → List Pt} (h : PssV H us n qs) (s : Same H H') : PssV H' us n qs :=
  ⟨h.1, fun i v e => by obtain ⟨l, xs, e1, e2, e3⟩ := h.2 i v e; exact ⟨l, xs, e1, s _ _ e2, e3.same s⟩⟩
theorem PssV.at {H : Hp} {us : List V} {n : Nat} {qs : Nat → List Pt} (h : PssV H us n qs) {i : Nat} (hi : i < n) : ∃ (l : Addr) (xs : List V), us[i]? = some (.ref l) ∧ H l = some (.lst xs) ∧ PtsV H xs (qs i) := by
  have e : us[i]? = some (us[i]'(by rw [h.1]; exact hi)) := List.getElem?_eq_getElem _
  obtain ⟨l, xs, e1, e2, e3⟩ := h.2 i _ e
  exact ⟨l, xs, by rw [e, e1], e2, e3⟩
theorem PssV.drop {H : Hp} {us : List V} {n k : Nat} {qs : Nat → List Pt} (h : PssV H us n qs) (hk : k ≤ n) : PssV H (us.drop k) (n - k) (fun i => qs (k + i)) :=
  ⟨by rw [List.length_drop, h.1], fun i v e => by rw [List.getElem?_drop] at e; exact h.2 (k + i) v e⟩
end Cv
namespace Cv
open PySem PySem.Spec PyProof.Rows L2
/-- all but the first i of the told lists stays -/
structure But (us : List V) (i : Nat) (H H' : Hp) : Prop where
  keep : ∀ b o, H b = some o → (∀ j, j < i → us[j]? ≠ some (.ref b)) → H' b = some o
theorem But.refl (us : List V) (H : Hp) : But us 0 H H := ⟨fun _ _ e _ => e⟩
theorem But.same {us : List V} {i : Nat} {H H1 H2 : Hp} (h : But us i H H1) (s : Same H1 H2) : But us i H H2 := ⟨fun b o e n => s _ _ (h.keep b o e n)⟩
theorem But.tup {us : List V} {i : Nat} {H H' : Hp} (h : But us i H H') (hl : ∀ (j : Nat) (l : Addr), us[j]? = some (.ref l) → ∃ xs, H l = some (.lst xs)) : Tup H H' := fun b xs e => h.keep b _ e fun j hj z => by
  obtain ⟨ys, hy⟩ := hl j b z
  rw [e] at hy; cases hy
theorem But.first {us : List V} {i : Nat} {H0 H H' : Hp} {f : Addr} {qs : Nat → List Pt} (h : But us i H H') (hL : LsV H0 H f us fun i xs H => PtsV H xs (qs i)) {n : Nat} (hn : us.length = n) (hi : i ≤ n) : PssV H' (us.drop i) (n - i) (fun j => qs (i + j)) := by
  have tp := h.tup fun j l e => by obtain ⟨l', xs, e1, _, _, e4, _⟩ := hL.get j _ e; cases e1; exact ⟨xs, e4⟩
  refine ⟨by rw [List.length_drop, hn], fun j v e => ?_⟩
  rw [List.getElem?_drop] at e
  obtain ⟨l, xs, rfl, e2, e3, e4, e5⟩ := hL.get (i + j) v e
  refine ⟨l, xs, rfl, h.keep l _ e4 fun j' hj' z => ?_, e5.tup tp⟩
  have := hL.one _ _ _ e z
  omega
end Cv

namespace Cv
open PySem PySem.Spec PyProof.Rows L2
/-! ### paths -/
noncomputable def headQ (q : List Pt) : Option Pt := q[0]?
noncomputable def lastQ (q : List Pt) : Option Pt := q[q.length - 1]?
noncomputable def Joined (n : Nat) (qs : Nat → List Pt) : Prop := ∀ i, i + 1 < n → lastQ (qs i) = headQ (qs (i + 1))
noncomputable def partsF (lp : Addr) : List (Str × V) := putF "parts" (.ref lp) []
structure PathAt (C : Addr) (H : Hp) (p lp : Addr) (ks : List V) (n : Nat) (qs : Nat → List Pt) : Prop where
  ob : ∃ dx, H p = some (.ins C dx (partsF lp))
  ls : H lp = some (.lst ks)
  pt : PssV H ks n qs
theorem PathAt.same {C : Addr} {H H' : Hp} {p lp : Addr} {ks : List V} {n : Nat} {qs : Nat → List Pt} (h : PathAt C H p lp ks n qs) (s : Same H H') : PathAt C H' p lp ks n qs := by
  obtain ⟨⟨dx, h1⟩, h2, h3⟩ := h
  exact ⟨⟨dx, s _ _ h1⟩, s _ _ h2, h3.same s⟩
end Cv
namespace Cv
open PySem PySem.Spec PyProof.Rows L2
/-! ### the law's own path -/
structure JoinedI (css : List (List Pl)) : Prop where
  ne : ∀ c ∈ css, 1 ≤ c.length ∧ c.length ≤ 10
  sz : ∀ c ∈ css, SzQ 110 c
  jn : ∀ (i : Nat) (a b : List Pl), css[i]? = some a → css[i + 1]? = some b → a[a.length - 1]? = b[0]?
noncomputable def qsOf (B : Int) (css : List (List Pl)) (i : Nat) : List Pt := ptsOf B ((css[i]?).getD [])
noncomputable def Apart (css : List (List Pl)) : Prop := ∃ (i : Nat) (a b : List Pl), css[i]? = some a ∧ css[i + 1]? = some b ∧ a[a.length - 1]? ≠ b[0]?
theorem ptsOf_len' (B : Int) (pl : List Pl) : (ptsOf B pl).length = pl.length := by unfold ptsOf; rw [List.length_map]
theorem ptsOf_get (B : Int) (pl : List Pl) (i : Nat) : (ptsOf B pl)[i]? = (pl[i]?).map fun p => (Rat.divInt p.1 B, Rat.divInt p.2 B) := by unfold ptsOf; rw [List.getElem?_map]
theorem divInt_inj {x y B : Int} (hB : B ≠ 0) (h : Rat.divInt x B = Rat.divInt y B) : x = y := by
  rw [divInt_cast, divInt_cast] at h
  have b0 : (B : Rat) ≠ 0 := fun z => hB (Rat.intCast_inj.mp (z.trans (Rat.intCast_zero).symm))
  have : (x : Rat) = (y : Rat) := by grind
  exact Rat.intCast_inj.mp this
theorem of_ends {B : Int} (hB : B ≠ 0) {a b : List Pl} (h : lastQ (ptsOf B a) = headQ (ptsOf B b)) : a[a.length - 1]? = b[0]? := by
  unfold lastQ headQ at h
  rw [ptsOf_len', ptsOf_get, ptsOf_get] at h
  cases e1 : a[a.length - 1]? with
  | none =>
    rw [e1] at h
    cases e2 : b[0]? with
    | none => rfl
    | some q => rw [e2] at h; cases h
  | some p =>
    rw [e1] at h
    cases e2 : b[0]? with
    | none => rw [e2] at h; cases h
    | some q =>
      rw [e2] at h
      have h' := Option.some.inj h
      rw [Prod.mk.injEq] at h'
      rw [Prod.ext (divInt_inj hB h'.1) (divInt_inj hB h'.2)]
theorem qsOf_some {B : Int} {css : List (List Pl)} {i : Nat} {c : List Pl} (h : css[i]? = some c) : qsOf B css i = ptsOf B c := by unfold qsOf; rw [h]; rfl
theorem Apart.not {css : List (List Pl)} (h : Apart css) {B : Int} (hB : B ≠ 0) : ¬ Joined css.length (qsOf B css) := fun hj => by
  obtain ⟨i, a, b, e1, e2, n⟩ := h
  have hi : i + 1 < css.length := (List.getElem?_eq_some_iff.mp e2).1
  have := hj i hi
  rw [qsOf_some e1, qsOf_some e2] at this
  exact n (of_ends hB this)
theorem JoinedI.nil : JoinedI [] := ⟨fun _ h => (nomatch h), fun _ h => (nomatch h), fun i a b e => by simp at e⟩
theorem JoinedI.snoc {css : List (List Pl)} {c : List Pl} (h : JoinedI css) (h1 : 1 ≤ c.length) (h2 : c.length ≤ 10) (hz : SzQ 110 c) (hj : ∀ a, css[css.length - 1]? = some a → 1 ≤ css.length → a[a.length - 1]? = c[0]?) : JoinedI (css ++ [c]) := by
  refine ⟨fun d hd => ?_, fun d hd => ?_, fun i a b e1 e2 => ?_⟩
  · rcases List.mem_append.mp hd with hd | hd
    · exact h.ne d hd
    · rw [List.mem_singleton.mp hd]; exact ⟨h1, h2⟩
  · rcases List.mem_append.mp hd with hd | hd
    · exact h.sz d hd
    · rw [List.mem_singleton.mp hd]; exact hz
  · rcases snoc_get e2 with ⟨p1, p2⟩ | ⟨p1, rfl⟩
    · rcases snoc_get e1 with ⟨q1, q2⟩ | ⟨q1, _⟩
      · exact h.jn i a b q2 p2
      · omega
    · rcases snoc_get e1 with ⟨q1, q2⟩ | ⟨q1, _⟩
      · exact hj a (by rw [show css.length - 1 = i by omega]; exact q2) (by omega)
      · omega
end Cv
namespace Cv
open PySem PySem.Spec PyProof.Rows L2
theorem WayV.tup {H H' : Hp} {v : V} {B kd : Int} (h : WayV H v B kd) (t : Tup H H') : WayV H' v B kd := by
  obtain ⟨a, s, b, sx, sy, bx, by_, rfl, h1, h2, h3, r⟩ := h
  exact ⟨a, s, b, sx, sy, bx, by_, rfl, t _ _ h1, t _ _ h2, t _ _ h3, r⟩
theorem PlsV.cons {H : Hp} {us : List V} {pl : List Pl} {v : V} {x y : Int} (hv : RwV H v x y) (h : PlsV H us pl) : PlsV H (v :: us) ((x, y) :: pl) := by
  refine ⟨by rw [List.length_cons, List.length_cons, h.len], fun i w q e1 e2 => ?_⟩
  cases i with
  | zero => cases e1; cases e2; exact hv
  | succ i => exact h.get i w q (by simpa using e1) (by simpa using e2)
theorem CsV.drop {H : Hp} {D : Option Addr} {ys : List V} {css : List (List Pl)} (h : CsV H D ys css) : CsV H none ys css :=
  ⟨h.len, fun i v c e1 e2 => by obtain ⟨l, us, q1, q2, q3, q4⟩ := h.get i v c e1 e2; exact ⟨l, us, q1, (fun z => by cases z), q3, q4⟩⟩
end Cv
namespace Cv
open PySem PySem.Spec PyProof.Rows L2
theorem CsV.take {H : Hp} {D : Option Addr} {ys : List V} {css : List (List Pl)} (h : CsV H D ys css) (k : Nat) : CsV H D (ys.take k) (css.take k) := by
  refine ⟨by rw [List.length_take, List.length_take, h.len], fun i v c e1 e2 => ?_⟩
  rw [List.getElem?_take] at e1 e2
  split at e1
  · rename_i hi
    rw [if_pos hi] at e2
    exact h.get i v c e1 e2
  · cases e1
theorem CsV.dropK {H : Hp} {D : Option Addr} {ys : List V} {css : List (List Pl)} (h : CsV H D ys css) (k : Nat) : CsV H D (ys.drop k) (css.drop k) := by
  refine ⟨by rw [List.length_drop, List.length_drop, h.len], fun i v c e1 e2 => ?_⟩
  rw [List.getElem?_drop] at e1 e2
  exact h.get _ v c e1 e2
end Cv
namespace Cv
open PySem PySem.Spec PyProof.Rows L2
end Cv
namespace Cv
open PySem PySem.Spec PyProof.Rows L2
theorem But.base {us : List V} {i : Nat} {H0 H H' : Hp} (h : But us i H H') (s : Same H0 H) (hn : ∀ (j : Nat) (l : Addr), us[j]? = some (.ref l) → H0 l = none) : Same H0 H' := fun b o e => h.keep b o (s _ _ e) fun j hj z => by
  rw [hn j b z] at e; cases e
theorem LsV.new {H1 H2 : Hp} {D : Addr} {ys : List V} {R : Nat → List V → Hp → Prop} (h : LsV H1 H2 D ys R) (j : Nat) (l : Addr) (e : ys[j]? = some (.ref l)) : H1 l = none := by
  obtain ⟨l', xs, e1, e2, _⟩ := h.get j _ e
  cases e1; exact e2
theorem LsV.there {H1 H2 : Hp} {D : Addr} {ys : List V} {R : Nat → List V → Hp → Prop} (h : LsV H1 H2 D ys R) (j : Nat) (l : Addr) (e : ys[j]? = some (.ref l)) : ∃ xs, H2 l = some (.lst xs) := by
  obtain ⟨l', xs, e1, _, _, e4, _⟩ := h.get j _ e
  cases e1; exact ⟨xs, e4⟩
/-- an instance's fields are told: the lists stay -/
theorem PssV.nil (H : Hp) : PssV H [] 0 (fun _ => []) := ⟨rfl, fun i v e => nomatch (show (none : Option V) = some v from e)⟩
/-- the path stays where lists that are not its own are changed -/
theorem PathAt.upd {C : Addr} {H : Hp} {x lp l : Addr} {ks ls : List V} {n : Nat} {qs : Nat → List Pt} {o : HO} (h : PathAt C H x lp ks n qs) (hl : H l = some (.lst ls)) (h1 : l ≠ lp) (h2 : ∀ j : Nat, ks[j]? ≠ some (.ref l)) : PathAt C (L2.upd H l o) x lp ks n qs := by
  obtain ⟨⟨dx, q1⟩, q2, q3⟩ := h
  refine ⟨⟨dx, by rw [upd_ne (fun z => by rw [z, hl] at q1; cases q1)]; exact q1⟩, by rw [upd_ne (fun z => h1 z.symm)]; exact q2, q3.1, fun j v e => ?_⟩
  obtain ⟨l', xs, rfl, e2, e3⟩ := q3.2 j v e
  exact ⟨l', xs, rfl, by rw [upd_ne (fun z => h2 j (by rw [← z]; exact e))]; exact e2, e3.tup (Tup.lst hl)⟩
end Cv
namespace Cv
open PySem PySem.Spec PyProof.Rows L2
end Cv
namespace Cv
open PySem PySem.Spec PyProof.Rows L2
end Cv

namespace Cv
/-! ### rows of whole numbers -/
end Cv

namespace Cv
open PySem PySem.Spec PyProof.Rows L2
/-! order of a share's top and bottom -/
end Cv
namespace Cv
open PySem PySem.Spec PyProof.Rows L2
theorem CsV.one {H : Hp} {D : Option Addr} {l : Addr} {us : List V} {c : List Pl} (hD : some l ≠ D) (h1 : H l = some (.lst us)) (h2 : PlsV H us c) : CsV H D [.ref l] [c] :=
  ⟨rfl, fun i v c' e1 e2 => by
    cases i with
    | zero => cases e1; cases e2; exact ⟨l, us, rfl, hD, h1, h2⟩
    | succ i => simp at e1⟩
end Cv
namespace Cv
open PySem PySem.Spec PyProof.Rows L2
end Cv
namespace Cv
open PySem PySem.Spec PyProof.Rows L2
noncomputable def OnT (n : Nat) (v : V) (H : Hp) : Prop := ∃ t : Rat, ShV H v t ∧ Bd 101 t ∧ 0 ≤ t.num ∧ t.num ≤ n * (t.den : Int)
theorem OnT.tup {n : Nat} {v : V} {H H' : Hp} (h : OnT n v H) (s : Tup H H') : OnT n v H' := by
  obtain ⟨t, h1, h2⟩ := h
  exact ⟨t, h1.tup s, h2⟩
theorem OnT.int {n k : Nat} {a : Addr} {H : Hp} (h : H a = some (.tup [.int (k : Int), .int 1])) (hk : k ≤ n) (hn : n ≤ 12) : OnT n (.ref a) H := by
  refine ⟨((k : Int) : Rat), ShV.int h, Bd.mono (Bd.intc (n := 20) (sz_of (b := 16) (by omega) (by decide))) (by decide), by rw [Rat.num_intCast]; omega, ?_⟩
  rw [Rat.num_intCast, Rat.den_intCast]; omega
end Cv

namespace Cv
/-! ### a path cut in two, a path turned -/
/-! the point at k + s -/
/-! order -/
/-! joined parts -/
/-! sizes -/
theorem OvP.up {B : Int} {m k R : Nat} {t : Rat} {p : Pt} (hp : OvP B m p) (bt : Bd 101 t) (hR : R = 11) : OvP (B * (t.den : Int) ^ R) (m + R * (101 + 2) + 1) p := by
  refine ⟨ov_up bt (r := 0) (by rw [Int.pow_zero, Int.mul_one, Nat.zero_mul, Nat.add_zero]; exact hp.1) (by omega), ov_up bt (r := 0) (by rw [Int.pow_zero, Int.mul_one, Nat.zero_mul, Nat.add_zero]; exact hp.2) (by omega)⟩
/-! turned -/
end Cv

namespace Cv
open PySem PySem.Spec PyProof.Rows L2
theorem PssV.congr {H : Hp} {us : List V} {n m : Nat} {qs qs' : Nat → List Pt} (h : PssV H us n qs) (hn : n = m) (hq : ∀ i, i < n → qs i = qs' i) : PssV H us m qs' :=
  ⟨by rw [h.1, hn], fun i v e => by
    have hi : i < n := by have := (List.getElem?_eq_some_iff.mp e).1; rw [h.1] at this; exact this
    rw [← hq i hi]; exact h.2 i v e⟩
end Cv

namespace Cv
open PySem PySem.Spec PyProof.Rows L2
theorem PtsV.two {H : Hp} {v w : V} {p q : Pt} (h1 : PtV H v p.1 p.2) (h2 : PtV H w q.1 q.2) : PtsV H [v, w] [p, q] := ((PtsV.nil H).snoc h1).snoc h2
end Cv

namespace Cv
open PySem PySem.Spec PyProof.Rows L2
/-- a share strictly within a path -/
noncomputable def InT (n : Nat) (v : V) (H : Hp) : Prop := ∃ t : Rat, ShV H v t ∧ Bd 40 t ∧ 0 < t.num ∧ t.num < n * (t.den : Int)
theorem InT.tup {n : Nat} {v : V} {H H' : Hp} (h : InT n v H) (s : Tup H H') : InT n v H' := by
  obtain ⟨t, h1, h2⟩ := h
  exact ⟨t, h1.tup s, h2⟩
theorem InT.int {n : Nat} {k : Int} {a : Addr} {H : Hp} (h : H a = some (.tup [.int k, .int 1])) (h0 : 0 < k) (hk : k < n) (hn : n ≤ 12) : InT n (.ref a) H := by
  refine ⟨(k : Rat), ShV.int h, Bd.mono (Bd.intc (n := 20) (sz_of (b := 16) (by omega) (by decide))) (by decide), by rw [Rat.num_intCast]; exact h0, ?_⟩
  rw [Rat.num_intCast, Rat.den_intCast]; omega
noncomputable def OutT (n : Nat) (v : V) (H : Hp) : Prop := ∃ t : Rat, ShV H v t ∧ Bd 101 t ∧ ¬ (0 < t.num ∧ t.num < n * (t.den : Int))
theorem OutT.tup {n : Nat} {v : V} {H H' : Hp} (h : OutT n v H) (s : Tup H H') : OutT n v H' := by
  obtain ⟨t, h1, h2⟩ := h
  exact ⟨t, h1.tup s, h2⟩
theorem OutT.int {n : Nat} {k : Int} {a : Addr} {H : Hp} (h : H a = some (.tup [.int k, .int 1])) (hk : k = 0 ∨ k = n) (hn : n ≤ 12) : OutT n (.ref a) H := by
  refine ⟨(k : Rat), ShV.int h, Bd.mono (Bd.intc (n := 20) (sz_of (b := 16) (by omega) (by decide))) (by decide), ?_⟩
  rw [Rat.num_intCast, Rat.den_intCast]; omega
end Cv

/-! Mathematics of a parting: why the walk round the differences ends (k50 to k65). -/
namespace Cv
/-- the turn between two steps -/
noncomputable def cr (p q : Int × Int) : Int := p.1 * q.2 - p.2 * q.1
/-- along a way -/
noncomputable def dt (w d : Int × Int) : Int := w.1 * d.1 + w.2 * d.2
theorem cr_self (p : Int × Int) : cr p p = 0 := by unfold cr; grind
/-- the way amid two steps -/
noncomputable def amid (r l : Int × Int) : Int × Int := (l.2 - r.2, r.1 - l.1)
end Cv

/-! xs.index(y) of a list of whole numbers -/
namespace Cv
open PySem PySem.Spec PyProof.Rows L2
section
variable {X : Cx}
end
end Cv

/-! Promises of partings (k50 to k65) -/
namespace Cv
open PySem PySem.Spec PyProof.Rows L2
noncomputable def SzW (n : Nat) (p : Pl) : Prop := Sz n p.1 ∧ Sz n p.2
/-- a step across: its two parts and where it comes from -/
noncomputable abbrev Stp := Pl × Int × Int
noncomputable def StV (H : Hp) (v : V) (s : Stp) : Prop := ∃ a : Addr, v = .ref a ∧ H a = some (.tup [.int s.1.1, .int s.1.2, .int s.2.1, .int s.2.2])
theorem StV.same {H H' : Hp} {v : V} {s : Stp} (h : StV H v s) (e : Same H H') : StV H' v s := by
  obtain ⟨a, rfl, h⟩ := h
  exact ⟨a, rfl, e _ _ h⟩
structure StsV (H : Hp) (vs : List V) (ss : List Stp) : Prop where
  len : vs.length = ss.length
  get : ∀ (i : Nat) v s, vs[i]? = some v → ss[i]? = some s → StV H v s
theorem StsV.same {H H' : Hp} {vs : List V} {ss : List Stp} (h : StsV H vs ss) (e : Same H H') : StsV H' vs ss := ⟨h.len, fun i v s e1 e2 => (h.get i v s e1 e2).same e⟩
theorem StsV.at {H : Hp} {vs : List V} {ss : List Stp} (h : StsV H vs ss) {i : Nat} {s : Stp} (e : ss[i]? = some s) : ∃ a, vs[i]? = some (.ref a) ∧ H a = some (.tup [.int s.1.1, .int s.1.2, .int s.2.1, .int s.2.2]) := by
  have hi : i < ss.length := (List.getElem?_eq_some_iff.mp e).1
  have e1 : vs[i]? = some (vs[i]'(by rw [h.len]; exact hi)) := List.getElem?_eq_getElem _
  obtain ⟨a, e2, h2⟩ := h.get i _ s e1 e
  exact ⟨a, by rw [e1, e2], h2⟩
/-- the steps that hold the origin among them -/
noncomputable def Holds0 (ss : List Stp) : Prop := (∃ r, ss = [r] ∧ r.1 = (0, 0)) ∨ (∃ r f, ss = [r, f] ∧ cr r.1 f.1 = 0 ∧ dt r.1 f.1 ≤ 0 ∧ r.1 ≠ (0, 0)) ∨ (∃ r l f, ss = [r, l, f] ∧ 0 < cr r.1 l.1 ∧ cr r.1 f.1 ≤ 0 ∧ cr f.1 l.1 ≤ 0)
/-- each step goes from a place of one to a place of the other -/
noncomputable def Across (pl ql : List Pl) (s : Stp) : Prop := ∃ (i j : Nat) (p q : Pl), pl[i]? = some p ∧ ql[j]? = some q ∧ s = ((q.1 - p.1, q.2 - p.2), (i : Int), (j : Int))
end Cv
namespace Cv
open PySem PySem.Spec PyProof.Rows L2
/-- all steps across -/
theorem Across.sz {n : Nat} {pl ql : List Pl} {s : Stp} (h : Across pl ql s) (zp : SzQ n pl) (zq : SzQ n ql) : SzW (n + 1) s.1 := by
  obtain ⟨i, j, p, q, h1, h2, rfl⟩ := h
  have a := zp _ (List.mem_of_getElem? h1)
  have b := zq _ (List.mem_of_getElem? h2)
  exact ⟨Sz.mono (Sz.sub b.1 a.1) (by omega), Sz.mono (Sz.sub b.2 a.2) (by omega)⟩
noncomputable def RLok (r l : Stp) : Prop := (r = l ∧ r.1 ≠ (0, 0)) ∨ 0 < cr r.1 l.1
theorem RLok.ne {r l : Stp} (h : 0 < cr r.1 l.1) : r ≠ l := fun e => by subst e; rw [cr_self] at h; omega
theorem SzQ.mono {n m : Nat} {c : List Pl} (h : SzQ n c) (e : n ≤ m) : SzQ m c := fun p hp => ⟨(h p hp).1.mono e, (h p hp).2.mono e⟩
end Cv

namespace Cv
open PySem PySem.Spec PyProof.Rows L2
end Cv

namespace Cv
open PySem PySem.Spec PyProof.Rows L2
end Cv
namespace Cv
open PySem PySem.Spec PyProof.Rows L2
noncomputable def CvsV (H : Hp) (us : List V) (ps : List Pt) (d e : Nat → Rat) : Prop := ∀ (i : Nat) (v : V), us[i]? = some v → ∃ (l : Addr) (xs : List V), v = V.ref l ∧ H l = some (HO.lst xs) ∧ PtsV H xs (cvP ps d e i)
theorem CvsV.same {H H' : Hp} {us : List V} {ps : List Pt} {d e : Nat → Rat} (h : CvsV H us ps d e) (s : Same H H') : CvsV H' us ps d e := fun i v ev => by
  obtain ⟨l, xs, e1, e2, e3⟩ := h i v ev
  exact ⟨l, xs, e1, s _ _ e2, e3.same s⟩
end Cv
namespace Cv
open PySem PySem.Spec PyProof.Rows L2
end Cv
namespace Cv
open PySem PySem.Spec PyProof.Rows L2
end Cv

/-! Common shares, lines told (k50, k51, k62) -/
namespace Cv
open PySem PySem.Spec PyProof.Rows L2
theorem StV.tup {H H' : Hp} {v : V} {s : Stp} (h : StV H v s) (e : Tup H H') : StV H' v s := by
  obtain ⟨a, rfl, h⟩ := h
  exact ⟨a, rfl, e _ _ h⟩
theorem StsV.tup {H H' : Hp} {vs : List V} {ss : List Stp} (h : StsV H vs ss) (e : Tup H H') : StsV H' vs ss := ⟨h.len, fun i v s e1 e2 => (h.get i v s e1 e2).tup e⟩
/-! ### mathematics of steps that come to nought -/
noncomputable def HoldsS (ss : List Stp) : Prop := (∃ r, ss = [r] ∧ r.1 = (0, 0)) ∨ (∃ r f, ss = [r, f] ∧ cr r.1 f.1 = 0 ∧ r.1.1 * f.1.1 ≤ 0 ∧ r.1.2 * f.1.2 ≤ 0 ∧ r.1 ≠ (0, 0)) ∨ (∃ r l f, ss = [r, l, f] ∧ 0 < cr r.1 l.1 ∧ cr r.1 f.1 ≤ 0 ∧ cr f.1 l.1 ≤ 0)
theorem sq_nn (a : Int) : 0 ≤ a * a := by
  rcases Int.le_total 0 a with h | h
  · exact Int.mul_nonneg h h
  · have := Int.mul_nonneg (show 0 ≤ -a by omega) (show 0 ≤ -a by omega); grind
theorem sign_of {a b c d : Int} (h : a * d - b * c = 0) (h2 : a * c + b * d ≤ 0) : a * c ≤ 0 := by
  rcases Int.lt_or_le 0 (a * c) with z | z
  · exfalso
    have e : (b * d) * (a * c) = (b * c) * (b * c) := by
      have : a * d = b * c := by omega
      grind
    have p := sq_nn (b * c)
    rw [← e] at p
    have : b * d < 0 := by omega
    have := Int.mul_neg_of_neg_of_pos this z
    omega
  · exact z
theorem Holds0.s {ss : List Stp} (h : Holds0 ss) : HoldsS ss := by
  rcases h with h | ⟨r, f, e, h1, h2, h3⟩ | h
  · exact .inl h
  · refine .inr (.inl ⟨r, f, e, h1, ?_, ?_, h3⟩)
    · exact sign_of h1 h2
    · refine sign_of (a := r.1.2) (b := r.1.1) (c := f.1.2) (d := f.1.1) ?_ ?_
      · unfold cr at h1; grind
      · unfold dt at h2; omega
  · exact .inr (.inr h)
end Cv
namespace Cv
open PySem PySem.Spec PyProof.Rows L2
/-! ### o[i] += e of a list -/
section
variable {X : Cx}
end
section
variable {K : PySem.W.Frag} {J : It} {H1 : Hp} {te : TE} {cs : L2.St} {Q : VK} {n : Nat}
end
/-! ### promises -/
/-- points over places: what they are over -/
structure Over (ps : List Pt) (pl : List Pl) (X Y : Int) : Prop where
  x0 : 0 < X
  y0 : 0 < Y
  eq : toP X Y pl = ps
noncomputable def dotQ (qs cs : List Rat) : Rat := (List.zipWith (fun (t c : Rat) => t * c) qs cs).sum
/-- the same point told by parts of both lists -/
structure MeanQ (ps qs : List Pt) (r1 r2 : List Rat) : Prop where
  l1 : r1.length = ps.length
  l2 : r2.length = qs.length
  n1 : ∀ r ∈ r1, 0 ≤ r
  n2 : ∀ r ∈ r2, 0 ≤ r
  o1 : r1.sum = 1
  o2 : r2.sum = 1
  ex : dotQ r1 (ps.map (·.1)) = dotQ r2 (qs.map (·.1))
  ey : dotQ r1 (ps.map (·.2)) = dotQ r2 (qs.map (·.2))
/-! ### what common_shares gathers -/
/-- the steps reckoned anew -/
theorem Over.len {ps : List Pt} {c : List Pl} {X Y : Int} (h : Over ps c X Y) : c.length = ps.length := by rw [← h.eq, toP_len]
theorem Over.at {ps : List Pt} {c : List Pl} {X Y : Int} (h : Over ps c X Y) {i : Nat} {p : Pl} (e : c[i]? = some p) : ps[i]? = some (Rat.divInt p.1 X, Rat.divInt p.2 Y) := by
  rw [← h.eq]; unfold toP; rw [List.getElem?_map, e]; rfl
end Cv

namespace Cv
open PySem PySem.Spec PyProof.Rows L2
/-! ### polar points: one share changed -/
noncomputable def co (p : Pt) (i : Nat) : Rat := if i = 0 then p.1 else p.2
end Cv

namespace L2
open PySem PySem.Spec PyProof.Rows
section
variable {X : Cx} {pos : Pos}
end
end L2
namespace Cv
open PySem PySem.Spec PyProof.Rows L2
end Cv
/-! What the laws k50, k51 look at -/
namespace Cv
open PySem PySem.Spec PyProof.Rows L2
structure LineQ (ps qs : List Pt) (q1 q2 q3 : Rat) : Prop where
  lo : ∀ p ∈ ps, q1 * p.1 + q2 * p.2 < q3
  hi : ∀ p ∈ qs, q3 < q1 * p.1 + q2 * p.2
structure LineV (H : Hp) (c : Addr) (ps qs : List Pt) (s : Nat) : Prop where
  ex : ∃ (v1 v2 v3 : V) (q1 q2 q3 : Rat), H c = some (.tup [.str "line", v1, v2, v3]) ∧ ShV H v1 q1 ∧ ShV H v2 q2 ∧ ShV H v3 q3 ∧ Bd s q1 ∧ Bd s q2 ∧ Bd s q3 ∧ LineQ ps qs q1 q2 q3
structure ComV (H : Hp) (c l1 l2 : Addr) (ps qs : List Pt) (s : Nat) : Prop where
  ex : ∃ (v1 v2 : List V) (r1 r2 : List Rat), H c = some (.tup [.str "common", .ref l1, .ref l2]) ∧ H l1 = some (.lst v1) ∧ H l2 = some (.lst v2) ∧ ShL H v1 r1 ∧ ShL H v2 r2 ∧ (∀ r ∈ r1, Bd s r) ∧ (∀ r ∈ r2, Bd s r) ∧ MeanQ ps qs r1 r2
theorem LineV.same {H H' : Hp} {c : Addr} {ps qs : List Pt} {s : Nat} (h : LineV H c ps qs s) (e : Same H H') : LineV H' c ps qs s := by
  obtain ⟨v1, v2, v3, q1, q2, q3, h0, h1, h2, h3, r⟩ := h
  exact ⟨v1, v2, v3, q1, q2, q3, e _ _ h0, h1.same e, h2.same e, h3.same e, r⟩
theorem ComV.same {H H' : Hp} {c l1 l2 : Addr} {ps qs : List Pt} {s : Nat} (h : ComV H c l1 l2 ps qs s) (e : Same H H') : ComV H' c l1 l2 ps qs s := by
  obtain ⟨v1, v2, r1, r2, h0, h1, h2, h3, h4, r⟩ := h
  exact ⟨v1, v2, r1, r2, e _ _ h0, e _ _ h1, e _ _ h2, h3.same e, h4.same e, r⟩
/-! ### a line and a common point can't both be -/
/-! ### promises -/
/-- what was told, by its kind: a line (true) or a common point -/
noncomputable def KdV (H : Hp) (c : Addr) (ps qs : List Pt) (s : Nat) (b : Bool) (l1 l2 : Addr) : Prop := if b = true then LineV H c ps qs s else ComV H c l1 l2 ps qs s
theorem KdV.same {H H' : Hp} {c l1 l2 : Addr} {ps qs : List Pt} {s : Nat} {b : Bool} (h : KdV H c ps qs s b l1 l2) (e : Same H H') : KdV H' c ps qs s b l1 l2 := by
  cases b with
  | true => exact LineV.same (show LineV H c ps qs s from h) e
  | false => exact ComV.same (show ComV H c l1 l2 ps qs s from h) e
end Cv

/-! Texts of shares, points, curves, paths; promises (k80 to k85) -/
namespace Cv
open PySem PySem.Spec PyProof.Rows L2
/-! ### split -/
/-! ### promises -/
end Cv

/-! What the law k80 writes and joins -/
namespace Cv
open PySem PySem.Spec PyProof.Rows L2
structure JnQ (n : Nat) (qs : Nat → List Pt) (D : Int) : Prop where
  n1 : 1 ≤ n
  n4 : n ≤ 4
  ln : ∀ i, i < n → 1 ≤ (qs i).length ∧ (qs i).length ≤ 12
  jn : Joined n qs
  d0 : 0 < D
  dz : Sz 130 D
  ov : ∀ i, i < n → ∀ p ∈ qs i, OvP D 240 p
/-- curves that join so far -/
structure JnI (n : Nat) (qs : Nat → List Pt) (D : Int) : Prop where
  ln : ∀ i, i < n → 1 ≤ (qs i).length ∧ (qs i).length ≤ 12
  jn : Joined n qs
  d0 : 0 < D
  dz : Sz (31 * n) D
  ov : ∀ i, i < n → ∀ p ∈ qs i, OvP D (79 + 31 * n) p
noncomputable def moreQ (n : Nat) (qs : Nat → List Pt) (c : List Pt) : Nat → List Pt := fun j => if j < n then qs j else c
theorem JnI.more {n : Nat} {qs : Nat → List Pt} {D Bo : Int} {z : Pt} {ms : List Pt} (h : JnI (n + 1) qs D) (hz : lastQ (qs n) = some z) (hB : 0 < Bo) (zB : Sz 31 Bo) (ho : ∀ p ∈ ms, OvP Bo 110 p) : JnI (n + 2) (moreQ (n + 1) qs (z :: ms.take 11)) (D * Bo) := by
  have hzm : z ∈ qs n := List.mem_of_getElem? hz
  have up : ∀ p, OvP D (79 + 31 * (n + 1)) p → OvP (D * Bo) (79 + 31 * (n + 2)) p := fun p hp => ⟨(hp.1.scale zB).mono (by omega), (hp.2.scale zB).mono (by omega)⟩
  refine ⟨fun i hi => ?_, fun i hi => ?_, Int.mul_pos h.d0 hB, (Sz.mul h.dz zB).mono (by omega), fun i hi p hp => ?_⟩
  · unfold moreQ
    split
    · rename_i h2; exact h.ln i h2
    · rw [List.length_cons, List.length_take]; omega
  · unfold moreQ
    rw [if_pos (by omega)]
    by_cases e : i + 1 < n + 1
    · rw [if_pos e]; exact h.jn i e
    · rw [if_neg e]
      have : i = n := by omega
      subst this
      rw [hz]; rfl
  · unfold moreQ at hp
    split at hp
    · rename_i h2; exact up p (h.ov i h2 p hp)
    · rcases List.mem_cons.mp hp with rfl | hp
      · exact up _ (h.ov n (by omega) _ hzm)
      · have o := ho p (List.mem_of_mem_take hp)
        exact ⟨(o.1.scaleL h.dz).mono (by omega), (o.2.scaleL h.dz).mono (by omega)⟩
theorem JnI.fin {n : Nat} {qs : Nat → List Pt} {D : Int} (h : JnI n qs D) (h1 : 1 ≤ n) (h4 : n ≤ 4) : JnQ n qs D := ⟨h1, h4, h.ln, h.jn, h.d0, h.dz.mono (by omega), fun i hi p hp => ⟨(h.ov i hi p hp).1.mono (by omega), (h.ov i hi p hp).2.mono (by omega)⟩⟩
theorem PssV.more {H H' : Hp} {us : List V} {n : Nat} {qs : Nat → List Pt} {l : Addr} {xs : List V} {c : List Pt} (h : PssV H us n qs) (t : ∀ (j : Nat) (a : Addr) ys, us[j]? = some (.ref a) → H a = some (.lst ys) → H' a = some (.lst ys)) (tt : Tup H H') (hl : H' l = some (.lst xs)) (hP : PtsV H' xs c) : PssV H' (us ++ [.ref l]) (n + 1) (moreQ n qs c) := by
  refine ⟨by rw [List.length_append, h.1]; rfl, fun i v e => ?_⟩
  by_cases hi : i < us.length
  · rw [List.getElem?_append_left hi] at e
    obtain ⟨a, ys, rfl, h1, h2⟩ := h.2 i v e
    refine ⟨a, ys, rfl, t i a ys e h1, ?_⟩
    unfold moreQ
    rw [if_pos (by rw [← h.1]; exact hi)]
    exact h2.tup tt
  · rw [List.getElem?_append_right (by omega)] at e
    have : i - us.length = 0 := by
      cases q : i - us.length with
      | zero => rfl
      | succ k => rw [q] at e; simp at e
    rw [this] at e
    cases e
    refine ⟨l, xs, rfl, hl, ?_⟩
    unfold moreQ
    rw [if_neg (by rw [← h.1]; exact hi)]
    exact hP
end Cv

/-! Dicts and what the desk needs: a list unpacked with a star, a def called by a name that holds it, dicts of the module, sorted names -/
namespace Cv
open PySem PySem.Spec PyProof.Rows L2
section
variable {prog : Program} {w : World} {A : Around} {E : Value → Shared → Prop} {s : Shared}
end
section
variable {X : Cx}
end
/-! ### a def called by a name that holds it -/
section
variable {X : Cx} {CX : CXT} {j : Nat} {E : XK} {x : Str} {p pos : Pos} {e : Expr} {es : List Expr} {t : TA}
end
end Cv

namespace Cv
open PySem PySem.Spec PyProof.Rows L2
/-! ### the order of texts -/
section
variable {prog : Program} {w : World} {A : Around} {E : Value → Shared → Prop} {s : Shared}
end
end Cv

/-! The way with all places on its left (hulls): plain mathematics -/
namespace Cv
/-- the side to which three places turn -/
noncomputable def tr (a b c : Pl) : Int := (b.1 - a.1) * (c.2 - a.2) - (b.2 - a.2) * (c.1 - a.1)
/-- ahead in the order of pairs -/
noncomputable def lxP (a b : Pl) : Prop := a.1 < b.1 ∨ (a.1 = b.1 ∧ a.2 < b.2)
noncomputable def lxE (a b : Pl) : Prop := a.1 < b.1 ∨ (a.1 = b.1 ∧ a.2 ≤ b.2)
theorem lxP.e {a b : Pl} (h : lxP a b) : lxE a b := by rcases h with h | ⟨h, k⟩; exact .inl h; exact .inr ⟨h, by omega⟩
theorem lxE.refl (a : Pl) : lxE a a := .inr ⟨rfl, by omega⟩
theorem lxP.trans {a b c : Pl} (h : lxP a b) (k : lxP b c) : lxP a c := by unfold lxP at *; omega
theorem lxE.trans {a b c : Pl} (h : lxE a b) (k : lxE b c) : lxE a c := by unfold lxE at *; omega
theorem lx_or (a b : Pl) : lxE a b ∨ lxP b a := by unfold lxE lxP; omega
/-- over: v, u, w in one half of the plane, u to the left of v, w to the left of u -/
theorem half_tr {vx vy ux uy wx wy : Int} (hu : 0 < ux ∨ (ux = 0 ∧ 0 < uy)) (hv : 0 < vx ∨ (vx = 0 ∧ 0 ≤ vy)) (hw : 0 < wx ∨ (wx = 0 ∧ 0 ≤ wy))
    (h1 : 0 ≤ vx * uy - vy * ux) (h2 : 0 ≤ ux * wy - uy * wx) : 0 ≤ vx * wy - vy * wx := by
  have v0 : 0 ≤ vx := by omega
  have w0 : 0 ≤ wx := by omega
  rcases hu with hu | ⟨rfl, hu⟩
  · have e : ux * (vx * wy - vy * wx) = wx * (vx * uy - vy * ux) + vx * (ux * wy - uy * wx) := by grind
    have p : 0 ≤ ux * (vx * wy - vy * wx) := by rw [e]; exact Int.add_nonneg (Int.mul_nonneg w0 h1) (Int.mul_nonneg v0 h2)
    exact Int.nonneg_of_mul_nonneg_right p hu
  · have a : 0 ≤ - (uy * wx) := by simpa using h2
    have w1 : wx = 0 := by
      rcases Int.lt_or_le 0 wx with h | h
      · have := Int.mul_pos hu h; omega
      · omega
    subst w1
    have wy0 : 0 ≤ wy := by omega
    have := Int.mul_nonneg v0 wy0
    simpa using this
theorem tr_self (a b : Pl) : tr a b a = 0 := by unfold tr; grind
theorem tr_end (a b : Pl) : tr a b b = 0 := by unfold tr; grind
/-- a, and b, p, q behind it: q left of a b, p right of it: q left of a p -/
theorem tr_pop {a b p q : Pl} (hb : lxP a b) (hp : lxE a p) (hq : lxE a q) (h1 : 0 ≤ tr a b q) (h2 : tr a b p ≤ 0) : 0 ≤ tr a p q := by
  unfold tr at *
  refine half_tr (ux := b.1 - a.1) (uy := b.2 - a.2) ?_ ?_ ?_ ?_ h1
  · unfold lxP at hb; omega
  · unfold lxE at hp; omega
  · unfold lxE at hq; omega
  · have e : (p.1 - a.1) * (b.2 - a.2) - (p.2 - a.2) * (b.1 - a.1) = -((b.1 - a.1) * (p.2 - a.2) - (b.2 - a.2) * (p.1 - a.1)) := by grind
    rw [e]; omega
/-- q ahead of a, left of z a; p behind a, left of z a: q left of a p -/
theorem tr_back {z a p q : Pl} (hz : lxP z a) (hp : lxE a p) (hq : lxE q a) (h1 : 0 ≤ tr z a q) (h2 : 0 ≤ tr z a p) : 0 ≤ tr a p q := by
  have h : 0 ≤ (a.1 - q.1) * (p.2 - a.2) - (a.2 - q.2) * (p.1 - a.1) := by
    refine half_tr (ux := a.1 - z.1) (uy := a.2 - z.2) ?_ ?_ ?_ ?_ ?_
    · unfold lxP at hz; omega
    · unfold lxE at hq; omega
    · unfold lxE at hp; omega
    · have e : (a.1 - q.1) * (a.2 - z.2) - (a.2 - q.2) * (a.1 - z.1) = tr z a q := by unfold tr; grind
      rw [e]; exact h1
    · have e : (a.1 - z.1) * (p.2 - a.2) - (a.2 - z.2) * (p.1 - a.1) = tr z a p := by unfold tr; grind
      rw [e]; exact h2
  have e : tr a p q = (a.1 - q.1) * (p.2 - a.2) - (a.2 - q.2) * (p.1 - a.1) := by unfold tr; grind
  rw [e]; exact h
/-- the way c d, d .. z a going left: p left of z a is left of c d too, where a is -/
theorem tr_far {c d z a p : Pl} (hc : lxP c d) (hz : lxP z a) (hp : lxE a p) (h0 : 0 ≤ (d.1 - c.1) * (a.2 - z.2) - (d.2 - c.2) * (a.1 - z.1)) (h1 : 0 ≤ tr c d a) (h2 : 0 ≤ tr z a p) : 0 ≤ tr c d p := by
  have h : 0 ≤ (d.1 - c.1) * (p.2 - a.2) - (d.2 - c.2) * (p.1 - a.1) := by
    refine half_tr (ux := a.1 - z.1) (uy := a.2 - z.2) ?_ ?_ ?_ h0 ?_
    · unfold lxP at hz; omega
    · unfold lxP at hc; omega
    · unfold lxE at hp; omega
    · have e : (a.1 - z.1) * (p.2 - a.2) - (a.2 - z.2) * (p.1 - a.1) = tr z a p := by unfold tr; grind
      rw [e]; exact h2
  have e : tr c d p = tr c d a + ((d.1 - c.1) * (p.2 - a.2) - (d.2 - c.2) * (p.1 - a.1)) := by unfold tr; grind
  rw [e]; omega
/-! ### the stack, its top first -/
noncomputable def Ed (Ps : List Pl) : List Pl → Prop
  | b :: a :: r => (∀ q ∈ Ps, 0 ≤ tr a b q) ∧ Ed Ps (a :: r)
  | _ => True
noncomputable def dec (x y : Pl) : Prop := lxP y x
theorem Ed.app {Ps Qs : List Pl} : ∀ {R : List Pl}, Ed Ps R → Ed Qs R → Ed (Ps ++ Qs) R
  | [], _, _ => trivial
  | [_], _, _ => trivial
  | b :: a :: r, h, k => ⟨fun q hq => (List.mem_append.mp hq).elim (h.1 q) (k.1 q), Ed.app h.2 k.2⟩
theorem ed_far {Ps : List Pl} {p z a : Pl} (hz : lxP z a) (hp : lxE a p) (h2 : 0 ≤ tr z a p) (ha : a ∈ Ps) : ∀ (r : List Pl) (d : Pl), Ed Ps (d :: r) → (d :: r).Pairwise dec → (∀ x ∈ d :: r, x ∈ Ps) →
    (∀ c r', r = c :: r' → 0 ≤ (d.1 - c.1) * (a.2 - z.2) - (d.2 - c.2) * (a.1 - z.1)) → Ed [p] (d :: r)
  | [], d, _, _, _, _ => trivial
  | c :: r, d, hE, hP, hm, h0 => by
    have h0' := h0 c r rfl
    have hcd : lxP c d := (List.pairwise_cons.mp hP).1 c (by simp)
    refine ⟨fun q hq => ?_, ed_far hz hp h2 ha r c hE.2 (List.pairwise_cons.mp hP).2 (fun x hx => hm x (List.mem_cons_of_mem _ hx)) fun b r' e => ?_⟩
    · rw [List.mem_singleton.mp hq]
      exact tr_far hcd hz hp h0' (hE.1 a ha) h2
    · subst e
      have hbc : lxP b c := (List.pairwise_cons.mp (List.pairwise_cons.mp hP).2).1 b (by simp)
      have hd := hE.2.1 d (hm d (by simp))
      refine half_tr (ux := d.1 - c.1) (uy := d.2 - c.2) ?_ ?_ ?_ ?_ h0'
      · unfold lxP at hcd; omega
      · unfold lxP at hbc; omega
      · unfold lxP at hz; omega
      · have e : (c.1 - b.1) * (d.2 - c.2) - (c.2 - b.2) * (d.1 - c.1) = tr b c d := by unfold tr; grind
        rw [e]; exact hd
noncomputable def popR (p : Pl) : List Pl → List Pl
  | b :: a :: r => if tr a b p ≤ 0 then popR p (a :: r) else b :: a :: r
  | r => r
theorem pop_ok {Ps : List Pl} {p : Pl} (hp : ∀ q ∈ Ps, lxE q p) : ∀ (R : List Pl) (b : Pl), Ed Ps (b :: R) → (b :: R).Pairwise dec → (∀ x ∈ b :: R, x ∈ Ps) → (∀ q ∈ Ps, lxE b q → 0 ≤ tr b p q) →
    ∃ a r, popR p (b :: R) = a :: r ∧ Ed Ps (a :: r) ∧ (a :: r).Pairwise dec ∧ (∀ x ∈ a :: r, x ∈ Ps) ∧ (a :: r).getLast? = (b :: R).getLast? ∧ (∀ q ∈ Ps, lxE a q → 0 ≤ tr a p q) ∧ (∀ z r', r = z :: r' → 0 < tr z a p)
  | [], b, h1, h2, h3, h4 => ⟨b, [], rfl, h1, h2, h3, rfl, h4, fun z r' e => by cases e⟩
  | a :: R, b, h1, h2, h3, h4 => by
    by_cases e : tr a b p ≤ 0
    · have hab : lxP a b := (List.pairwise_cons.mp h2).1 a (by simp)
      obtain ⟨a', r, q1, q2, q3, q4, q5, q6, q7⟩ := pop_ok hp R a h1.2 (List.pairwise_cons.mp h2).2 (fun x hx => h3 x (List.mem_cons_of_mem _ hx)) fun q hq hl => tr_pop hab (hp a (h3 a (by simp))) hl (h1.1 q hq) e
      refine ⟨a', r, ?_, q2, q3, q4, ?_, q6, q7⟩
      · show (if tr a b p ≤ 0 then popR p (a :: R) else b :: a :: R) = _
        rw [if_pos e]; exact q1
      · rw [q5, List.getLast?_cons_cons]
    · refine ⟨b, a :: R, ?_, h1, h2, h3, rfl, h4, fun z r' ez => ?_⟩
      · show (if tr a b p ≤ 0 then popR p (a :: R) else b :: a :: R) = _
        rw [if_neg e]
      · cases ez; omega
/-- what holds of the stack R, made of the places Ps -/
structure Stk (Ps R : List Pl) : Prop where
  ne : R ≠ []
  ed : Ed Ps R
  dc : R.Pairwise dec
  mem : ∀ x ∈ R, x ∈ Ps
  top : ∃ b r, R = b :: r ∧ Ps.getLast? = some b
  bot : R.getLast? = Ps.head?
theorem Stk.one (p : Pl) : Stk [p] [p] := ⟨by simp, trivial, List.pairwise_singleton _ _, fun x h => h, ⟨p, [], rfl, rfl⟩, rfl⟩
theorem Stk.push {Ps R : List Pl} {p : Pl} (h : Stk Ps R) (hs : (Ps ++ [p]).Pairwise lxP) : Stk (Ps ++ [p]) (p :: popR p R) := by
  obtain ⟨b, R', rfl, hb⟩ := h.top
  have hps := List.pairwise_append.mp hs
  have hlt : ∀ q ∈ Ps, lxP q p := fun q hq => hps.2.2 q hq p (by simp)
  have hmax : ∀ q ∈ Ps, lxE q b := fun q hq => by
    obtain ⟨l, e⟩ := List.getLast?_eq_some_iff.mp hb
    rw [e] at hq hps
    rcases List.mem_append.mp hq with hq | hq
    · exact ((List.pairwise_append.mp hps.1).2.2 q hq b (by simp)).e
    · rw [List.mem_singleton.mp hq]; exact lxE.refl b
  have h0 : ∀ q ∈ Ps, lxE b q → 0 ≤ tr b p q := fun q hq hl => by
    have := hmax q hq
    have e : q = b := by unfold lxE at *; exact Prod.ext (by omega) (by omega)
    rw [e, tr_self]; omega
  obtain ⟨a, r, q1, q2, q3, q4, q5, q6, q7⟩ := pop_ok (fun q hq => (hlt q hq).e) R' b h.ed h.dc h.mem h0
  rw [q1]
  have hap : lxP a p := hlt a (q4 a (by simp))
  have hEp : Ed [p] (a :: r) := by
    cases r with
    | nil => trivial
    | cons z r' =>
      have hza : lxP z a := (List.pairwise_cons.mp q3).1 z (by simp)
      refine ed_far hza hap.e (by have := q7 z r' rfl; omega) (q4 a (by simp)) (z :: r') a q2 q3 q4 fun c r'' e => ?_
      cases e
      have : (a.1 - z.1) * (a.2 - z.2) - (a.2 - z.2) * (a.1 - z.1) = 0 := by grind
      omega
  refine ⟨by simp, ⟨fun q hq => ?_, q2.app hEp⟩, List.pairwise_cons.mpr ⟨fun x hx => hlt x (q4 x hx), q3⟩, fun x hx => ?_, ⟨p, a :: r, rfl, by simp⟩, ?_⟩
  · rcases List.mem_append.mp hq with hq | hq
    · rcases lx_or a q with hl | hl
      · exact q6 q hq hl
      · cases r with
        | nil =>
          have e1 : (b :: R').getLast? = some a := by rw [← q5]; rfl
          rw [h.bot] at e1
          cases Ps with
          | nil => cases e1
          | cons f Ps' =>
            have : f = a := by simpa using e1
            subst this
            rcases List.mem_cons.mp hq with rfl | hq
            · unfold lxP at hl; omega
            · have := (List.pairwise_cons.mp hps.1).1 q hq
              unfold lxP at hl this; omega
        | cons z r' =>
          have hza : lxP z a := (List.pairwise_cons.mp q3).1 z (by simp)
          exact tr_back hza hap.e hl.e (q2.1 q hq) (by have := q7 z r' rfl; omega)
    · rw [List.mem_singleton.mp hq, tr_end]; omega
  · rcases List.mem_cons.mp hx with rfl | hx
    · simp
    · exact List.mem_append_left _ (q4 x hx)
  · rw [List.getLast?_cons_cons, q5, h.bot]
    cases Ps with
    | nil => cases hb
    | cons f Ps' => rfl
/-- the way through all places, its top first -/
noncomputable def wayR (ps : List Pl) : List Pl := ps.foldl (fun R p => p :: popR p R) []
theorem way_stk {ps : List Pl} (h : ps.Pairwise lxP) (hne : ps ≠ []) : Stk ps (wayR ps) := by
  suffices H : ∀ (qs Ps R : List Pl), Stk Ps R → (Ps ++ qs).Pairwise lxP → Stk (Ps ++ qs) (qs.foldl (fun R p => p :: popR p R) R) by
    cases ps with
    | nil => exact absurd rfl hne
    | cons p r => exact H r [p] [p] (Stk.one p) h
  intro qs
  induction qs with
  | nil => intro Ps R h _; rw [List.append_nil]; exact h
  | cons q qs ih =>
    intro Ps R h hs
    have e : Ps ++ q :: qs = (Ps ++ [q]) ++ qs := by simp
    rw [e] at hs ⊢
    exact ih (Ps ++ [q]) _ (h.push (List.pairwise_append.mp hs).1) hs
end Cv

namespace Cv
open PySem PySem.Spec PyProof.Rows L2
/-! ### list.sort of pairs of whole numbers, none twice -/
/-- refs to pairs of whole numbers -/
noncomputable def PrsAt (h : Heap) (vs : List Value) (pl : List Pl) : Prop := vs.length = pl.length ∧ ∀ (i : Nat) (v : Value) (p : Pl), vs[i]? = some v → pl[i]? = some p →
  ∃ (t : Addr) (o : Obj) (t1 t2 : Tok) (n : Nat), v = .ref t ∧ h.get? t = some o ∧ o.cls = .type "tuple" ∧ o.data = .seq #[.int p.1 t1, .int p.2 t2] n
noncomputable instance lxDec (a b : Pl) : Decidable (lxP a b) := inferInstanceAs (Decidable (a.1 < b.1 ∨ (a.1 = b.1 ∧ a.2 < b.2)))
section
variable {prog : Program} {w : World} {A : Around} {E : Value → Shared → Prop} {s : Shared}
theorem ask_pairs {vs : List Value} {pl : List Pl} (h : PrsAt s.heap vs pl) {i j : Nat} (hi : i < pl.length) (hj : j < pl.length) {C : Bool → Shared → Prop}
    (q : C (decide (lxP (pl.getD i (0, 0)) (pl.getD j (0, 0)))) s) : PySem.W.kas_ask prog w A (tuples' true) vs i j C s := by
  unfold PySem.W.kas_ask
  have ei : pl[i]? = some (pl[i]'hi) := List.getElem?_eq_getElem _
  have ej : pl[j]? = some (pl[j]'hj) := List.getElem?_eq_getElem _
  have vi : vs[i]? = some (vs[i]'(by rw [h.1]; exact hi)) := List.getElem?_eq_getElem _
  have vj : vs[j]? = some (vs[j]'(by rw [h.1]; exact hj)) := List.getElem?_eq_getElem _
  obtain ⟨a, oa, t1, t2, n1, ea, ha, ca, da⟩ := h.2 i _ _ vi ei
  obtain ⟨b, ob, u1, u2, n2, eb, hb, cb, db⟩ := h.2 j _ _ vj ej
  have e1 : vs.getD i .none = .ref a := by rw [List.getD_eq_getElem?_getD, vi, ea]; rfl
  have e2 : vs.getD j .none = .ref b := by rw [List.getD_eq_getElem?_getD, vj, eb]; rfl
  have e3 : pl.getD i (0, 0) = pl[i]'hi := by rw [List.getD_eq_getElem?_getD, ei]; rfl
  have e4 : pl.getD j (0, 0) = pl[j]'hj := by rw [List.getD_eq_getElem?_getD, ej]; rfl
  rw [e1, e2]
  rw [e3, e4] at q
  generalize pl[i]'hi = p at *
  generalize pl[j]'hj = r at *
  refine PySem.W.kat_lt ha da hb db ?_
  refine PySem.W.kat_cons (wpAny_eqBool_int ?_)
  refine PySem.W.kat_go (fun e => PySem.W.kat_yes ?_) (fun e => PySem.W.kat_no ?_)
  · have e' : p.1 = r.1 := by simpa using e
    refine PySem.W.kat_cons (wpAny_eqBool_int ?_)
    refine PySem.W.kat_go (fun f => PySem.W.kat_yes (PySem.W.kat_nil ?_)) (fun f => PySem.W.kat_no ?_)
    · have f' : p.2 = r.2 := by simpa using f
      have : decide (lxP p r) = false := decide_eq_false (by unfold lxP; omega)
      rw [this] at q
      simpa using q
    · have f' : p.2 ≠ r.2 := by simpa using f
      have : decide (lxP p r) = decide (p.2 < r.2) := decide_eq_decide.mpr (by unfold lxP; omega)
      rw [this] at q
      exact PySem.W.kat_one _ _ (lt_int q)
  · have e' : p.1 ≠ r.1 := by simpa using e
    have : decide (lxP p r) = decide (p.1 < r.1) := decide_eq_decide.mpr (by unfold lxP; omega)
    rw [this] at q
    exact oneLt_int q
theorem prs_keep {h h' : Heap} {vs : List Value} {pl : List Pl} (H : PrsAt h vs pl) {a : Addr} (k : ∀ b o, b ≠ a → h.get? b = some o → h'.get? b = some o) (ha : ∀ v ∈ vs, v ≠ .ref a) : PrsAt h' vs pl :=
  ⟨H.1, fun i v p e1 e2 => by
    obtain ⟨t, o, t1, t2, n, ev, ht, ct, dt⟩ := H.2 i v p e1 e2
    exact ⟨t, o, t1, t2, n, ev, k t o (fun z => ha v (List.mem_of_getElem? e1) (by rw [ev, z])) ht, ct, dt⟩⟩
theorem kat_tups {h : Heap} : ∀ {vs : List Value} {pl : List Pl}, PrsAt h vs pl → ∃ fs, PySem.W.KatTups h vs fs ∧ fs.length = vs.length ∧ ∀ f ∈ fs, ∃ i t, f = .int i t
  | [], [], _ => ⟨[], PySem.W.KatTups.nil, rfl, fun f h => nomatch h⟩
  | [], _ :: _, H => absurd H.1 (by simp)
  | _ :: _, [], H => absurd H.1 (by simp)
  | v :: vs, p :: pl, H => by
    obtain ⟨t, o, t1, t2, n, rfl, ht, ct, dt⟩ := H.2 0 v p rfl rfl
    obtain ⟨fs, h1, h2, h3⟩ := kat_tups (h := h) (vs := vs) (pl := pl) ⟨by simpa using H.1, fun i v p e1 e2 => H.2 (i + 1) v p e1 e2⟩
    refine ⟨.int p.1 t1 :: fs, PySem.W.KatTups.cons ht ct dt rfl h1, by simp [h2], fun f hf => ?_⟩
    rcases List.mem_cons.mp hf with rfl | hf
    · exact ⟨_, _, rfl⟩
    · exact h3 f hf
theorem list_sort_pairs {a : Addr} {vs : List Value} {pl : List Pl} {n0 : Nat} {P : PySem.Fin → Shared → Prop} (hS : s.heap.get? a = some (seqObj "list" vs.toArray n0)) (hv : PrsAt s.heap vs pl) (hnd : pl.Nodup) (h2 : 2 ≤ pl.length) (h64 : pl.length < 64)
    (hQ : ∀ (h' : Heap) (out : List Value) (qs : List Pl) (c : Nat), (∀ b o, b ≠ a → s.heap.get? b = some o → h'.get? b = some o) → h'.get? a = some (seqObj "list" out.toArray c) → PrsAt h' out qs → qs.Perm pl → qs.Pairwise lxP → (∀ (i : Nat) v, out[i]? = some v → ∃ j, vs[j]? = some v ∧ qs[i]? = pl[j]? ∧ j < pl.length) → P (Fin.done (Flow.ret .none)) { s with heap := h' }) :
    wpAny (model prog w) A (Builtin.«list.sort» ⟨[.ref a], []⟩) P E s := by
  have hl : vs.length = pl.length := hv.1
  have hva : ∀ v ∈ vs, v ≠ .ref a := fun v hm e => by
    obtain ⟨i, hi, ei⟩ := List.getElem_of_mem hm
    obtain ⟨t, o, t1, t2, n, ev, ht, ct, dt⟩ := hv.2 i v (pl[i]'(by omega)) (by rw [List.getElem?_eq_getElem hi, ei]) (List.getElem?_eq_getElem _)
    rw [e] at ev
    cases ev
    rw [hS] at ht
    cases ht
    exact absurd (show Value.type "list" = Value.type "tuple" from ct) (by decide)
  rw [list_sort_plain]
  refine wpAny_bind ?_
  unfold Builtin.List.listItems
  refine wpAny_bind (wpAny_seqItems hS rfl (wpAny_pure ?_))
  refine wpAny_bind ?_
  show wpAny _ _ (updateSeq a (fun _ => #[])) _ _ _
  refine wpAny_updateSeq hS rfl ?_ (by simp; exact Nat.le_of_lt (small_line (by omega))) (by simp)
  have hS1 := Heap.get?_update_self (Obj.mapSeq (fun _ => (#[] : Array Value))) hS rfl
  have k1 : ∀ b o, b ≠ a → s.heap.get? b = some o → (s.heap.update a (Obj.mapSeq (fun _ => (#[] : Array Value)))).get? b = some o := fun b o hb e => (Heap.get?_update_other _ _ (Ne.symm hb)).trans e
  generalize hH1 : s.heap.update a (Obj.mapSeq (fun _ => (#[] : Array Value))) = H1 at *
  refine wpAny_bind ?_
  unfold seqEpoch
  refine wpAny_bind (wpAny_load hS1 ?_)
  refine wpAny_pure ?_
  refine wpAny_bind (wpAny_newTuple ?_ (by simp; exact Nat.le_of_lt (small_line (by omega))))
  refine wpAny_bind (wpAny_newList ?_)
  refine wpAny_holding ?_
  dsimp only
  have hlt : ¬ vs.toArray.size < 2 := by simp; omega
  rw [if_neg hlt, if_neg hlt]
  have hS2 : ((H1.push { cls := .type "tuple", data := .seq vs.toArray.toList.toArray }).push { cls := .type "list", data := .seq #[] }).get? a = some (Obj.mapSeq (fun _ => (#[] : Array Value)) (seqObj "list" vs.toArray n0)) := Heap.get?_push_of_some _ (Heap.get?_push_of_some _ hS1)
  have k2 : ∀ b o, b ≠ a → s.heap.get? b = some o → ((H1.push { cls := .type "tuple", data := .seq vs.toArray.toList.toArray }).push { cls := .type "list", data := .seq #[] }).get? b = some o := fun b o hb e => Heap.get?_push_of_some _ (Heap.get?_push_of_some _ (k1 b o hb e))
  generalize ((H1.push { cls := .type "tuple", data := .seq vs.toArray.toList.toArray }).push { cls := .type "list", data := .seq #[] }) = H2 at *
  have hv2 : PrsAt H2 vs pl := prs_keep hv k2 hva
  obtain ⟨fs, f1, f2, f3⟩ := kat_tups hv2
  refine wpAny_bind (PySem.W.kat_kind (s := { s with heap := H2 }) (T := .type "int") f1 (by omega) (fun v hm => ?_) rfl ?_)
  · obtain ⟨i, t, rfl⟩ := f3 v hm
    exact fun A Q E s _ q => wpAny_pure q
  have O : Ord pl.length (fun i j => decide (lxP (pl.getD i (0, 0)) (pl.getD j (0, 0)))) := by
    refine ⟨fun i j hi hj hne => ?_, fun i j k hi hj hk a b => ?_, fun i hi => ?_⟩
    · have : pl.getD i (0, 0) ≠ pl.getD j (0, 0) := by
        rw [List.getD_eq_getElem?_getD, List.getD_eq_getElem?_getD, List.getElem?_eq_getElem hi, List.getElem?_eq_getElem hj]
        exact fun e => hne ((List.getElem_inj hnd).mp e)
      rw [decide_eq_true_iff, decide_eq_true_iff]
      generalize pl.getD i (0, 0) = x at *
      generalize pl.getD j (0, 0) = y at *
      unfold lxP
      by_cases e1 : x.1 = y.1
      · by_cases e2 : x.2 = y.2
        · exact absurd (Prod.ext e1 e2) this
        · omega
      · omega
    · rw [decide_eq_true_iff] at *
      exact lxP.trans a b
    · exact decide_eq_false (by unfold lxP; omega)
  refine wpAny_bind (wpAny_mono (PySem.W.kat_run (s := { s with heap := H2 }) (ks := vs) (vs := vs) (Q := fun st' s' => s' = { s with heap := H2 } ∧ ∃ p, Pm pl.length p ∧ Srt (fun i j => decide (lxP (pl.getD i (0, 0)) (pl.getD j (0, 0)))) p pl.length ∧ arrOf st' = Array.map (PySem.W.kas_item (vs.toArray.zip vs.toArray)) p ∧ failedOf st' = none)
    (G := fun p s' => s' = { s with heap := H2 } ∧ Pm pl.length p ∧ Srt (fun i j => decide (lxP (pl.getD i (0, 0)) (pl.getD j (0, 0)))) p pl.length) rfl (by omega) (by omega) (fun p st' s' _ ha hf hg => ⟨hg.1, p, hg.2.1, hg.2.2, ha, hf⟩) ?_) (fun r s' hr => ?_) (fun _ _ x => x))
  · rw [hl]
    exact wp_sort O h2 (fun i j C hi hj q => ask_pairs hv2 hi hj q) _ fun p hp hs => ⟨rfl, hp, hs⟩
  obtain ⟨⟨⟩, st⟩ := r
  obtain ⟨rfl, p, hp, hs, ha, hf⟩ := hr
  dsimp only at ha hf ⊢
  refine wpAny_bind (wpAny_bind (wpAny_load hS2 ?_))
  refine wpAny_pure ?_
  have hsz : (arrOf st).size = pl.length := by rw [ha, Array.size_map, hp.sz]
  refine wpAny_bind ?_
  show wpAny _ _ (updateSeq a (fun _ => Array.map (fun x => x.snd) (arrOf st))) _ _ _
  refine wpAny_updateSeq hS2 rfl ?_ (by simp) (by rw [Array.size_map, hsz]; exact Nat.le_succ_of_le (Nat.le_of_lt (small_line (by omega))))
  have hS3 := Heap.get?_update_self (Obj.mapSeq (fun _ => Array.map (fun x => x.snd) (arrOf st))) hS2 rfl
  have k3 : ∀ b o, b ≠ a → s.heap.get? b = some o → (H2.update a (Obj.mapSeq (fun _ => Array.map (fun x => x.snd) (arrOf st)))).get? b = some o := fun b o hb e => (Heap.get?_update_other _ _ (Ne.symm hb)).trans (k2 b o hb e)
  have eo : Array.map (fun x => x.snd) (arrOf st) = (p.toList.map fun i => vs.getD i .none).toArray := by
    rw [ha]
    refine Array.ext' ?_
    rw [Array.toList_map, Array.toList_map, List.map_map]
    refine List.map_congr_left fun i _ => ?_
    show (PySem.W.kas_item (pairsOf vs) i).snd = _
    rw [PySem.W.kas_item_eq]
  rw [eo] at hS3 k3 ⊢
  generalize H2.update a (Obj.mapSeq (fun _ => (p.toList.map fun i => vs.getD i .none).toArray)) = H3 at *
  rw [hf]
  dsimp only
  rw [if_neg (by simp)]
  have hv3 : PrsAt H3 vs pl := prs_keep hv k3 hva
  refine wpAny_pure (hQ H3 (p.toList.map fun i => vs.getD i .none) (p.toList.map fun i => pl.getD i (0, 0)) _ k3 hS3 ⟨by simp, fun i v q e1 e2 => ?_⟩ ?_ ?_ fun i v e1 => ?_)
  · rw [List.getElem?_map] at e1 e2
    obtain ⟨x, ex, rfl⟩ := Option.map_eq_some_iff.mp e1
    rw [ex] at e2
    cases e2
    have hx : x < pl.length := List.mem_range.mp (hp.pm.mem_iff.mp (List.mem_of_getElem? ex))
    refine hv3.2 x _ _ ?_ ?_
    · rw [List.getD_eq_getElem?_getD, List.getElem?_eq_getElem (show x < vs.length by omega)]; rfl
    · show pl[x]? = some (pl.getD x (0, 0))
      rw [List.getD_eq_getElem?_getD, List.getElem?_eq_getElem hx]; rfl
  · refine (hp.pm.map _).trans (List.Perm.of_eq ?_)
    refine List.ext_getElem? fun i => ?_
    rw [List.getElem?_map]
    by_cases hi : i < pl.length
    · rw [List.getElem?_range hi, List.getElem?_eq_getElem hi]
      show some (pl.getD i (0, 0)) = _
      rw [List.getD_eq_getElem?_getD, List.getElem?_eq_getElem hi]; rfl
    · rw [List.getElem?_eq_none (by simp; omega), List.getElem?_eq_none (by omega)]; rfl
  · rw [List.pairwise_iff_getElem]
    intro i j hi hj hij
    rw [List.length_map] at hi hj
    have hpl : p.toList.length = pl.length := by rw [Array.length_toList, hp.sz]
    have := hs i j hij (by omega)
    rw [decide_eq_true_iff] at this
    rw [List.getElem_map, List.getElem_map]
    have g : ∀ (k : Nat) (hk : k < p.toList.length), gp p k = p.toList[k]'hk := fun k hk => by
      rw [gp_eq, ← Array.getElem?_toList, List.getElem?_eq_getElem hk]; rfl
    rw [g i hi, g j hj] at this
    exact this
  · rw [List.getElem?_map] at e1
    obtain ⟨x, ex, rfl⟩ := Option.map_eq_some_iff.mp e1
    have hx : x < pl.length := List.mem_range.mp (hp.pm.mem_iff.mp (List.mem_of_getElem? ex))
    refine ⟨x, ?_, ?_, hx⟩
    · show vs[x]? = some (vs.getD x .none)
      rw [List.getD_eq_getElem?_getD, List.getElem?_eq_getElem (show x < vs.length by omega)]; rfl
    · rw [List.getElem?_map, ex]
      show some (pl.getD x (0, 0)) = _
      rw [List.getD_eq_getElem?_getD, List.getElem?_eq_getElem hx]; rfl
end
end Cv

namespace Cv
open PySem PySem.Spec PyProof.Rows L2
/-! ### a dict with any keys, walked: own rules over the model -/
noncomputable def KeysAt (h : Heap) (d : Addr) (ks : List Value) (ep : Nat) : Prop :=
  ∃ o es, h.get? d = some o ∧ o.ExactDict ∧ o.data = .dict es ep ∧ es.toList.map (·.key) = ks
theorem KeysAt.at' {h h' : Heap} {d ks ep} (x : KeysAt h d ks ep) (e : ∀ o, h.get? d = some o → h'.get? d = some o) : KeysAt h' d ks ep := by
  obtain ⟨o, es, h1, h2⟩ := x
  exact ⟨o, es, e o h1, h2⟩
theorem KeysAt.lt {h : Heap} {d ks ep} (x : KeysAt h d ks ep) : d < h.objs.size := by
  obtain ⟨o, es, h1, _⟩ := x
  exact Heap.lt_size h1
theorem KeysAt.typeIs {s : Shared} {d ks ep} (x : KeysAt s.heap d ks ep) : s.TypeIs (.ref d) "dict" := by
  obtain ⟨o, es, h1, h2, _⟩ := x
  exact ⟨o, h1, h2.1⟩
theorem kd_entry : entryFor table "dict.__iter__" = some Builtin.«dict.__iter__» := entryFor_of_tree (by kernel_rfl)
theorem kd_next : entryFor table "dict_keyiterator.__next__" = some Builtin.«dict_keyiterator.__next__» := entryFor_of_tree (by kernel_rfl)
section
variable {prog : Program} {w : World} {A : Around} {E : Value → Shared → Prop} {s : Shared}
theorem iter_keys {d : Addr} {ks : List Value} {ep : Nat} {Q : Value → Shared → Prop} (hd : (d == sysModules) = false) (hm : KeysAt s.heap d ks ep)
    (hQ : Q (.ref s.heap.objs.size) { s with heap := s.heap.push { cls := .type "dict_keyiterator", data := .fields #[.ref d, .int 0 0, .int ks.length 0, .int ep 0] } }) :
    wpAny (model prog w) A (pyIter (.ref d)) Q E s := by
  have hT := hm.typeIs
  obtain ⟨⟨c, dd, dt, sl⟩, es, ho, ⟨rfl, rfl, rfl⟩, rfl, hp⟩ := hm
  have hn : es.size = ks.length := by rw [← hp, List.length_map, Array.length_toList]
  refine wpAny_bind (wpAny_specialOf hT F.slot_dict_iter.lookup ?_)
  refine wpAny_bind (wpAny_callSpecialIfBoundUnlessNone?_slot hT F.slot_dict_iter (wpAny_call_entry F.slot_dict_iter hT kd_entry ?_ (F.args_dict_iter_1 _)))
  have hN : ∀ t', ({ s with heap := s.heap.push { cls := .type "dict_keyiterator", data := .fields #[.ref d, .int 0 0, .int ks.length 0, .int ep 0] }, toks := t' } : Shared).TypeIs (.ref s.heap.objs.size) "dict_keyiterator" := fun _ => ⟨_, Heap.get?_push_size _ rfl, rfl⟩
  have l2 := F.slot_dict_keyiterator_next.lookup
  repeat (any_goals (first | assumption | wp_step))
  refine ⟨_, rfl, ?_⟩
  rw [show (rawInt ((es.size : Nat) : Int)) = .int ks.length 0 by rw [hn]; rfl]
  exact wpAny_bind (wpAny_specialOf (hN _) l2 (wpAny_pure hQ))
theorem next_keys {it d : Addr} {i ep : Nat} {ks : List Value} {k : Value} {Q : Option Value → Shared → Prop} (hit : s.heap.IsKeyIter it d i ks.length ep)
    (hm : KeysAt s.heap d ks ep) (hx : ks[i]? = some k)
    (hQ : ∀ h', h'.IsKeyIter it d (i + 1) ks.length ep → Heap.SameBut it s.heap h' → Q (some k) { s with heap := h' }) :
    wpAny (model prog w) A (pyNext (.ref it)) Q E s := by
  obtain ⟨⟨c, dd, dt, sl⟩, ho, hc, hf⟩ := hit
  dsimp only at hc hf
  subst hc hf
  have hT : s.TypeIs (.ref it) "dict_keyiterator" := ⟨_, ho, rfl⟩
  obtain ⟨⟨c', dd', dt', sl'⟩, es, hod, ⟨rfl, rfl, rfl⟩, rfl, hp⟩ := hm
  have hn : es.size = ks.length := by rw [← hp, List.length_map, Array.length_toList]
  refine wpAny_bind (wpAny_attempt (wpAny_callSpecial?_slot hT F.slot_dict_keyiterator_next (wpAny_call_entry F.slot_dict_keyiterator_next hT kd_next ?_ (F.args_dict_keyiterator_next_1 _))))
  have hik : i < es.size := by rw [hn]; exact (List.getElem?_eq_some_iff.mp hx).1
  have hek : es[i].key = k := by
    have h1 : (es.toList.map (·.key))[i]? = some es[i].key := by rw [List.getElem?_map, Array.getElem?_toList, Array.getElem?_eq_getElem hik]; rfl
    rw [hp, hx] at h1
    exact (Option.some.inj h1).symm
  repeat (any_goals (first | assumption | wp_step))
  rw [if_neg (by omega), Int.toNat_natCast, Array.getElem?_eq_getElem hik]
  dsimp only
  repeat (any_goals (first | assumption | refine wpAny_typeNameOfWhole_keyiter hT ?_ | refine wpAny_isOneOf_keyiter hT ?_ | wp_step))
  rw [hek]
  refine ⟨_, rfl, wpAny_pure (hQ _ ⟨_, Heap.get?_update_self _ ho rfl, rfl, ?_⟩ ⟨Heap.size_after_update _ _ _, fun b hb => Heap.get?_update_other _ _ (Ne.symm hb)⟩)⟩
  kernel_rfl
theorem end_keys {it d : Addr} {i ep : Nat} {ks : List Value} {Q : Option Value → Shared → Prop} (hh : A.handled = none) (hit : s.heap.IsKeyIter it d i ks.length ep)
    (hm : KeysAt s.heap d ks ep) (hx : ks[i]? = none)
    (hQ : ∀ h', Heap.ExtBut it s.heap h' → Q none { s with heap := h' }) : wpAny (model prog w) A (pyNext (.ref it)) Q E s := by
  obtain ⟨⟨c, dd, dt, sl⟩, ho, hc, hf⟩ := hit
  dsimp only at hc hf
  subst hc hf
  have hT : s.TypeIs (.ref it) "dict_keyiterator" := ⟨_, ho, rfl⟩
  obtain ⟨⟨c', dd', dt', sl'⟩, es, hod, ⟨rfl, rfl, rfl⟩, rfl, hp⟩ := hm
  have hn : es.size = ks.length := by rw [← hp, List.length_map, Array.length_toList]
  have hik : es.size ≤ i := by rw [hn]; exact List.getElem?_eq_none_iff.mp hx
  refine wpAny_bind (wpAny_attempt (wpAny_callSpecial?_slot hT F.slot_dict_keyiterator_next (wpAny_call_entry F.slot_dict_keyiterator_next hT kd_next ?_ (F.args_dict_keyiterator_next_1 _))))
  repeat (any_goals (first | assumption | wp_step))
  rw [if_neg (by omega), Int.toNat_natCast, Array.getElem?_eq_none hik]
  dsimp only
  repeat (any_goals (first | assumption | refine wpAny_typeNameOfWhole_keyiter hT ?_ | refine wpAny_isOneOf_keyiter hT ?_ | wp_step))
  generalize hu : s.heap.update it _ = H1
  have k1 : ∀ b o, b ≠ it → s.heap.get? b = some o → H1.get? b = some o := fun b o hb e => by rw [← hu]; exact (Heap.get?_update_other _ _ (Ne.symm hb)).trans e
  generalize ho2 : ({ cls := Value.type "StopIteration", data := _ } : Obj) = oe
  have hoe : oe.cls = .type "StopIteration" := by rw [← ho2]
  have hfr : oe.isFreed = false := by rw [← ho2]; rfl
  have k2 : ∀ b o, b ≠ it → s.heap.get? b = some o → ((H1.push { cls := Value.type "tuple", data := Data.seq #[] }).push oe).get? b = some o := fun b o hb e => Heap.get?_push_of_some _ (Heap.get?_push_of_some _ (k1 b o hb e))
  unfold raiseNew
  refine wpAny_bind (wpAny_handled ?_)
  rw [show (A.in1).handled = none from hh]
  refine wpAny_bind (wpAny_pure (wpAny_throw ?_))
  refine wpAny_bind (wpAny_isInstance (T := "StopIteration") (b := true) ⟨oe, Heap.get?_push_size _ hfr, hoe⟩ (by rw [isSubtype_type]; kernel_rfl) ?_)
  exact wpAny_pure (hQ _ k2)
end
end Cv

namespace Cv
open PySem PySem.Spec PyProof.Rows L2
/-! ### the keys of any dict, walked; sorted of a dict of pairs -/
section
variable {prog : Program} {w : World} {A : Around} {E : Value → Shared → Prop} {s : Shared}
theorem walks_keys (hh : A.handled = none) (I d : Addr) (hne : d ≠ I) (ks : List Value) (ep : Nat) :
    Walks prog w A I [I, d] [I] ks.length (fun i v => ks[i]? = some v) (fun i h => h.IsKeyIter I d i ks.length ep ∧ KeysAt h d ks ep) where
  sub := fun b hb => by simp at hb; simp [hb]
  frame := fun _ _ _ st hk => ⟨st.1.at fun o e => hk I (by simp) o e, st.2.at' fun o e => hk d (by simp) o e⟩
  item := fun i s Q E hi st hQ => by
    have hx : ks[i]? = some ks[i] := by simp [hi]
    refine next_keys st.1 st.2 hx fun h' hit' hs' => ?_
    exact hQ _ h' s.toks hx ⟨hit', st.2.at' fun o e => hs'.extBut d o hne e⟩ fun b o hb e => hs'.extBut b o (fun h => hb (by simp [h])) e
  done := fun s Q E st hQ => end_keys hh st.1 st.2 (by simp) fun h' he' => hQ h' s.toks fun b o hb e => he' b o (fun h => hb (by simp [h])) e
  self := fun _ _ _ _ st hQ => wpAny_pyIter_keyiter st.1 hQ
theorem src_keys {d : Addr} {ks : List Value} {ep : Nat} (lo : (d == sysModules) = false) : PySem.W.KdlSrc prog w "dict" d d ks.length (fun i v => ks[i]? = some v) (fun h => KeysAt h d ks ep) where
  type := fun _ hm => hm.typeIs
  there := fun _ hm => ⟨hm.lt, hm.lt⟩
  keep := fun _ _ hm hk => hm.at' fun o e => hk d (.inl rfl) o e
  notList := by decide
  notTuple := by decide
  hint := fun _ _ _ _ hm hq => PySem.W.kdl_hint_dict hm.typeIs hq
  iter := fun _ _ hh hm => ⟨_, _, (fun _ _ hq => iter_keys lo hm hq), walks_keys hh _ d (Nat.ne_of_lt hm.lt) ks ep, ⟨⟨_, Heap.get?_push_size _ rfl, rfl, rfl⟩, hm.at' fun o e => Heap.get?_push_of_some _ e⟩⟩
theorem list_sort_short {a : Addr} {vs : List Value} {n0 : Nat} {P : PySem.Fin → Shared → Prop} (hS : s.heap.get? a = some (seqObj "list" vs.toArray n0)) (h2 : vs.length < 2)
    (hQ : ∀ (h' : Heap) (c : Nat), (∀ b o, b ≠ a → s.heap.get? b = some o → h'.get? b = some o) → h'.get? a = some (seqObj "list" vs.toArray c) → P (Fin.done (Flow.ret .none)) { s with heap := h' }) :
    wpAny (model prog w) A (Builtin.«list.sort» ⟨[.ref a], []⟩) P E s := by
  rw [list_sort_plain]
  refine wpAny_bind ?_
  unfold Builtin.List.listItems
  refine wpAny_bind (wpAny_seqItems hS rfl (wpAny_pure ?_))
  refine wpAny_bind ?_
  show wpAny _ _ (updateSeq a (fun _ => #[])) _ _ _
  refine wpAny_updateSeq hS rfl ?_ (by simp; exact Nat.le_of_lt (small_line (by omega))) (by simp)
  have hS1 := Heap.get?_update_self (Obj.mapSeq (fun _ => (#[] : Array Value))) hS rfl
  have k1 : ∀ b o, b ≠ a → s.heap.get? b = some o → (s.heap.update a (Obj.mapSeq (fun _ => (#[] : Array Value)))).get? b = some o := fun b o hb e => (Heap.get?_update_other _ _ (Ne.symm hb)).trans e
  generalize s.heap.update a (Obj.mapSeq (fun _ => (#[] : Array Value))) = H1 at *
  refine wpAny_bind ?_
  unfold seqEpoch
  refine wpAny_bind (wpAny_load hS1 ?_)
  refine wpAny_pure ?_
  refine wpAny_bind (wpAny_newTuple ?_ (by simp; exact Nat.le_of_lt (small_line (by omega))))
  refine wpAny_bind (wpAny_newList ?_)
  refine wpAny_holding ?_
  dsimp only
  have hlt : vs.toArray.size < 2 := by simp; omega
  rw [if_pos hlt, if_pos hlt]
  have hS2 : ((H1.push { cls := .type "tuple", data := .seq vs.toArray.toList.toArray }).push { cls := .type "list", data := .seq #[] }).get? a = some (Obj.mapSeq (fun _ => (#[] : Array Value)) (seqObj "list" vs.toArray n0)) := Heap.get?_push_of_some _ (Heap.get?_push_of_some _ hS1)
  have k2 : ∀ b o, b ≠ a → s.heap.get? b = some o → ((H1.push { cls := .type "tuple", data := .seq vs.toArray.toList.toArray }).push { cls := .type "list", data := .seq #[] }).get? b = some o := fun b o hb e => Heap.get?_push_of_some _ (Heap.get?_push_of_some _ (k1 b o hb e))
  generalize ((H1.push { cls := .type "tuple", data := .seq vs.toArray.toList.toArray }).push { cls := .type "list", data := .seq #[] }) = H2 at *
  refine wpAny_bind (wpAny_pure ?_)
  refine wpAny_bind (wpAny_pure ?_)
  dsimp only
  refine wpAny_bind (wpAny_bind (wpAny_load hS2 ?_))
  refine wpAny_pure ?_
  have eo : Array.map (fun x => x.snd) (arrOf (SortSt.mk' general' (vs.toArray.zip vs.toArray) #[] 7 none)) = vs.toArray := by
    show Array.map (fun x => x.snd) (vs.toArray.zip vs.toArray) = _
    refine Array.ext' ?_
    rw [Array.toList_map, Array.toList_zip, List.map_snd_zip (Nat.le_refl _)]
  refine wpAny_bind ?_
  show wpAny _ _ (updateSeq a (fun _ => Array.map (fun x => x.snd) (arrOf (SortSt.mk' general' (vs.toArray.zip vs.toArray) #[] 7 none)))) _ _ _
  rw [eo]
  refine wpAny_updateSeq hS2 rfl ?_ (by simp) (by simp; exact Nat.le_succ_of_le (Nat.le_of_lt (small_line (by omega))))
  have hS3 := Heap.get?_update_self (Obj.mapSeq (fun _ => vs.toArray)) hS2 rfl
  have k3 : ∀ b o, b ≠ a → s.heap.get? b = some o → (H2.update a (Obj.mapSeq (fun _ => vs.toArray))).get? b = some o := fun b o hb e => (Heap.get?_update_other _ _ (Ne.symm hb)).trans (k2 b o hb e)
  generalize H2.update a (Obj.mapSeq (fun _ => vs.toArray)) = H3 at *
  show wpAny _ _ (if _ then _ else _) _ _ _
  rw [if_neg (by simp)]
  exact wpAny_pure (hQ H3 _ k3 hS3)
/-- sorted(d), the keys of d pairs of whole numbers -/
theorem sorted_pairs {d : Addr} {ks : List Value} {pl : List Pl} {ep : Nat} {Q : Value → Shared → Prop} (hh : A.handled = none) (hd : (d == sysModules) = false) (D : KeysAt s.heap d ks ep) (hv : PrsAt s.heap ks pl) (hnd : pl.Nodup) (h64 : pl.length < 64)
    (hQ : ∀ (hA h' : Heap) (tk : Nat) (out : List Value) (qs : List Pl) (n : Nat), (∀ b o, s.heap.get? b = some o → hA.get? b = some o) → (∀ b o, hA.get? b = some o → h'.get? b = some o) → h'.get? hA.objs.size = some (seqObj "list" out.toArray n) → PrsAt h' out qs → qs.Perm pl → qs.Pairwise lxP → (∀ (i : Nat) v, out[i]? = some v → ∃ j, ks[j]? = some v ∧ qs[i]? = pl[j]? ∧ j < pl.length) →
      Q (.ref hA.objs.size) { s with heap := h', toks := tk }) : wpAny (model prog w) A (call (.builtin "sorted") [.ref d]) Q E s := by
  refine wpAny_call (codeAny_call_builtin plain_sorted entry_sorted ?_)
  have hz := args_sorted1 (.ref d)
  have hc : checkBuiltinCall "sorted" ⟨[.ref d], []⟩ = pure () := by
    simp only [checkBuiltinCall, kind_sorted]
    unfold argsOk at hz
    revert hz
    generalize Manifest.signature? "sorted" = sg
    intro hz
    cases sg with
    | none => rfl
    | some sig => exact hz
  refine wpAny_of_eq hc ?_
  unfold Builtin.sorted
  refine wpAny_bind (wpAny_pure ?_)
  have hl : ks.length = pl.length := hv.1
  refine wpAny_bind (PySem.W.kdu_collect (src_keys hd) hh D (Nat.le_of_lt (small_line (by omega))) fun hA tk acc kA hi => ?_)
  have ea : acc.toList = ks := by
    refine List.ext_getElem? fun i => ?_
    cases e : acc.toList[i]? with
    | none =>
      have := List.getElem?_eq_none_iff.mp e
      rw [Array.length_toList, hi.1] at this
      exact (List.getElem?_eq_none_iff.mpr this).symm
    | some v => exact (hi.2 i v (by rw [← Array.getElem?_toList]; exact e)).symm
  rw [ea]
  refine wpAny_bind (wpAny_newList ?_ (Nat.le_of_lt (small_line (by omega))))
  refine wpAny_bind (wpAny_holding ?_)
  have hS : (hA.push { cls := .type "list", data := .seq ks.toArray }).get? hA.objs.size = some (seqObj "list" ks.toArray 0) := Heap.get?_push_size _ rfl
  have k1 : ∀ b o, s.heap.get? b = some o → (hA.push { cls := .type "list", data := .seq ks.toArray }).get? b = some o := fun b o e => Heap.get?_push_of_some _ (kA b o e)
  have hv1 : PrsAt (hA.push { cls := .type "list", data := .seq ks.toArray }) ks pl := ⟨hv.1, fun i v p e1 e2 => by
    obtain ⟨t, o, t1, t2, n, ev, ht, ct, dt⟩ := hv.2 i v p e1 e2
    exact ⟨t, o, t1, t2, n, ev, k1 t o ht, ct, dt⟩⟩
  by_cases h2 : 2 ≤ pl.length
  · refine wpAny_call_entry slot_list_sort ⟨_, hS, rfl⟩ entry_list_sort (list_sort_pairs hS hv1 hnd h2 h64 fun h' out qs c k2 e1 e2 e3 e4 e5 => ⟨_, rfl, ?_⟩) (args_list_sort _)
    refine wpAny_pure ?_
    exact hQ hA h' tk out qs c kA (fun b o e => k2 b o (Nat.ne_of_lt (Heap.lt_size e)) (Heap.get?_push_of_some _ e)) e1 e2 e3 e4 e5
  · refine wpAny_call_entry slot_list_sort ⟨_, hS, rfl⟩ entry_list_sort (list_sort_short hS (by omega) fun h' c k2 e1 => ⟨_, rfl, ?_⟩) (args_list_sort _)
    refine wpAny_pure ?_
    refine hQ hA h' tk ks pl c kA (fun b o e => k2 b o (Nat.ne_of_lt (Heap.lt_size e)) (Heap.get?_push_of_some _ e)) e1 (prs_keep hv1 k2 fun v hm e => ?_) (List.Perm.refl _) ?_ fun i v e => ⟨i, e, rfl, by rw [← hl]; exact (List.getElem?_eq_some_iff.mp e).1⟩
    · obtain ⟨i, hi, ei⟩ := List.getElem_of_mem hm
      obtain ⟨t, o, t1, t2, n, ev, ht, ct, dt⟩ := hv.2 i v (pl[i]'(by omega)) (by rw [List.getElem?_eq_getElem hi, ei]) (List.getElem?_eq_getElem _)
      rw [e] at ev
      cases ev
      exact absurd (Heap.lt_size (kA _ _ ht)) (Nat.lt_irrefl _)
    · rcases pl with _ | ⟨x, _ | ⟨y, r⟩⟩
      · exact .nil
      · exact List.pairwise_singleton _ _
      · simp at h2
end
/-- a pair of whole numbers as a key -/
noncomputable def pk (p : Pl) : List Key := [.inl p.1, .inl p.2]
theorem pk_inj {p q : Pl} (h : pk p = pk q) : p = q := by
  injection h with h1 h2
  injection h2 with h2 _
  injection h1 with h1
  injection h2 with h2
  exact Prod.ext h1 h2
section
variable {X : Cx}
theorem KT.keysAt {H : Hp} : ∀ {kvs : List (List Key × V)} {xs : List (List Key × Addr × Value)}, KT H kvs xs → ∀ {pl : List Pl}, kvs.map (·.1) = pl.map pk → xs.length = pl.length ∧ ∀ (i : Nat) x p, xs[i]? = some x → pl[i]? = some p → x.1 = pk p ∧ H x.2.1 = some (.tup [.int p.1, .int p.2])
  | _, _, .nil, [], _ => ⟨rfl, fun i x p e => by simp at e⟩
  | _, _, .nil, _ :: _, h => by simp at h
  | _, _, .cons _ _, [], h => by simp at h
  | _, _, .cons (a := a) (b := b) h t, q :: pl, e => by
    rw [List.map_cons, List.map_cons] at e
    injection e with e1 e2
    obtain ⟨n, r⟩ := KT.keysAt t e2
    refine ⟨by simp [n], fun i x p h1 h2 => ?_⟩
    cases i with
    | zero =>
      cases h1; cases h2
      exact ⟨h.1.symm.trans e1, by have := h.2.1; rw [e1] at this; exact this⟩
    | succ i => exact r i x p h1 h2
/-- sorted(d), the keys of d pairs of whole numbers -/
theorem call_sortT (hc : X.calm = true := by rfl) : CallR X (.builtin "sorted") (fun xs H Q => ∃ (a : Addr) (kvs : List (List Key × V)) (pl : List Pl), xs = [.ref a] ∧ Rd H a (.dT kvs) ∧ kvs.map (·.1) = pl.map pk ∧ kvs.length < 64 ∧
    ∀ (l : Addr) (us : List V) (qs : List Pl), H l = none → qs.Perm pl → qs.Pairwise lxP → PlsV H us qs → Q (.ref l) (upd H l (.lst us))) := by
  intro pins s σ H xs us Q I rv h
  obtain ⟨a, kvs, pl, rfl, hR, hk, hn, q⟩ := h
  obtain ⟨u, rfl, rfl⟩ := vals_one rv
  obtain ⟨z, hd, ents, rel, o, es, ep, h1, h2, h3, h4, h5, h6⟩ := dt_rd I.hok hR
  obtain ⟨le, hp⟩ := KT.keysAt rel hk
  have hlk : kvs.length = pl.length := by have := congrArg List.length hk; simpa using this
  have D : KeysAt s.heap a (ents.map fun x => .ref x.2.1) ep := ⟨o, es, h1, h2, h3, by rw [h4, List.map_map]; rfl⟩
  have hv : PrsAt s.heap (ents.map fun x => .ref x.2.1) pl := ⟨by simp [le], fun i v p e1 e2 => by
    rw [List.getElem?_map] at e1
    obtain ⟨x, ex, rfl⟩ := Option.map_eq_some_iff.mp e1
    obtain ⟨_, g2⟩ := hp i x p ex e2
    obtain ⟨_, its, r, o, q1, q2, n, q3⟩ := (show ObjOk X.prog X.w H s.heap x.2.1 (.tup [.int p.1, .int p.2]) from I.hok _ _ g2)
    obtain ⟨u1, u2, rfl, ⟨t1, rfl⟩, ⟨t2, rfl⟩⟩ := vals_two r
    exact ⟨x.2.1, o, t1, t2, n, rfl, q1, q2, q3⟩⟩
  have hnd : pl.Nodup := by
    have e : ents.map (·.1) = pl.map pk := by
      refine List.ext_getElem? fun i => ?_
      rw [List.getElem?_map, List.getElem?_map]
      by_cases hi : i < pl.length
      · rw [List.getElem?_eq_getElem hi, List.getElem?_eq_getElem (show i < ents.length by omega)]
        refine congrArg some ?_
        show (ents[i]'(by omega)).1 = _
        rw [(hp i _ _ (List.getElem?_eq_getElem (show i < ents.length by omega)) (List.getElem?_eq_getElem hi)).1]
      · rw [List.getElem?_eq_none (by omega), List.getElem?_eq_none (by omega)]; rfl
    rw [e] at h6
    exact (List.pairwise_map.mp h6).imp fun h e => h (congrArg pk e)
  refine sorted_pairs (I.ok.hd hc) hd D hv hnd (by omega) fun hA h' tk out qs n k1 k2 e1 e2 e3 e4 e5 => ?_
  have I1 : Inv X pins σ H { s with heap := hA, toks := tk } := I.kept k1
  have hl : out.length = pl.length := by rw [e2.1, e3.length_eq]
  have hout : ∀ (i : Nat) v, out[i]? = some v → ∃ b p, v = .ref b ∧ qs[i]? = some p ∧ H b = some (.tup [.int p.1, .int p.2]) := fun i v e => by
    obtain ⟨j, f1, f2, f3⟩ := e5 i v e
    rw [List.getElem?_map] at f1
    obtain ⟨x, ex, rfl⟩ := Option.map_eq_some_iff.mp f1
    exact ⟨x.2.1, pl[j], rfl, by rw [f2, List.getElem?_eq_getElem f3], (hp j x _ ex (List.getElem?_eq_getElem f3)).2⟩
  obtain ⟨vs, hvs1, hvs2⟩ : ∃ vs : List V, Vals vs out ∧ PlsV H vs qs := by
    clear e1 q k2 e3 e4 hl e5
    revert hout
    have := e2.1
    clear e2
    revert this
    induction out generalizing qs with
    | nil => exact fun hl _ => ⟨[], .nil, ⟨by simpa using hl, fun i v p e => by simp at e⟩⟩
    | cons v out ih =>
      intro hl hout
      cases qs with
      | nil => simp at hl
      | cons p qs =>
        obtain ⟨b, p', rfl, g1, g2⟩ := hout 0 v rfl
        cases g1
        obtain ⟨vs, w1, w2⟩ := ih qs (by simpa using hl) fun i v e => hout (i + 1) v e
        refine ⟨.ref b :: vs, .cons rfl w1, ⟨by simp [w2.len], fun i v q e1 e2 => ?_⟩⟩
        cases i with
        | zero => cases e1; cases e2; exact ⟨b, rfl, g2⟩
        | succ i => exact w2.get i v q e1 e2
  refine ⟨.ref hA.objs.size, _, I1.laid (a := hA.objs.size) (o := .lst vs) (t' := tk) k2 (Nat.le_refl _) ⟨by rw [hvs2.len, e3.length_eq, ← hlk]; exact z, out, n, hvs1, e1⟩, rfl, q _ vs qs I1.fresh e3 e4 hvs2⟩
end
end Cv

namespace Cv
open PySem PySem.Spec PyProof.Rows L2
/-! ### dict(zip(a, b)) with pairs as keys -/
theorem entry_zip_ga : entryFor table "zip.__getattribute__" = some Builtin.«object.__getattribute__» :=
  entryFor_alias (id' := "object.__getattribute__") (by kernel_rfl) (by first | rfl | decide +kernel) (by decide +kernel) (by kernel_rfl)
theorem zip_lk_hook : typeLookup (.type "zip") "__getattr__" = pure none := by rw [typeLookup_type, builtinLookup_eq_fast]; kernel_rfl
theorem zip_lk_keys : typeLookup (.type "zip") "keys" = pure none := by rw [typeLookup_type, builtinLookup_eq_fast]; kernel_rfl
section
variable {prog : Program} {w : World} {A : Around} {E : Value → Shared → Prop} {h : Heap} {g : Array GenState} {d : Drawn} {t : Nat} {os : OsState} {a : Addr} {o : Obj}
theorem zip_ga {tk : Tok} {Q : PySem.Fin → Shared → Prop} (hh : A.handled = none) {fs : Array Value} (hx : h.get? a = some { cls := .type "zip", dict := none, data := .fields fs, slots := #[] })
    (hE : ∀ h' tk e oe, (∀ b o, h.get? b = some o → h'.get? b = some o) → h'.get? e = some oe → oe.cls = .type "AttributeError" → E (.ref e) ⟨h', g, d, tk, os⟩) :
    wpAny (model prog w) A (Builtin.«object.__getattribute__» ⟨[.ref a, .str "keys" tk], []⟩) Q E ⟨h, g, d, t, os⟩ := by
  have hT : (⟨h, g, d, t, os⟩ : Shared).TypeIs (.ref a) "zip" := ⟨_, hx, rfl⟩
  have f4 := zip_lk_keys
  repeat (any_goals (first | assumption | wp_step))
  rw [show ((Manifest.find? "zip").elim "zip" fun x => x.tpName) = "zip" from by rw [find?_eq_fast]; kernel_rfl]
  have hm : (Str.ofString (toString "'" ++ toString "zip" ++ toString "' object has no attribute '") ++ Str.ofString "keys" ++ Str.ofString "'").length ≤ sizeLine := by decide +kernel
  revert hm
  generalize (Str.ofString (toString "'" ++ toString "zip" ++ toString "' object has no attribute '") ++ Str.ofString "keys" ++ Str.ofString "'") = msg
  intro hm
  unfold raiseAttrError
  refine wpAny_bind (wpAny_mkStr (wpAny_bind ?_) hm)
  unfold newExc newTuple
  refine wpAny_bind (wpAny_newObj_type ?_)
  refine wpAny_bind (m := firstArgMember _ _) (wpAny_of_eq (a := Value.none) (by first | rfl | (simp only [firstArgMember]; rfl)) ?_)
  refine wpAny_newObj_type ?_
  refine wpAny_bind (wpAny_mkText (wpAny_bind ?_))
  dsimp only
  have old : ∀ b o, h.get? b = some o → ((h.push { cls := .type "tuple", data := .seq #[Value.str msg t] }).push { cls := .type "AttributeError", data := .fields (#[Value.ref h.objs.size, Value.none, Value.none, Value.none, Value.bool false, Value.none] ++ ownMembersOf (.type "AttributeError") [Value.str msg t]) }).get? b = some o := fun b o e => Heap.get?_push_of_some _ (Heap.get?_push_of_some _ e)
  have eo : ((h.push { cls := .type "tuple", data := .seq #[Value.str msg t] }).push { cls := .type "AttributeError", data := .fields (#[Value.ref h.objs.size, Value.none, Value.none, Value.none, Value.bool false, Value.none] ++ ownMembersOf (.type "AttributeError") [Value.str msg t]) }).get? (h.push { cls := .type "tuple", data := .seq #[Value.str msg t] }).objs.size = some { cls := .type "AttributeError", data := .fields #[Value.ref h.objs.size, Value.none, Value.none, Value.none, Value.bool false, Value.none, unsetMember, unsetMember] } := Heap.get?_push_size _ rfl
  have ne : ∀ b o, h.get? b = some o → b ≠ (h.push { cls := .type "tuple", data := .seq #[Value.str msg t] }).objs.size := fun b o e => Nat.ne_of_lt (Heap.lt_size (Heap.get?_push_of_some { cls := .type "tuple", data := .seq #[Value.str msg t] } e))
  generalize ((h.push { cls := .type "tuple", data := .seq #[Value.str msg t] }).push { cls := .type "AttributeError", data := .fields (#[Value.ref h.objs.size, Value.none, Value.none, Value.none, Value.bool false, Value.none] ++ ownMembersOf (.type "AttributeError") [Value.str msg t]) }) = H2 at *
  generalize (h.push { cls := .type "tuple", data := .seq #[Value.str msg t] }).objs.size = e1 at *
  have hTe : ∀ t', (⟨H2, g, d, t', os⟩ : Shared).TypeIs (.ref e1) "AttributeError" := fun t' => ⟨_, eo, rfl⟩
  unfold noteAttr
  dsimp only
  refine wpAny_bind ?_
  unfold lacksNameAndObj
  dsimp only
  refine wpAny_bind (wpAny_isInstance (T := "AttributeError") (b := true) (hTe _) (by rw [isSubtype_type]; kernel_rfl) ?_)
  rw [if_neg (by decide)]
  refine wpAny_bind (wpAny_load eo ?_)
  dsimp only
  refine wpAny_pure ?_
  rw [if_pos (by rfl)]
  refine wpAny_bind (wpAny_rule ?_)
  refine wpAny_bind (wpAny_typeOf (hTe _) ?_)
  dsimp only
  unfold layMembers
  refine wpAny_bind (wpAny_load eo ?_)
  dsimp only
  refine wpAny_update eo ?_
  unfold raiseNew
  refine wpAny_bind (wpAny_handled ?_)
  rw [hh]
  refine wpAny_bind (wpAny_pure (wpAny_throw ?_))
  exact hE _ _ _ _ (fun b o e => (Heap.get?_update_other _ _ (Ne.symm (ne b o e))).trans (old b o e)) (Heap.get?_update_self _ eo rfl) rfl
theorem zip_by {tk : Tok} {Q : Value → Shared → Prop} (hh : A.handled = none) {fs : Array Value} (hx : h.get? a = some { cls := .type "zip", dict := none, data := .fields fs, slots := #[] })
    (hE : ∀ h' tk e oe, (∀ b o, h.get? b = some o → h'.get? b = some o) → h'.get? e = some oe → oe.cls = .type "AttributeError" → E (.ref e) ⟨h', g, d, tk, os⟩) :
    wpAny (model prog w) A (getAttrBy (.ref a) (.str "keys" tk) false) Q E ⟨h, g, d, t, os⟩ := by
  have hT : (⟨h, g, d, t, os⟩ : Shared).TypeIs (.ref a) "zip" := ⟨_, hx, rfl⟩
  have f2 := F.slot_zip_getattribute.lookup
  have f3 := F.slot_zip_getattribute.bind (.ref a)
  repeat (any_goals (first | assumption | wp_step))
  refine codeAny_call_builtin F.slot_zip_getattribute.plain entry_zip_ga (F.slot_zip_getattribute.check _ _ _ _ _ _ _ _ hT (F.args_zip_getattribute_2 _ _) (zip_ga hh hx fun h' tk e oe k1 k2 k3 => ?_))
  dsimp only
  have hTe : ∀ t', (⟨h', g, d, t', os⟩ : Shared).TypeIs (.ref e) "AttributeError" := fun t' => ⟨_, k2, k3⟩
  unfold getattributeRaised
  refine wpAny_bind (wpAny_isInstance (T := "AttributeError") (b := true) (hTe _) (by rw [isSubtype_type]; kernel_rfl) ?_)
  have f9 := zip_lk_hook
  repeat (any_goals (first | assumption | wp_step))
  exact hE h' _ e oe k1 k2 k3
theorem zip_keys {Q : Option Value → Shared → Prop} (hh : A.handled = none) {fs : Array Value} (hx : h.get? a = some { cls := .type "zip", dict := none, data := .fields fs, slots := #[] })
    (hQ : ∀ h' tk, (∀ b o, h.get? b = some o → h'.get? b = some o) → Q none ⟨h', g, d, tk, os⟩) :
    wpAny (model prog w) A (getAttr? (.ref a) "keys") Q E ⟨h, g, d, t, os⟩ := by
  unfold getAttr? getAttrBy?
  refine wpAny_bind (wpAny_mkText ?_)
  refine wpAny_bind (wpAny_attempt (zip_by hh hx fun h' tk e oe k1 k2 k3 => ?_))
  refine wpAny_bind (wpAny_isInstance (T := "AttributeError") (b := true) ⟨_, k2, k3⟩ (by rw [isSubtype_type]; kernel_rfl) ?_)
  exact wpAny_pure (hQ h' tk k1)
end
/-- the dict of the first i pairs -/
noncomputable def dz (pl : List Pl) (ys : List V) : Nat → List (List Key × V)
  | 0 => []
  | i + 1 => putK (dz pl ys i) (pk (pl.getD i (0, 0))) ((ys[i]?).getD .non)
theorem dz_length (pl : List Pl) (ys : List V) : ∀ i, (dz pl ys i).length ≤ i
  | 0 => Nat.le_refl _
  | i + 1 => by have := length_putK (dz pl ys i) (pk (pl.getD i (0, 0))) ((ys[i]?).getD .non); have := dz_length pl ys i; unfold dz; omega
theorem entry_dict_loop : entryFor table "dict.update.loop" = some Builtin.«dict.update.loop» := entryFor_of_tree (by kernel_rfl)
theorem plain_dict_loop : plainId "dict.update.loop" = true := by decide +kernel
section
variable {X : Cx} {pins : List (Addr × Obj)} {σ : L2.St} {A : Around}
theorem upd_zip {R : Result → Shared → Prop} {z TI TO i1 i2 l1 l2 S : Addr} {xs ys : List V} {pl : List Pl} (hh : A.handled = none) (hu : A.units + 1 < cLine) (D : ZipApart z TI TO i1 i2 l1 l2) (n1 : l1 ≠ S) (n2 : l2 ≠ S) (nf : S ∉ [z, TI, TO, i1, i2]) (hsz : xs.length ≤ 100000) (res : Value) :
    ∀ (k i : Nat) (s : Shared) (H : Hp), min xs.length ys.length - i = k → i ≤ min xs.length ys.length → Inv X pins σ H s → (∀ b ∈ [z, TI, TO, i1, i2], FpOk X pins H b) → ZSt z TI TO i1 i2 l1 l2 i s.heap → SqL X.K H l1 xs → SqL X.K H l2 ys → PlsV H xs pl →
    H S = some (.dT (dz pl ys i)) →
    (∀ s' H', Inv X pins σ H' s' → (∀ b o, b ≠ S → H b = some o → H' b = some o) → H' S = some (.dT (dz pl ys (min xs.length ys.length))) → R (.ok (.ret res)) s') →
    codeAny (model X.prog X.w) A (.builtin "dict.update.loop" ⟨[.ref S, .ref z, rawInt i, res], []⟩) R s := by
  intro k
  induction k with
  | zero =>
    intro i s H hk hi I hf st q1 q2 hpl hS hR
    have hin : i = min xs.length ys.length := by omega
    obtain ⟨its1, rv1, p1, _⟩ := I.list q1
    obtain ⟨its2, rv2, p2, _⟩ := I.list q2
    have r1 := rv1.length
    have r2 := rv2.length
    refine codeAny_builtin entry_dict_loop ?_
    rw [Around.under_plainId plain_dict_loop _]
    show wpAny _ A.in1 (pyNext (.ref z) >>= _) _ _ s
    refine wpAny_bind (zst_end (A := A.in1) hh D st p1.isList p2.isList ?_ fun h' kk => ?_)
    · rcases Nat.le_total its1.length its2.length with q | q
      · exact .inl (by simp; omega)
      · exact .inr (by simp; omega)
    have I1 : Inv X pins σ H { s with heap := h', toks := s.toks } := turnedL I hf fun b o hb e => by
      simp only [List.mem_cons, List.not_mem_nil, or_false, not_or] at hb
      exact kk b o hb.1 hb.2.2.1 hb.2.2.2.1 hb.2.2.2.2 e
    show wpAny _ A.in1 (Builtin.Dict.addKeywords S [] >>= _) _ _ _
    exact wpAny_bind (wpAny_pure (wpAny_pure (hR _ H I1 (fun _ _ _ e => e) (by rw [← hin]; exact hS))))
  | succ k ih =>
    intro i s H hk hi I hf st q1 q2 hpl hS hR
    have hlt : i < min xs.length ys.length := by omega
    obtain ⟨its1, rv1, p1, _⟩ := I.list q1
    obtain ⟨its2, rv2, p2, _⟩ := I.list q2
    have ex : xs[i]? = some (xs[i]'(by omega)) := List.getElem?_eq_getElem _
    have ey : ys[i]? = some (ys[i]'(by omega)) := List.getElem?_eq_getElem _
    have hpi : i < pl.length := by rw [← hpl.len]; omega
    have ep : pl[i]? = some (pl[i]'hpi) := List.getElem?_eq_getElem _
    obtain ⟨kb, ekb, hkb⟩ := hpl.get i _ _ ex ep
    obtain ⟨u1, hu1, ru1⟩ := rv1.get ex
    obtain ⟨u2, hu2, ru2⟩ := rv2.get ey
    rw [ekb] at ru1
    obtain rfl : u1 = Value.ref kb := ru1
    refine codeAny_builtin entry_dict_loop ?_
    rw [Around.under_plainId plain_dict_loop _]
    show wpAny _ A.in1 (pyNext (.ref z) >>= _) _ _ s
    refine wpAny_bind (zst_item (A := A.in1) D st p1.isList p2.isList (x := .ref kb) (y := u2) (by simpa using hu1) (by simpa using hu2) fun h' st' pr kk => ?_)
    have hT : H s.heap.objs.size = none := I.hok.fresh (Nat.le_refl _)
    have kk' : ∀ b o, b ∉ [z, TI, TO, i1, i2] → s.heap.get? b = some o → h'.get? b = some o := fun b o hb e => by
      simp only [List.mem_cons, List.not_mem_nil, or_false, not_or] at hb
      exact kk b o hb.1 hb.2.2.1 hb.2.2.2.1 hb.2.2.2.2 e
    have I1 := turnedLay (t' := s.toks) (a := s.heap.objs.size) (o := .tup [.ref kb, ys[i]'(by omega)]) (h' := h') I hf kk' (Nat.le_refl _) ⟨by show 2 ≤ sizeLine; decide, [.ref kb, u2], .cons rfl (.cons ru2 .nil), ⟨_, pr, rfl, _, rfl⟩⟩
    have neS : S ≠ s.heap.objs.size := ne_of_none hS hT
    have hS1 : (upd H s.heap.objs.size (.tup [.ref kb, ys[i]'(by omega)])) S = some (.dT (dz pl ys i)) := by rw [upd_ne neS]; exact hS
    have hk1 : (upd H s.heap.objs.size (.tup [.ref kb, ys[i]'(by omega)])) kb = some (.tup ((pk (pl[i]'hpi)).map kV)) := by rw [upd_ne (ne_of_none hkb hT)]; exact hkb
    show wpAny _ A.in1 (holding _ _ >>= _) _ _ _
    refine wpAny_bind (wpAny_holding ?_)
    refine wpAny_bind (wpAny_tryCatch ?_)
    unfold Builtin.Dict.pairItems
    refine wpAny_bind (wpAny_typeOf (T := "tuple") ⟨_, pr, rfl⟩ ?_)
    rw [if_pos (by decide)]
    refine wpAny_bind ?_
    unfold seqItems?
    refine wpAny_bind (wpAny_load pr ?_)
    refine wpAny_pure ?_
    refine wpAny_pure ?_
    show wpAny _ A.in1 (holding [Value.ref kb, u2] (dictSet S (.ref kb) u2)) _ _ _
    refine wpAny_holding ?_
    obtain ⟨zz, hd, ents, rel, dd⟩ := dt_of I1.hok hS1
    have hl0 := dz_length pl ys i
    have hlz : ents.length ≤ sizeLine := by rw [← Paired.length rel]; exact zz
    have hl : (putK (dz pl ys i) (pk (pl[i]'hpi)) (ys[i]'(by omega))).length ≤ sizeLine := by have := length_putK (dz pl ys i) (pk (pl[i]'hpi)) (ys[i]'(by omega)); exact Nat.le_trans this (Nat.le_of_lt (small_line (by omega)))
    refine wpAny_dictSet_heap (knd := tupleKind (mixKind X.prog X.w)) (s := { s with heap := h', toks := s.toks }) (hsz := hlz) (tupleKind_room_in1 hu) (key_of I1.hok hk1) dd fun h2 dd' hs => ?_
    obtain ⟨qo, es, epo, hq, g2, g3, g4, _, g5⟩ := dd'
    have I2 : Inv X pins σ (upd (upd H s.heap.objs.size (.tup [.ref kb, ys[i]'(by omega)])) S (.dT (putK (dz pl ys i) (pk (pl[i]'hpi)) (ys[i]'(by omega))))) { s with heap := h2, toks := s.toks + (tupleKind (mixKind X.prog X.w)).draws (pk (pl[i]'hpi)) } := by
      refine d_write (s := { s with heap := h', toks := s.toks }) I1 (by rw [hS1]; exact True.intro) hs ⟨qo, hq⟩ ⟨hl, hd, _, (rel.put (pk (pl[i]'hpi)) hk1 ru2).keeps fun c vs ec => ?_, qo, es, epo, hq, g2, g3, g4, g5⟩
      rw [upd_ne (ne_of ec hS1 (fun z => nomatch z))]
      exact ec
    have oth : ∀ b o, b ≠ S → h'.get? b = some o → h2.get? b = some o := fun b o hb e => (hs.2 b hb).trans e
    have ez : dz pl ys (i + 1) = putK (dz pl ys i) (pk (pl[i]'hpi)) (ys[i]'(by omega)) := by
      show putK (dz pl ys i) (pk (pl.getD i (0, 0))) ((ys[i]?).getD .non) = _
      rw [ey, List.getD_eq_getElem?_getD, ep]; rfl
    obtain ⟨hm, ⟨oa, ob, hTO⟩, hTI, hi1, hi2⟩ := id st
    have ltz : z < s.heap.objs.size := by
      rcases hm with q | ⟨_, _, _, q, _⟩
      · exact Heap.lt_size q
      · exact Heap.lt_size q
    have lt1 : i1 < s.heap.objs.size := by obtain ⟨_, e, _⟩ := hi1; exact Heap.lt_size e
    have lt2 : i2 < s.heap.objs.size := by obtain ⟨_, e, _⟩ := hi2; exact Heap.lt_size e
    have ltf : ∀ b ∈ [z, TI, TO, i1, i2], b ≠ s.heap.objs.size := fun b hb => by
      simp only [List.mem_cons, List.not_mem_nil, or_false] at hb
      rcases hb with rfl | rfl | rfl | rfl | rfl
      · exact Nat.ne_of_lt ltz
      · exact Nat.ne_of_lt (Heap.lt_size hTI)
      · exact Nat.ne_of_lt (Heap.lt_size hTO)
      · exact Nat.ne_of_lt lt1
      · exact Nat.ne_of_lt lt2
    have ns : ∀ b ∈ [z, TI, TO, i1, i2], b ≠ S := fun b hb e => nf (e ▸ hb)
    have a1 : l1 ≠ s.heap.objs.size := by obtain ⟨_, e, _⟩ := p1.isList; exact Nat.ne_of_lt (Heap.lt_size e)
    have a2 : l2 ≠ s.heap.objs.size := by obtain ⟨_, e, _⟩ := p2.isList; exact Nat.ne_of_lt (Heap.lt_size e)
    show wpAny _ A.in1 (again (.builtin "dict.update.loop" ⟨[.ref S, .ref z, rawInt (((i + 1 : Nat)) : Int), res], []⟩)) _ _ _
    refine wpAny_pure ⟨plainId_quiet plain_dict_loop _, ?_⟩
    refine ih (i + 1) _ _ (by omega) hlt I2 (fun b hb => ?_) ?_ (Cv.SqL.aside (Cv.SqL.aside q1 a1) n1) (Cv.SqL.aside (Cv.SqL.aside q2 a2) n2) (hpl.tup fun b ts e => ?_) (by rw [ez]; exact upd_same) fun s' H' I' e1 e2 => hR s' H' I' (fun b o hb e => e1 b o hb ?_) e2
    · obtain ⟨f0, fr⟩ := hf b hb
      exact ⟨by rw [upd_ne (ns b hb), upd_ne (ltf b hb)]; exact f0, fr⟩
    · obtain ⟨hm', ⟨pa, pb, hTO'⟩, hTI', hi1', hi2'⟩ := st'
      refine ⟨?_, ⟨pa, pb, oth _ _ (ns TO (by simp)) hTO'⟩, oth _ _ (ns TI (by simp)) hTI', hi1'.at fun o e => oth _ o (ns i1 (by simp)) e, hi2'.at fun o e => oth _ o (ns i2 (by simp)) e⟩
      rcases hm' with q | ⟨T, b, o, q, qT, t1, t2, t3, t4⟩
      · exact .inl (oth _ _ (ns z (by simp)) q)
      · by_cases hTS : T = S
        · exact .inr ⟨T, b, _, oth _ _ (ns z (by simp)) q, by rw [hTS]; exact hq, t1, t2, t3, t4⟩
        · exact .inr ⟨T, b, o, oth _ _ (ns z (by simp)) q, oth _ _ hTS qT, t1, t2, t3, t4⟩
    · rw [upd_ne (ne_of e hS (fun z => nomatch z)), upd_ne (ne_of_none e hT)]; exact e
    · rw [upd_ne hb, upd_ne (ne_of_none e hT)]; exact e
/-- dict(zip(a, b)), the items of a pairs -/
noncomputable def tZipD (K : PySem.W.Frag) (ta : TA) : TE := fun σ H Q => ta σ H fun vs H1 => ∃ (l1 l2 : Addr) (xs ys : List V) (pl : List Pl), vs = [.ref l1, .ref l2] ∧ SqL K H1 l1 xs ∧ SqL K H1 l2 ys ∧ PlsV H1 xs pl ∧ xs.length ≤ 100000 ∧
  ∀ (l : Addr) (H2 : Hp), H1 l = none → Same H1 H2 → H2 l = some (.dT (dz pl ys (min xs.length ys.length))) → Q (.ref l) H2
theorem dict_zip {s : Shared} {H : Hp} {E : Value → Shared → Prop} {z TI TO i1 i2 l1 l2 : Addr} {xs ys : List V} {pl : List Pl} {Q : Value → Shared → Prop} (hh : A.handled = none) (hu : A.units + 8 < cLine) (D : ZipApart z TI TO i1 i2 l1 l2) (I : Inv X pins σ H s) (hf : ∀ b ∈ [z, TI, TO, i1, i2], FpOk X pins H b)
    (st : ZSt z TI TO i1 i2 l1 l2 0 s.heap) (hz : IsZip s.heap z TI TO .none) (q1 : SqL X.K H l1 xs) (q2 : SqL X.K H l2 ys) (hpl : PlsV H xs pl) (hsz : xs.length ≤ 100000)
    (hQ : ∀ s' H', Inv X pins σ H' s' → H s.heap.objs.size = none → (∀ b o, H b = some o → H' b = some o) → H' s.heap.objs.size = some (.dT (dz pl ys (min xs.length ys.length))) → Q (.ref s.heap.objs.size) s') :
    wpAny (model X.prog X.w) A (call (.type "dict") [.ref z]) Q E s := by
  refine callType_codes (Q₁ := fun obj s₁ => obj = .ref s.heap.objs.size ∧ s₁ = { s with heap := s.heap.push { cls := .type "dict", data := .dict #[] } }) F.kt_called_dict (F.kt_typeCall_dict_1 _) F.entry_dict_init (kt_code_dict_new _ ⟨rfl, rfl⟩) fun obj s₁ h₁ => ?_
  obtain ⟨rfl, rfl⟩ := h₁
  have hS : (s.heap.push { cls := .type "dict", data := .dict #[] }).get? s.heap.objs.size = some { cls := .type "dict", data := .dict #[] } := Heap.get?_push_size _ rfl
  have hTd : ∀ h' t', h'.get? s.heap.objs.size = some { cls := .type "dict", data := .dict #[] } → (⟨h', s.gens, s.drawn, t', s.os⟩ : Shared).TypeIs (.ref s.heap.objs.size) "dict" := fun h' t' e => ⟨_, e, rfl⟩
  refine ⟨hTd _ _ hS, F.args_dict_init_2 _ _, ?_⟩
  unfold Builtin.«dict.__init__»
  refine wpAny_bind ?_
  unfold Builtin.Dict.selfAndRest
  refine wpAny_bind (wpAny_notOrdered_dict (hTd _ _ hS) ?_)
  show wpAny _ _ (pure (s.heap.objs.size, [Value.ref z])) _ _ _
  refine wpAny_pure ?_
  show wpAny _ _ (Builtin.Dict.updateFrom "dict.__init__" s.heap.objs.size (.ref z) [] .none) _ _ _
  unfold Builtin.Dict.updateFrom
  have hz1 := Heap.get?_push_of_some { cls := .type "dict", data := .dict #[] } hz
  refine wpAny_bind (wpAny_typeOf (T := "zip") ⟨_, hz1, rfl⟩ ?_)
  rw [if_pos (by decide)]
  refine wpAny_bind (zip_keys (A := A.in1.in1) hh hz1 fun h' tk k1 => ?_)
  rw [if_pos (by rfl)]
  refine wpAny_bind (wpAny_rule ?_)
  have old : ∀ b o, s.heap.get? b = some o → h'.get? b = some o := fun b o e => k1 b o (Heap.get?_push_of_some _ e)
  have hn : H s.heap.objs.size = none := I.hok.fresh (Nat.le_refl _)
  have I1 : Inv X pins σ (upd H s.heap.objs.size (.dT [])) { s with heap := h', toks := tk } := I.laid (a := s.heap.objs.size) (o := .dT []) (t' := tk) old (Nat.le_refl _)
    ⟨Nat.zero_le _, beq_eq_false_iff_ne.mpr (Nat.ne_of_gt I.big), [], .nil, _, #[], 0, k1 _ _ hS, ⟨rfl, rfl, rfl⟩, rfl, rfl, List.nodup_nil⟩
  refine wpAny_bind (wpAny_pyIter_zip (old _ _ hz) ?_)
  obtain ⟨its1, rv1, p1, _⟩ := I.list q1
  obtain ⟨its2, rv2, p2, _⟩ := I.list q2
  have a1 : l1 ≠ s.heap.objs.size := by obtain ⟨_, e, _⟩ := p1.isList; exact Nat.ne_of_lt (Heap.lt_size e)
  have a2 : l2 ≠ s.heap.objs.size := by obtain ⟨_, e, _⟩ := p2.isList; exact Nat.ne_of_lt (Heap.lt_size e)
  obtain ⟨hm, hTO, hTI, hi1, hi2⟩ := id st
  have ltf : ∀ b ∈ [z, TI, TO, i1, i2], b ≠ s.heap.objs.size := fun b hb => by
    simp only [List.mem_cons, List.not_mem_nil, or_false] at hb
    rcases hb with rfl | rfl | rfl | rfl | rfl
    · exact Nat.ne_of_lt (Heap.lt_size hz)
    · exact Nat.ne_of_lt (Heap.lt_size hTI)
    · obtain ⟨_, _, q⟩ := hTO; exact Nat.ne_of_lt (Heap.lt_size q)
    · obtain ⟨_, q, _⟩ := hi1; exact Nat.ne_of_lt (Heap.lt_size q)
    · obtain ⟨_, q, _⟩ := hi2; exact Nat.ne_of_lt (Heap.lt_size q)
  refine wpAny_pure ⟨plainId_quiet plain_dict_loop _, upd_zip (A := A.in1) (X := X) (pins := pins) (σ := σ) (pl := pl) (xs := xs) (ys := ys) hh (by show A.units + 1 + 1 < cLine; omega) D a1 a2 (fun hb => ltf _ hb rfl) hsz .none _ 0 _ _ rfl (Nat.zero_le _) I1 (fun b hb => ?_) ?_ (Cv.SqL.aside q1 a1) (Cv.SqL.aside q2 a2) (hpl.tup fun b ts e => ?_) upd_same fun s' H' I' e1 e2 => ?_⟩
  · obtain ⟨f0, fr⟩ := hf b hb
    exact ⟨by rw [upd_ne (ltf b hb)]; exact f0, fr⟩
  · obtain ⟨pa, pb, hTO'⟩ := hTO
    exact ⟨.inl (old _ _ hz), ⟨pa, pb, old _ _ hTO'⟩, old _ _ hTI, hi1.at fun o e => old _ o e, hi2.at fun o e => old _ o e⟩
  · rw [upd_ne (ne_of_none e hn)]; exact e
  · exact ⟨rfl, hQ s' H' I' hn (fun b o e => e1 b o (ne_of_none e hn) (by rw [upd_ne (ne_of_none e hn)]; exact e)) e2⟩
theorem pe_dictzip {a b : Expr} {ta : TA} {p p2 pos pos2 : Pos} (hu : X.A.units + 8 < cLine) (hg : Gl X "dict") (hm : X.mg "dict" = none) (hg2 : Gl X "zip") (hm2 : X.mg "zip" = none) (ha : PA X [a, b] ta) (hc : X.calm = true := by rfl)
    (he : starEach [a, b] X.env = (false, eval a X.env) :: starEach [b] X.env := by rfl) (hpl : (backTo pos2 (starEach [b] X.env)).any (·.1) = false := by rfl)
    (he2 : starEach [.Call (.Name "zip" p2) [a, b] [] pos2] X.env = (false, eval (.Call (.Name "zip" p2) [a, b] [] pos2) X.env) :: starEach [] X.env := by rfl) (hpl2 : (backTo pos (starEach [] X.env)).any (·.1) = false := by rfl) :
    PE X (.Call (.Name "dict" p) [.Call (.Name "zip" p2) [a, b] [] pos2] [] pos) (tZipD X.K ta) := by
  intro pins s σ H Q I h
  refine wpAny_Call_Name_kw (ld_blt I hg hm boot_dict ?_ (by decide) (by decide))
  refine PyProof.Rows.callWith_type1 ?_ he2 hpl2
  rw [he2]
  refine Calls.spliced_cons ?_
  refine wpAny_Call_Name_kw (ld_blt I hg2 hm2 boot_zip ?_ (by decide) (by decide))
  refine PyProof.Rows.callWith_type1 (thn (ha pos2 pins s σ H _ I h) fun us s1 ⟨vs, H1, I1, r1, w1⟩ => ?_) he hpl
  obtain ⟨l1, l2, xs, ys, pl, rfl, q1, q2, hpv, hsz, q⟩ := w1
  obtain ⟨u1, u2, rfl, e1, e2⟩ := vals_two r1
  cases e1; cases e2
  obtain ⟨its1, rv1, p1, hz1⟩ := I1.list q1
  obtain ⟨its2, rv2, p2, hz2⟩ := I1.list q2
  have a1 : l1 < s1.heap.objs.size := by obtain ⟨_, e, _⟩ := p1.isList; exact Heap.lt_size e
  have a2 : l2 < s1.heap.objs.size := by obtain ⟨_, e, _⟩ := p2.isList; exact Heap.lt_size e
  refine call_zip_2 p1.isList p2.isList fun h' hz hTI hTO hi1 hi2 hsz' hk => ?_
  refine Calls.spliced_nil ?_
  have I2 : Inv X pins σ H1 { s1 with heap := h', toks := s1.toks } := I1.kept hk
  have fp : ∀ b ∈ [s1.heap.objs.size + 4, s1.heap.objs.size + 2, s1.heap.objs.size + 3, s1.heap.objs.size, s1.heap.objs.size + 1], FpOk X pins H1 b := fun c hc => by
    have hge : s1.heap.objs.size ≤ c := by
      simp only [List.mem_cons, List.not_mem_nil, or_false] at hc
      rcases hc with rfl | rfl | rfl | rfl | rfl <;> omega
    exact I1.fpOk hge (I1.hok.fresh hge)
  refine dict_zip (s := { s1 with heap := h', toks := s1.toks }) (I1.ok.hd hc) hu (zipApart_new a1 a2) I2 fp ⟨.inl hz, ⟨_, _, hTO⟩, hTI, hi1, hi2⟩ hz q1 q2 hpv hsz fun s' H' I' hn e1 e2 => ?_
  exact ⟨.ref _, H', I', rfl, q _ H' hn e1 e2⟩
theorem pe_dictzipI {a b : Expr} {ta : TA} {p p2 pos pos2 : Pos} (hu : X.A.units + 8 < cLine) (hg : Gl X "dict") (hm : X.mg "dict" = none) (hg2 : Gl X "zip") (hm2 : X.mg "zip" = none) (ha : PAi X [a, b] ta) (hc : X.calm = true := by rfl)
    (he : starEach [a, b] X.env = (false, eval a X.env) :: starEach [b] X.env := by rfl) (hpl : (backTo pos2 (starEach [b] X.env)).any (·.1) = false := by rfl)
    (he2 : starEach [.Call (.Name "zip" p2) [a, b] [] pos2] X.env = (false, eval (.Call (.Name "zip" p2) [a, b] [] pos2) X.env) :: starEach [] X.env := by rfl) (hpl2 : (backTo pos (starEach [] X.env)).any (·.1) = false := by rfl) :
    PEi X (.Call (.Name "dict" p) [.Call (.Name "zip" p2) [a, b] [] pos2] [] pos) (tZipD X.K ta) := by with_unfolding_all exact pe_dictzip (hu := hu) (hg := hg) (hm := hm) (hg2 := hg2) (hm2 := hm2) (ha := ha) (hc := hc) (he := he) (hpl := hpl) (he2 := he2) (hpl2 := hpl2)
end
end Cv

namespace Cv
open PySem PySem.Spec PyProof.Rows L2 HT
section
open PySem.SeqAt
open PySem.AutoSeq1 (wpAny_loadPart')
open PySem.MeetsSeq PySem.MeetsSeq2 PySem.MeetsSeq3
end
section
variable {prog : Program} {w : World} {A : Around} {E : Value → Shared → Prop} {s : Shared}
end
section
open PySem.SeqAt
open PySem.AutoSeq1 (wpAny_loadPart')
open PySem.MeetsSeq PySem.MeetsSeq2 PySem.MeetsSeq3
end
section
variable {prog : Program} {w : World} {A : Around} {E : Value → Shared → Prop} {s : Shared}
end
end Cv

namespace Cv
open PySem PySem.Spec PyProof.Rows L2
/-! ### <= of pairs; least and greatest of two pairs -/
/-- an object that is a pair of whole numbers -/
noncomputable def PrO (o : Obj) (p : Pl) : Prop := o.cls = .type "tuple" ∧ ∃ (t1 t2 : Tok) (n : Nat), o.data = .seq #[.int p.1 t1, .int p.2 t2] n
theorem PrO.tup {h : Heap} {a : Addr} {o : Obj} {p : Pl} (x : PrO o p) (e : h.get? a = some o) : ∃ its : Array Value, IsTup h a its ∧ IntsAre its.toList [p.1, p.2] := by
  obtain ⟨c, t1, t2, n, d⟩ := x
  exact ⟨_, ⟨o, e, c, n, d⟩, .cons _ _ (.cons _ _ .nil)⟩
section
variable {prog : Program} {w : World} {A : Around} {E : Value → Shared → Prop} {s : Shared}
theorem lt_prs {a b : Addr} {oa ob : Obj} {p q : Pl} {Q : Value → Shared → Prop} (ha : s.heap.get? a = some oa) (pa : PrO oa p) (hb : s.heap.get? b = some ob) (pb : PrO ob q) (hu : A.units < cLine) (h : Q (.bool (decide (lxP p q))) s) :
    wpAny (model prog w) A (richCompare .Lt (.ref a) (.ref b)) Q E s := by
  obtain ⟨i1, t1, j1⟩ := pa.tup ha
  obtain ⟨i2, t2, j2⟩ := pb.tup hb
  refine HT.lt_tupInts t1 t2 j1 j2 hu ?_
  have e : HT.lexLt [p.1, p.2] [q.1, q.2] = decide (lxP p q) := by
    rw [HT.lexLt_cons, HT.lexLt_cons, HT.lexLt_nil_nil]
    unfold lxP
    by_cases h1 : p.1 = q.1
    · by_cases h2 : p.2 = q.2
      · rw [if_pos h1, if_pos h2]; exact (decide_eq_false (by omega)).symm
      · rw [if_pos h1, if_neg h2]; exact decide_eq_decide.mpr (by omega)
    · rw [if_neg h1]; exact decide_eq_decide.mpr (by omega)
  rw [e]; exact h
end
section
variable {X : Cx}
end
section
variable {prog : Program} {w : World} {A : Around} {E : Value → Shared → Prop} {s : Shared}
end
section
variable {X : Cx}
end
end Cv

namespace Cv
open PySem PySem.Spec PyProof.Rows L2
/-- a dict of the module -/
noncomputable def DKn (P : Program) (w : World) (K : PySem.W.Frag) (a : Addr) (kvs : List (Key × V)) : Prop := ∀ h, K.In h → (a == sysModules) = false ∧ ∃ vs, KV kvs vs ∧ h.DictOf (mixKind P w) a vs
/-- what the dict at a, of the heap or of the module, holds at the key y -/
noncomputable def DGx (P : Program) (w : World) (K : PySem.W.Frag) (H : Hp) (a : Addr) (y : V) (o : Option V) : Prop := DGet H a y o ∨ ∃ kvs k, DKn P w K a kvs ∧ y = kV k ∧ o = valV kvs k
section
variable {X : Cx} {pins : List (Addr × Obj)} {σ : L2.St} {H : Hp} {s : Shared} {a : Addr} {y v : V} {u : Value} {o : Option V}
theorem dgx_typeIs (I : Inv X pins σ H s) (g : DGx X.prog X.w X.K H a y o) : s.TypeIs (.ref a) "dict" := by
  rcases g with g | ⟨kvs, k, D, _, _⟩
  · exact dict_typeIs I g
  · obtain ⟨_, vs, _, dd⟩ := D _ I.kIn
    exact dd.typeIs
theorem dgx_get {A : Around} {E : Value → Shared → Prop} {Q : Value → Shared → Prop} (hu : A.units + 1 < cLine) (I : Inv X pins σ H s) (g : DGx X.prog X.w X.K H a y (some v)) (ry : RelV y u) (h : ∀ w' s', Inv X pins σ H s' → RelV v w' → Q w' s') :
    wpAny (model X.prog X.w) A (getItem (.ref a) u) Q E s := by
  rcases g with g | ⟨kvs, k, D, ey, l⟩
  · exact d_getItem hu I g ry h
  · subst ey
    obtain ⟨hd, vs, rel, dd⟩ := D _ I.kIn
    obtain ⟨w', hw, rw'⟩ := RelO.some_of (v := v) (o := valueAt vs k) (by rw [l]; exact rel.val k)
    exact wpAny_getItem_of (kV_is ry) dd.mapOf hw (h w' _ (I.tok _) rw')
end
section
variable {X : Cx} (P : Program) (w : World) (K : PySem.W.Frag)
noncomputable def rIxD : R2 := fun x y H Q => ∃ a v, x = .ref a ∧ DGx P w K H a y (some v) ∧ Q v H
theorem ix_dict (hu : X.A.units + 64 < cLine) (hP : X.prog = P := by rfl) (hw : X.w = w := by rfl) (hK : X.K = K := by rfl) : IxR X (rIxD P w K) := by
  subst hP hw hK
  intro value slice pins s σ H x y v u Q I rx ry h hs
  obtain ⟨a, z, rfl, g, q⟩ := h
  cases rx
  have hT := dgx_typeIs I g
  unfold subscriptTail
  refine wpAny_bind ?_
  rw [getitemInPython_of_ne hT.not_modules]
  refine wpAny_bind (wpAny_specialOf hT PySem.F.slot_dict_getitem.lookup ?_)
  have fin : wpAny (model X.prog X.w) X.A (subscripted slice false (.ref a) u) (fun r s₃ => wpAny (model X.prog X.w) X.A (letTemporaryGo value (.ref a) r >>= fun _ => pure r) (EP X pins σ Q) X.xe s₃) X.xe s := by
    rw [hs]
    exact wpAny_operating (dgx_get (Nat.lt_of_le_of_lt (by omega) hu) I g ry fun w' s3 I3 rw' => wpAny_bind (wpAny_letTemporaryGo (wpAny_pure ⟨z, H, I3, rw', q⟩)))
  first
    | exact wpAny_pure (wpAny_bind fin)
    | exact wpAny_bind (wpAny_pure (wpAny_bind fin))
    | exact wpAny_bind fin
end
section
variable {X : Cx} {pos : Pos}
end
end Cv

/-! Points of a curve from 0 to 1 lie wherever all seats lie, if what lies there is convex -/
namespace Cv
noncomputable def trQ (a b c : Pt) : Rat := (b.1 - a.1) * (c.2 - a.2) - (b.2 - a.2) * (c.1 - a.1)
noncomputable def lxQ (a b : Pt) : Prop := a.1 < b.1 ∨ (a.1 = b.1 ∧ a.2 ≤ b.2)
/-- a place over two bottoms -/
noncomputable def ovr (Px Py : Int) (p : Pl) : Pt := (Rat.divInt p.1 Px, Rat.divInt p.2 Py)
theorem trQ_ovr {Px Py : Int} (hx : 0 < Px) (hy : 0 < Py) (a b c : Pl) : trQ (ovr Px Py a) (ovr Px Py b) (ovr Px Py c) * ((Px : Rat) * (Py : Rat)) = ((tr a b c : Int) : Rat) := by
  have hx' : (Px : Rat) ≠ 0 := by exact_mod_cast (by omega : Px ≠ 0)
  have hy' : (Py : Rat) ≠ 0 := by exact_mod_cast (by omega : Py ≠ 0)
  unfold trQ ovr tr
  simp only [Rat.divInt_eq_div, Rat.intCast_sub, Rat.intCast_mul]
  grind
end Cv

/-! The corners of a hull: both ways round, all places on their left -/
namespace Cv
noncomputable def ng (p : Pl) : Pl := (-p.1, -p.2)
theorem tr_ng (a b c : Pl) : tr (ng a) (ng b) (ng c) = tr a b c := by unfold tr ng; grind
theorem ng_ng (p : Pl) : ng (ng p) = p := by unfold ng; simp
theorem lxP_ng {a b : Pl} (h : lxP a b) : lxP (ng b) (ng a) := by unfold lxP ng at *; simp only; omega
theorem popR_ng (p : Pl) : ∀ R : List Pl, popR (ng p) (R.map ng) = (popR p R).map ng
  | [] => rfl
  | [_] => rfl
  | b :: a :: r => by
    show (if tr (ng a) (ng b) (ng p) ≤ 0 then popR (ng p) ((a :: r).map ng) else _) = List.map ng (if tr a b p ≤ 0 then popR p (a :: r) else b :: a :: r)
    rw [tr_ng]
    by_cases h : tr a b p ≤ 0
    · rw [if_pos h, if_pos h]; exact popR_ng p (a :: r)
    · rw [if_neg h, if_neg h]; rfl
theorem wayR_ng (l : List Pl) : wayR (l.map ng) = (wayR l).map ng := by
  unfold wayR
  suffices H : ∀ R : List Pl, (l.map ng).foldl (fun R p => p :: popR p R) (R.map ng) = (l.foldl (fun R p => p :: popR p R) R).map ng from H []
  induction l with
  | nil => intro R; rfl
  | cons p l ih =>
    intro R
    show List.foldl _ (ng p :: popR (ng p) (R.map ng)) (l.map ng) = _
    rw [popR_ng]
    exact ih (p :: popR p R)
theorem popR_length (p : Pl) : ∀ R : List Pl, (popR p R).length ≤ R.length
  | [] => Nat.le_refl _
  | [_] => Nat.le_refl _
  | b :: a :: r => by
    show (if tr a b p ≤ 0 then popR p (a :: r) else b :: a :: r).length ≤ _
    by_cases h : tr a b p ≤ 0
    · rw [if_pos h]; have := popR_length p (a :: r); simp at *; omega
    · rw [if_neg h]; exact Nat.le_refl _
theorem wayR_length (l : List Pl) : (wayR l).length ≤ l.length := by
  unfold wayR
  suffices H : ∀ R : List Pl, (l.foldl (fun R p => p :: popR p R) R).length ≤ R.length + l.length by simpa using H []
  induction l with
  | nil => intro R; simp
  | cons p l ih =>
    intro R
    have h1 := ih (p :: popR p R)
    have h2 := popR_length p R
    simp only [List.foldl_cons, List.length_cons] at *
    omega
theorem popR_mem (p : Pl) : ∀ (R : List Pl) x, x ∈ popR p R → x ∈ R
  | [], _, h => h
  | [_], _, h => h
  | b :: a :: r, x, h => by
    have h' : x ∈ (if tr a b p ≤ 0 then popR p (a :: r) else b :: a :: r) := h
    by_cases e : tr a b p ≤ 0
    · rw [if_pos e] at h'; exact List.mem_cons_of_mem _ (popR_mem p (a :: r) x h')
    · rw [if_neg e] at h'; exact h'
theorem wayR_snoc (l : List Pl) (p : Pl) : wayR (l ++ [p]) = p :: popR p (wayR l) := by unfold wayR; rw [List.foldl_append]; rfl
theorem wayR_mem {l : List Pl} : ∀ x ∈ wayR l, x ∈ l := by
  unfold wayR
  suffices H : ∀ R : List Pl, ∀ x ∈ l.foldl (fun R p => p :: popR p R) R, x ∈ R ∨ x ∈ l from fun x hx => (H [] x hx).elim (fun h => nomatch h) id
  induction l with
  | nil => intro R x hx; exact .inl hx
  | cons p l ih =>
    intro R x hx
    rcases ih (p :: popR p R) x hx with h | h
    · rcases List.mem_cons.mp h with rfl | h
      · exact .inr (by simp)
      · exact .inl (popR_mem p R x h)
    · exact .inr (List.mem_cons_of_mem _ h)
noncomputable def g0 (l : List Pl) (i : Nat) : Pl := l.getD i (0, 0)
theorem g0_get {l : List Pl} {i : Nat} (h : i < l.length) : l[i]? = some (g0 l i) := by
  unfold g0
  rw [List.getD_eq_getElem?_getD, List.getElem?_eq_getElem h]; rfl
theorem g0_mem {l : List Pl} {i : Nat} (h : i < l.length) : g0 l i ∈ l := List.mem_of_getElem? (g0_get h)
theorem ed_ix {Ps : List Pl} : ∀ {R : List Pl}, Ed Ps R → ∀ i, i + 1 < R.length → ∀ q ∈ Ps, 0 ≤ tr (g0 R (i + 1)) (g0 R i) q
  | [], _, i, h => by simp at h
  | [_], _, i, h => by simp at h
  | b :: a :: r, h, 0, _ => h.1
  | b :: a :: r, h, i + 1, hi => fun q hq => ed_ix h.2 i (by simpa using hi) q hq
theorem g0_rev {R : List Pl} {i : Nat} (h : i < R.length) : g0 R.reverse i = g0 R (R.length - 1 - i) := by
  unfold g0
  rw [List.getD_eq_getElem?_getD, List.getD_eq_getElem?_getD, List.getElem?_reverse h]
theorem ed_rev {Ps R : List Pl} (h : Ed Ps R) (i : Nat) (hi : i + 1 < R.reverse.length) : ∀ q ∈ Ps, 0 ≤ tr (g0 R.reverse i) (g0 R.reverse (i + 1)) q := by
  rw [List.length_reverse] at hi
  rw [g0_rev (by omega), g0_rev (by omega)]
  have := ed_ix h (R.length - 1 - (i + 1)) (by omega)
  rwa [show R.length - 1 - (i + 1) + 1 = R.length - 1 - i by omega] at this
/-- round both ways, each without its end -/
noncomputable def rnd (L U : List Pl) : List Pl := L.dropLast ++ U.dropLast
theorem rnd_length (L U : List Pl) : (rnd L U).length = (L.length - 1) + (U.length - 1) := by unfold rnd; simp
theorem rnd_l {L U : List Pl} {i : Nat} (h : i < L.length - 1) : g0 (rnd L U) i = g0 L i := by
  unfold g0 rnd
  rw [List.getD_eq_getElem?_getD, List.getD_eq_getElem?_getD, List.getElem?_append_left (by simpa using h), List.getElem?_dropLast, if_pos h]
theorem rnd_u {L U : List Pl} {i : Nat} (h : L.length - 1 ≤ i) (h2 : i < (L.length - 1) + (U.length - 1)) : g0 (rnd L U) i = g0 U (i - (L.length - 1)) := by
  unfold g0 rnd
  rw [List.getD_eq_getElem?_getD, List.getD_eq_getElem?_getD, List.getElem?_append_right (by simpa using h), List.getElem?_dropLast, List.length_dropLast, if_pos (by omega)]
theorem rnd_cyc {L U : List Pl} {R : Pl → Pl → Prop} (hL : ∀ i, i + 1 < L.length → R (g0 L i) (g0 L (i + 1))) (hU : ∀ i, i + 1 < U.length → R (g0 U i) (g0 U (i + 1))) (l2 : 2 ≤ L.length) (u2 : 2 ≤ U.length)
    (e1 : g0 L (L.length - 1) = g0 U 0) (e2 : g0 U (U.length - 1) = g0 L 0) : ∀ i, i < (rnd L U).length → R (g0 (rnd L U) i) (g0 (rnd L U) ((i + 1) % (rnd L U).length)) := by
  intro i hi
  rw [rnd_length] at *
  by_cases h1 : i + 1 < L.length - 1
  · rw [Nat.mod_eq_of_lt (by omega), rnd_l (by omega), rnd_l h1]; exact hL i (by omega)
  · by_cases h2 : i + 1 = L.length - 1
    · rw [Nat.mod_eq_of_lt (by omega), rnd_l (by omega), rnd_u (by omega) (by omega), show i + 1 - (L.length - 1) = 0 by omega, ← e1, ← h2]; exact hL i (by omega)
    · by_cases h3 : i + 1 < (L.length - 1) + (U.length - 1)
      · rw [Nat.mod_eq_of_lt h3, rnd_u (by omega) (by omega), rnd_u (by omega) h3, show i + 1 - (L.length - 1) = i - (L.length - 1) + 1 by omega]; exact hU _ (by omega)
      · rw [show i + 1 = (L.length - 1) + (U.length - 1) by omega, Nat.mod_self, rnd_u (by omega) (by omega), rnd_l (by omega), ← e2]
        have := hU (i - (L.length - 1)) (by omega)
        rwa [show i - (L.length - 1) + 1 = U.length - 1 by omega] at this
/-- the corners of the places pl, that come in order -/
noncomputable def crn (pl : List Pl) : List Pl := rnd (wayR pl).reverse (wayR pl.reverse).reverse
structure Hul (pl cs : List Pl) : Prop where
  two : 2 ≤ cs.length
  len : cs.length ≤ 2 * pl.length
  mem : ∀ c ∈ cs, c ∈ pl
  cyc : ∀ i, i < cs.length → ∀ q ∈ pl, 0 ≤ tr (g0 cs i) (g0 cs ((i + 1) % cs.length)) q
  min : ∀ q ∈ pl, lxE (g0 cs 0) q
  max : cs.length = 2 → ∀ q ∈ pl, lxE q (g0 cs 1)
theorem sorted_min {pl : List Pl} (h : pl.Pairwise lxP) : ∀ q ∈ pl, lxE (g0 pl 0) q := by
  cases pl with
  | nil => intro q hq; cases hq
  | cons a r =>
    intro q hq
    rcases List.mem_cons.mp hq with rfl | hq
    · exact lxE.refl _
    · exact ((List.pairwise_cons.mp h).1 q hq).e
theorem sorted_max {pl : List Pl} (h : pl.Pairwise lxP) : ∀ q ∈ pl, lxE q (g0 pl (pl.length - 1)) := by
  intro q hq
  obtain ⟨i, hi, rfl⟩ := List.getElem_of_mem hq
  have el : g0 pl (pl.length - 1) = pl[pl.length - 1]'(by omega) := by
    have := g0_get (l := pl) (i := pl.length - 1) (by omega)
    rw [List.getElem?_eq_getElem (by omega)] at this
    exact (Option.some.inj this).symm
  rw [el]
  by_cases e : i = pl.length - 1
  · subst e; exact lxE.refl _
  · exact (List.pairwise_iff_getElem.mp h i (pl.length - 1) hi (by omega) (by omega)).e
theorem stk_g0 {Ps R : List Pl} (h : Stk Ps R) : g0 R 0 = g0 Ps (Ps.length - 1) ∧ g0 R (R.length - 1) = g0 Ps 0 := by
  obtain ⟨b, r, rfl, hb⟩ := h.top
  constructor
  · unfold g0
    rw [List.getLast?_eq_getElem?] at hb
    rw [List.getD_eq_getElem?_getD, List.getD_eq_getElem?_getD, hb]; rfl
  · have hb2 := h.bot
    unfold g0
    rw [List.getLast?_eq_getElem?] at hb2
    rw [List.getD_eq_getElem?_getD, hb2, List.getD_eq_getElem?_getD, List.head?_eq_getElem?]
theorem g0_map {l : List Pl} {i : Nat} (h : i < l.length) : g0 (l.map ng) i = ng (g0 l i) := by
  have h1 := g0_get h
  have h2 := g0_get (l := l.map ng) (i := i) (by simpa using h)
  rw [List.getElem?_map, h1] at h2
  exact (Option.some.inj h2).symm
theorem crn_ok {pl : List Pl} (h : pl.Pairwise lxP) (h2 : 2 ≤ pl.length) : Hul pl (crn pl) := by
  have S1 := way_stk h (fun e => by rw [e] at h2; simp at h2)
  have hr : (pl.reverse.map ng).Pairwise lxP := by
    rw [List.pairwise_map, List.pairwise_reverse]
    exact h.imp fun k => lxP_ng k
  have S2 := way_stk hr (fun e => by have := congrArg List.length e; rw [List.length_map, List.length_reverse, List.length_nil] at this; omega)
  rw [wayR_ng] at S2
  generalize e1 : wayR pl = R1 at *
  generalize e2 : wayR pl.reverse = R2 at *
  have hn : lxP (g0 pl 0) (g0 pl (pl.length - 1)) := by
    have a1 := g0_get (l := pl) (i := 0) (by omega)
    have a2 := g0_get (l := pl) (i := pl.length - 1) (by omega)
    rw [List.getElem?_eq_getElem (show 0 < pl.length by omega)] at a1
    rw [List.getElem?_eq_getElem (show pl.length - 1 < pl.length by omega)] at a2
    rw [← Option.some.inj a1, ← Option.some.inj a2]
    exact List.pairwise_iff_getElem.mp h 0 (pl.length - 1) (by omega) (by omega) (by omega)
  have hne : g0 pl 0 ≠ g0 pl (pl.length - 1) := fun e => by rw [← e] at hn; unfold lxP at hn; omega
  obtain ⟨t1, b1⟩ := stk_g0 S1
  obtain ⟨t2, b2⟩ := stk_g0 S2
  have r1 : 2 ≤ R1.length := by
    rcases R1 with _ | ⟨x, _ | ⟨y, r⟩⟩
    · exact absurd rfl S1.ne
    · exact absurd (b1.symm.trans t1) hne
    · simp
  have inj : ∀ a b : Pl, ng a = ng b → a = b := fun a b e => by rw [← ng_ng a, e, ng_ng]
  have l2 : (R2.map ng).length = R2.length := List.length_map ..
  have z2 : 0 < R2.length := by
    have := S2.ne
    rcases R2 with _ | ⟨x, r⟩
    · exact absurd rfl this
    · simp
  have t2' : g0 R2 0 = g0 pl 0 := by
    refine inj _ _ ?_
    rw [← g0_map z2, t2, List.length_map, List.length_reverse, g0_map (by rw [List.length_reverse]; omega), g0_rev (by omega), show pl.length - 1 - (pl.length - 1) = 0 by omega]
  have b2' : g0 R2 (R2.length - 1) = g0 pl (pl.length - 1) := by
    refine inj _ _ ?_
    rw [← g0_map (by omega), ← l2, b2, g0_map (by rw [List.length_reverse]; omega), g0_rev (by omega), Nat.sub_zero]
  have r2 : 2 ≤ R2.length := by
    rcases R2 with _ | ⟨x, _ | ⟨y, r⟩⟩
    · simp at z2
    · exact absurd (t2'.symm.trans b2') hne
    · simp
  have L1 : R1.reverse.length = R1.length := List.length_reverse
  have L2 : R2.reverse.length = R2.length := List.length_reverse
  have m2 : ∀ x ∈ R2, x ∈ pl := fun x hx => by
    have := S2.mem (ng x) (List.mem_map_of_mem hx)
    obtain ⟨y, hy, ey⟩ := List.mem_map.mp this
    rw [← inj _ _ ey]; exact List.mem_reverse.mp hy
  have E2 : ∀ i, i + 1 < R2.reverse.length → ∀ q ∈ pl, 0 ≤ tr (g0 R2.reverse i) (g0 R2.reverse (i + 1)) q := fun i hi q hq => by
    have := ed_rev S2.ed i (by rw [List.length_reverse, l2, ← L2]; exact hi) (ng q) (List.mem_map_of_mem (List.mem_reverse.mpr hq))
    rw [← List.map_reverse, g0_map (by omega), g0_map hi, tr_ng] at this
    exact this
  have er : crn pl = rnd R1.reverse R2.reverse := by unfold crn; rw [e1, e2]
  have w1 : R1.length ≤ pl.length := by rw [← e1]; exact wayR_length pl
  have w2 : R2.length ≤ pl.length := by rw [← e2]; have := wayR_length pl.reverse; rwa [List.length_reverse] at this
  have c0 : g0 (rnd R1.reverse R2.reverse) 0 = g0 pl 0 := by rw [rnd_l (by omega), g0_rev (by omega), Nat.sub_zero]; exact b1
  have cm : ∀ c ∈ rnd R1.reverse R2.reverse, c ∈ pl := fun c hc => by
    rcases List.mem_append.mp hc with hc | hc
    · exact S1.mem c (List.mem_reverse.mp ((List.dropLast_sublist _).subset hc))
    · exact m2 c (List.mem_reverse.mp ((List.dropLast_sublist _).subset hc))
  rw [er]
  refine ⟨by rw [rnd_length]; omega, by rw [rnd_length]; omega, cm, fun i hi => ?_, fun q hq => ?_, fun e q hq => ?_⟩
  · refine rnd_cyc (R := fun a b => ∀ q ∈ pl, 0 ≤ tr a b q) (ed_rev S1.ed) E2 (by omega) (by omega) ?_ ?_ i hi
    · rw [g0_rev (by omega), L1, Nat.sub_self, t1, g0_rev (by omega), Nat.sub_zero, b2']
    · rw [g0_rev (by omega), L2, Nat.sub_self, t2', g0_rev (by omega), Nat.sub_zero, b1]
  · rw [c0]; exact sorted_min h q hq
  · rw [rnd_length] at e
    rw [rnd_u (by omega) (by omega), show 1 - (R1.reverse.length - 1) = 0 by omega, g0_rev (by omega), Nat.sub_zero, b2']
    exact sorted_max h q hq
end Cv

/-! Hulls of points: a curve's points from 0 to 1 lie in them -/
namespace Cv
noncomputable def gq (l : List Pt) (i : Nat) : Pt := l.getD i (0, 0)
theorem gq_get {l : List Pt} {i : Nat} (h : i < l.length) : l[i]? = some (gq l i) := by
  unfold gq
  rw [List.getD_eq_getElem?_getD, List.getElem?_eq_getElem h]; rfl
theorem gq_mem {l : List Pt} {i : Nat} (h : i < l.length) : gq l i ∈ l := List.mem_of_getElem? (gq_get h)
theorem gq_ovr {Px Py : Int} {l : List Pl} {i : Nat} (h : i < l.length) : gq (l.map (ovr Px Py)) i = ovr Px Py (g0 l i) := by
  have h2 := gq_get (l := l.map (ovr Px Py)) (i := i) (by simpa using h)
  rw [List.getElem?_map, g0_get h] at h2
  exact (Option.some.inj h2).symm
theorem ratpos {P : Int} (h : 0 < P) : (0 : Rat) < (P : Rat) := by exact_mod_cast h
theorem trQ_nn {Px Py : Int} (hx : 0 < Px) (hy : 0 < Py) (a b c : Pl) : 0 ≤ trQ (ovr Px Py a) (ovr Px Py b) (ovr Px Py c) ↔ 0 ≤ tr a b c := by
  have e := trQ_ovr hx hy a b c
  have hp : (0 : Rat) < (Px : Rat) * (Py : Rat) := Rat.mul_pos (ratpos hx) (ratpos hy)
  constructor
  · intro h
    have : (0 : Rat) ≤ ((tr a b c : Int) : Rat) := by rw [← e]; exact Rat.mul_nonneg h (Rat.le_of_lt hp)
    exact_mod_cast this
  · intro h
    have h' : (0 : Rat) ≤ ((tr a b c : Int) : Rat) := by exact_mod_cast h
    rw [← e] at h'
    rcases (Rat.le_total : 0 ≤ (trQ (ovr Px Py a) (ovr Px Py b) (ovr Px Py c)) ∨ _) with k | k
    · exact k
    · have : trQ (ovr Px Py a) (ovr Px Py b) (ovr Px Py c) * ((Px : Rat) * (Py : Rat)) = 0 := by
        have h3 := Rat.mul_nonneg (show 0 ≤ - trQ (ovr Px Py a) (ovr Px Py b) (ovr Px Py c) by grind) (Rat.le_of_lt hp)
        grind
      rcases Rat.mul_eq_zero.mp this with z | z
      · rw [z]; exact Rat.le_refl
      · grind
theorem trQ_zero {Px Py : Int} (hx : 0 < Px) (hy : 0 < Py) (a b c : Pl) : trQ (ovr Px Py a) (ovr Px Py b) (ovr Px Py c) = 0 ↔ tr a b c = 0 := by
  have e := trQ_ovr hx hy a b c
  have hp : (0 : Rat) < (Px : Rat) * (Py : Rat) := Rat.mul_pos (ratpos hx) (ratpos hy)
  constructor
  · intro h
    rw [h, Rat.zero_mul] at e
    exact_mod_cast e.symm
  · intro h
    rw [h] at e
    rcases Rat.mul_eq_zero.mp (by simpa using e) with z | z
    · exact z
    · grind
theorem div_inj {x y P : Int} (hP : 0 < P) (h : Rat.divInt x P = Rat.divInt y P) : x = y := by
  have hP' : (P : Rat) ≠ 0 := by have := ratpos hP; grind
  rw [Rat.divInt_eq_div, Rat.divInt_eq_div] at h
  have : (x : Rat) = (y : Rat) := by grind
  exact_mod_cast this
theorem div_lt {x y P : Int} (hP : 0 < P) : Rat.divInt x P < Rat.divInt y P ↔ x < y := by
  constructor
  · intro h
    rcases Int.lt_or_le x y with k | k
    · exact k
    · exact absurd h (Rat.not_lt.mpr (div_le hP k))
  · intro h
    by_cases k : Rat.divInt x P < Rat.divInt y P
    · exact k
    · have k := Rat.not_lt.mp k
      have := div_inj hP (Rat.le_antisymm (div_le hP (Int.le_of_lt h)) k)
      omega
theorem lxQ_ovr {Px Py : Int} (hx : 0 < Px) (hy : 0 < Py) (a b : Pl) : lxQ (ovr Px Py a) (ovr Px Py b) ↔ lxE a b := by
  unfold lxQ lxE ovr
  simp only
  rw [div_lt hx]
  constructor
  · rintro (h | ⟨h, k⟩)
    · exact .inl h
    · refine .inr ⟨div_inj hx h, ?_⟩
      rcases Int.lt_or_le b.2 a.2 with z | z
      · exact absurd ((div_lt hy).mpr z) (Rat.not_lt.mpr k)
      · exact z
  · rintro (h | ⟨h, k⟩)
    · exact .inl h
    · exact .inr ⟨by rw [h], div_le hy k⟩
theorem ovr_inj {Px Py : Int} (hx : 0 < Px) (hy : 0 < Py) {a b : Pl} (h : ovr Px Py a = ovr Px Py b) : a = b :=
  Prod.ext (div_inj hx (congrArg Prod.fst h)) (div_inj hy (congrArg Prod.snd h))
/-- the point p lies in the hull told by the corners cs -/
structure InQ (cs : List Pt) (p : Pt) : Prop where
  one : cs.length = 1 → p = gq cs 0
  two : cs.length = 2 → trQ (gq cs 0) (gq cs 1) p = 0 ∧ lxQ (gq cs 0) p ∧ lxQ p (gq cs 1)
  cyc : 2 ≤ cs.length → ∀ i, i < cs.length → 0 ≤ trQ (gq cs i) (gq cs ((i + 1) % cs.length)) p
/-- the corners cs of the hull of the points ps -/
structure HulQ (ps cs : List Pt) : Prop where
  ne : 1 ≤ cs.length
  len : cs.length ≤ 2 * ps.length
  mem : ∀ c ∈ cs, c ∈ ps
  all : ∀ p ∈ ps, InQ cs p
theorem trQ_flip (a b c : Pt) : trQ b a c = - trQ a b c := by unfold trQ; grind
theorem InQ.of {cs : List Pt} {p : Pt} (h1 : cs.length = 1 → p = gq cs 0) (hc : 2 ≤ cs.length → ∀ i, i < cs.length → 0 ≤ trQ (gq cs i) (gq cs ((i + 1) % cs.length)) p) (hm : cs.length = 2 → lxQ (gq cs 0) p ∧ lxQ p (gq cs 1)) : InQ cs p :=
  ⟨h1, fun e => ⟨by
    have c0 := hc (by omega) 0 (by omega)
    have c1 := hc (by omega) 1 (by omega)
    rw [e] at c0 c1
    rw [show (1 + 1) % 2 = 0 from rfl, trQ_flip] at c1
    rw [show (0 + 1) % 2 = 1 from rfl] at c0
    grind, hm e⟩, hc⟩
/-- corners found by the places over two bottoms -/
theorem HulQ.two {Px Py : Int} (hx : 0 < Px) (hy : 0 < Py) {pl0 pl cs : List Pl} (h : Hul pl cs) (hm : ∀ p, p ∈ pl ↔ p ∈ pl0) (hl : pl.length ≤ pl0.length) : HulQ (pl0.map (ovr Px Py)) (cs.map (ovr Px Py)) := by
  have h2 := h.two
  have hlen := h.len
  have el : (cs.map (ovr Px Py)).length = cs.length := List.length_map ..
  refine ⟨by omega, by rw [List.length_map, List.length_map]; omega, fun c hc => ?_, fun p hp => ?_⟩
  · obtain ⟨x, hx', rfl⟩ := List.mem_map.mp hc
    exact List.mem_map_of_mem ((hm x).mp (h.mem x hx'))
  · obtain ⟨x, hx', rfl⟩ := List.mem_map.mp hp
    have hxm := (hm x).mpr hx'
    refine .of (fun e => by omega) (fun _ i hi => ?_) fun e => ?_
    · rw [el] at hi ⊢
      rw [gq_ovr hi, gq_ovr (Nat.mod_lt _ (by omega)), trQ_nn hx hy]
      exact h.cyc i hi x hxm
    · rw [el] at e
      rw [gq_ovr (by omega), gq_ovr (by omega), lxQ_ovr hx hy, lxQ_ovr hx hy]
      exact ⟨h.min x hxm, h.max e x hxm⟩
theorem HulQ.single {ps : List Pt} {p : Pt} (h : ∀ q ∈ ps, q = p) (hp : p ∈ ps) : HulQ ps [p] := by
  have : 1 ≤ ps.length := by cases ps with | nil => cases hp | cons a r => simp
  refine ⟨by simp, by simp; omega, fun c hc => by rw [List.mem_singleton.mp hc]; exact hp, fun q hq => ⟨fun _ => h q hq, fun e => by simp at e, fun e => by simp at e⟩⟩
end Cv

namespace Cv
open PySem PySem.Spec PyProof.Rows L2
theorem u8 {n : Nat} (h : n + 64 < cLine) : n + 8 < cLine := by omega
noncomputable def SzPl (n : Nat) (p : Pl) : Prop := Sz n p.1 ∧ Sz n p.2
/-! ### promises of hulls -/
noncomputable def spTurn : Sp := fun vs H Q _ => ∃ (u v w : V) (a b c : Pl) (n : Nat), vs = [u, v, w] ∧ RwV H u a.1 a.2 ∧ RwV H v b.1 b.2 ∧ RwV H w c.1 c.2 ∧ n ≤ 1000000 ∧ SzPl n a ∧ SzPl n b ∧ SzPl n c ∧ Q (.int (tr a b c)) H
noncomputable def spHWhole (K : PySem.W.Frag) : Sp := fun vs H Q _ => ∃ (a : Addr) (ws : List V) (ps : List Pt) (D : Int) (m : Nat), vs = [.ref a] ∧ SqL K H a ws ∧ PtsV H ws ps ∧ 0 < D ∧ Sz 9000 D ∧ (∀ p ∈ ps, ((p.1.den : Int) ∣ D ∧ Bd m p.1) ∧ (p.2.den : Int) ∣ D ∧ Bd m p.2) ∧ m ≤ 9000 ∧ ps.length ≤ 40 ∧
  ∀ (l : Addr) (us : List V) (pl : List Pl) (Px Py : Int) (H' : Hp), Same H H' → H l = none → H' l = some (.lst us) → PlsV H' us pl → 0 < Px → 0 < Py → ps = pl.map (ovr Px Py) → (∀ p ∈ pl, SzPl (m + 9000) p) → Q (.ref l) H'
noncomputable def spLeftWay (K : PySem.W.Frag) : Sp := fun vs H Q _ => ∃ (a : Addr) (us : List V) (pl : List Pl) (n : Nat), vs = [.ref a] ∧ SqL K H a us ∧ PlsV H us pl ∧ (∀ p ∈ pl, SzPl n p) ∧ n ≤ 20000 ∧ pl.length ≤ 40 ∧
  ∀ (l : Addr) (vs : List V) (H' : Hp), Same H H' → H l = none → H' l = some (.lst vs) → PlsV H' vs (wayR pl).reverse → Q (.ref l) H'
theorem pls_pairs {H : Hp} {us : List V} {t1 t2 : List Int} (hl : us.length = min t1.length t2.length) (h : PairsL H us (t1.map V.int) (t2.map V.int)) : PlsV H us (t1.zip t2) := by
  refine ⟨by rw [hl, List.length_zip], fun i v p e1 e2 => ?_⟩
  obtain ⟨T, rfl, hT⟩ := h i v e1
  rw [List.getElem?_zip_eq_some] at e2
  rw [List.getElem?_map, List.getElem?_map, e2.1, e2.2] at hT
  exact ⟨T, rfl, hT⟩
theorem pts_ovr : ∀ {ps : List Pt} {t1 t2 : List Int} {P1 P2 : Int}, ps.map (·.1) = t1.map (fun x => Rat.divInt x P1) → ps.map (·.2) = t2.map (fun x => Rat.divInt x P2) → ps = (t1.zip t2).map (ovr P1 P2)
  | [], [], _, _, _, _, _ => rfl
  | [], _ :: _, _, _, _, h, _ => by simp at h
  | _ :: _, [], _, _, _, h, _ => by simp at h
  | _ :: _, _ :: _, [], _, _, _, h => by simp at h
  | p :: ps, a :: t1, b :: t2, P1, P2, h1, h2 => by
    simp only [List.map_cons, List.cons.injEq] at h1 h2
    rw [List.zip_cons_cons, List.map_cons, ← pts_ovr h1.2 h2.2]
    exact congrArg (· :: ps) (Prod.ext h1.1 h2.1)
theorem zip_szp {n : Nat} {t1 t2 : List Int} (h1 : ∀ x ∈ t1, Sz n x) (h2 : ∀ x ∈ t2, Sz n x) : ∀ p ∈ t1.zip t2, SzPl n p := fun p hp => ⟨h1 _ (List.of_mem_zip hp).1, h2 _ (List.of_mem_zip hp).2⟩
theorem atI_end2 {α : Type} (xs : List α) (v : α) (h : xs[xs.length - 2]? = some v) (hl : 2 ≤ xs.length) : atI xs (-2) = some v := by
  have e : ixN xs.length (-2) = some (xs.length - 2) := by
    unfold ixN
    rw [if_neg (by decide), if_pos (by omega)]
    exact congrArg some (by omega)
  show ((ixN xs.length (-2)).bind fun j => xs[j]?) = some v
  rw [e]; exact h
/-! ### the stack in the heap, its top last -/
theorem PlsV.dropLast {H : Hp} {vs : List V} {pl : List Pl} (h : PlsV H vs pl) : PlsV H vs.dropLast pl.dropLast := by
  refine ⟨by rw [List.length_dropLast, List.length_dropLast, h.len], fun i v p e1 e2 => ?_⟩
  rw [List.getElem?_dropLast] at e1 e2
  have hl := h.len
  by_cases hi : i < vs.length - 1
  · rw [if_pos hi] at e1
    rw [if_pos (by omega)] at e2
    exact h.get i v p e1 e2
  · rw [if_neg hi] at e1; cases e1
/-! ### the dict of places -/
theorem putK_keys {κ : Type} [DecidableEq κ] (kvs : List (κ × V)) (k : κ) (v : V) : (putK kvs k v).map (·.1) = if (valV kvs k).isSome = true then kvs.map (·.1) else kvs.map (·.1) ++ [k] := by
  unfold putK
  rw [valV_any]
  by_cases h : (valV kvs k).isSome = true
  · rw [if_pos h, if_pos h, List.map_map]
    refine List.map_congr_left fun kv _ => ?_
    show (if kv.1 = k then (kv.1, v) else kv).1 = kv.1
    by_cases e : kv.1 = k
    · rw [if_pos e]
    · rw [if_neg e]
  · rw [if_neg h, if_neg h, List.map_append]; rfl
theorem valV_mem {κ : Type} [DecidableEq κ] (k : κ) : ∀ kvs : List (κ × V), (valV kvs k).isSome = true ↔ k ∈ kvs.map (·.1)
  | [] => by simp [valV_nil]
  | p :: r => by
    by_cases e : p.1 = k
    · rw [valV_pos e]; simp [e]
    · rw [valV_neg e, valV_mem k r]; simp [Ne.symm e]
theorem dz_keys (pl : List Pl) (ys : List V) : ∀ i, i ≤ pl.length → ∃ ks : List Pl, (dz pl ys i).map (·.1) = ks.map pk ∧ (∀ p, p ∈ ks ↔ p ∈ pl.take i) ∧ ks.length ≤ i
  | 0, _ => ⟨[], rfl, fun p => by simp, Nat.le_refl _⟩
  | i + 1, h => by
    obtain ⟨ks, e1, e2, e3⟩ := dz_keys pl ys i (by omega)
    have hp := g0_get (l := pl) (i := i) (by omega)
    have et : pl.take (i + 1) = pl.take i ++ [g0 pl i] := by rw [List.take_succ, hp]; rfl
    have ek : (dz pl ys (i + 1)).map (·.1) = if g0 pl i ∈ ks then ks.map pk else (ks ++ [g0 pl i]).map pk := by
      show (putK (dz pl ys i) (pk (g0 pl i)) _).map (·.1) = _
      rw [putK_keys, e1]
      have hm : (valV (dz pl ys i) (pk (g0 pl i))).isSome = true ↔ g0 pl i ∈ ks := by
        rw [valV_mem, e1]
        constructor
        · intro h
          obtain ⟨q, hq, eq⟩ := List.mem_map.mp h
          rw [← pk_inj eq]; exact hq
        · exact fun h => List.mem_map_of_mem h
      by_cases hk : g0 pl i ∈ ks
      · rw [if_pos hk, if_pos (hm.mpr hk)]
      · rw [if_neg hk, if_neg (fun z => hk (hm.mp z)), List.map_append]; rfl
    by_cases hk : g0 pl i ∈ ks
    · rw [if_pos hk] at ek
      refine ⟨ks, ek, fun p => ?_, by omega⟩
      rw [et, List.mem_append, ← e2 p, List.mem_singleton]
      exact ⟨.inl, fun z => z.elim id fun e => e ▸ hk⟩
    · rw [if_neg hk] at ek
      refine ⟨ks ++ [g0 pl i], ek, fun p => ?_, by simp; omega⟩
      rw [et, List.mem_append, List.mem_append, e2 p]
theorem dz_val (pl : List Pl) (ys : List V) : ∀ i, i ≤ pl.length → i ≤ ys.length → ∀ p ∈ pl.take i, ∃ (j : Nat) (v : V), pl[j]? = some p ∧ ys[j]? = some v ∧ valV (dz pl ys i) (pk p) = some v
  | 0, _, _, p, hp => by simp at hp
  | i + 1, h1, h2, p, hp => by
    have hg := g0_get (l := pl) (i := i) (by omega)
    have et : pl.take (i + 1) = pl.take i ++ [g0 pl i] := by rw [List.take_succ, hg]; rfl
    have ey : ys[i]? = some (ys[i]'(by omega)) := List.getElem?_eq_getElem _
    have ev : valV (dz pl ys (i + 1)) (pk p) = if pk p = pk (g0 pl i) then some (ys[i]'(by omega)) else valV (dz pl ys i) (pk p) := by
      show valV (putK (dz pl ys i) (pk (g0 pl i)) ((ys[i]?).getD .non)) (pk p) = _
      rw [valV_put, ey]; rfl
    by_cases e : p = g0 pl i
    · refine ⟨i, _, by rw [e]; exact hg, ey, ?_⟩
      rw [ev, if_pos (by rw [e])]
    · rw [et] at hp
      have hp' : p ∈ pl.take i := (List.mem_append.mp hp).elim id fun z => absurd (List.mem_singleton.mp z) e
      obtain ⟨j, v, q1, q2, q3⟩ := dz_val pl ys i (by omega) (by omega) p hp'
      refine ⟨j, v, q1, q2, ?_⟩
      rw [ev, if_neg (fun z => e (pk_inj z))]; exact q3
theorem wayR_pos {l : List Pl} (h : 1 ≤ l.length) : 1 ≤ (wayR l).length := by
  rcases List.eq_nil_or_concat l with rfl | ⟨ys, y, rfl⟩
  · simp at h
  · rw [List.concat_eq_append, wayR_snoc]; simp
theorem cut_drop {us : List V} (h : 1 ≤ us.length) : cutV us none (some (-1)) = us.dropLast := by rw [cut_butlast us h, List.dropLast_eq_take]
theorem plsrev {H : Hp} {vs : List V} {pl : List Pl} (h : PlsV H vs pl) : PlsV H vs.reverse pl.reverse := by
  refine ⟨by rw [List.length_reverse, List.length_reverse, h.len], fun i v p e1 e2 => ?_⟩
  have hl := h.len
  have hi : i < vs.length := by have := (List.getElem?_eq_some_iff.mp e1).1; rwa [List.length_reverse] at this
  rw [List.getElem?_reverse hi] at e1
  rw [List.getElem?_reverse (by omega), ← hl] at e2
  exact h.get _ v p e1 e2
theorem plsapp {H : Hp} {vs ws : List V} {pl ql : List Pl} (h : PlsV H vs pl) (k : PlsV H ws ql) : PlsV H (vs ++ ws) (pl ++ ql) := by
  refine ⟨by rw [List.length_append, List.length_append, h.len, k.len], fun i v p e1 e2 => ?_⟩
  have hl := h.len
  by_cases hi : i < vs.length
  · rw [List.getElem?_append_left hi] at e1
    rw [List.getElem?_append_left (by omega)] at e2
    exact h.get i v p e1 e2
  · rw [List.getElem?_append_right (by omega)] at e1 e2
    rw [← hl] at e2
    exact k.get _ v p e1 e2
/-- what the law and the program ask of places over two bottoms -/
structure InZ (pl : List Pl) (s : Pl) : Prop where
  one : pl.length = 1 → s = g0 pl 0
  two : pl.length = 2 → tr (g0 pl 0) (g0 pl 1) s = 0 ∧ lxE (g0 pl 0) s ∧ lxE s (g0 pl 1)
  cyc : 2 ≤ pl.length → ∀ i, i < pl.length → 0 ≤ tr (g0 pl i) (g0 pl ((i + 1) % pl.length)) s
theorem InQ.z {pl : List Pl} {s : Pl} {Px Py : Int} (hx : 0 < Px) (hy : 0 < Py) (h : InQ (pl.map (ovr Px Py)) (ovr Px Py s)) : InZ pl s := by
  have el : (pl.map (ovr Px Py)).length = pl.length := List.length_map ..
  refine ⟨fun e => ?_, fun e => ?_, fun e i hi => ?_⟩
  · have := h.one (by rw [el]; exact e)
    rw [gq_ovr (by omega)] at this
    exact ovr_inj hx hy this
  · have := h.two (by rw [el]; exact e)
    rwa [gq_ovr (by omega), gq_ovr (by omega), trQ_zero hx hy, lxQ_ovr hx hy, lxQ_ovr hx hy] at this
  · have := h.cyc (by rw [el]; exact e) i (by rw [el]; exact hi)
    rw [el] at this
    rwa [gq_ovr hi, gq_ovr (Nat.mod_lt _ (by omega)), trQ_nn hx hy] at this
section
variable {X : Cx}
end
theorem lxE_or {a b : Pl} (h : lxE a b) : lxP a b ∨ a = b := by
  unfold lxE at h; unfold lxP
  by_cases e1 : a.1 = b.1
  · by_cases e2 : a.2 = b.2
    · exact .inr (Prod.ext e1 e2)
    · left; omega
  · left; omega
/-! ### the law's own -/
/-- between two places on a line -/
theorem atI_pred {us : List V} {k : Nat} (hk : k < us.length) : atI us ((k : Int) - 1) = us[(k + us.length - 1) % us.length]? := by
  have hl : (k + us.length - 1) % us.length < us.length := Nat.mod_lt _ (by omega)
  cases k with
  | zero =>
    have e : (0 + us.length - 1) % us.length = us.length - 1 := by rw [Nat.zero_add]; exact Nat.mod_eq_of_lt (by omega)
    rw [e]
    have h : us[us.length - 1]? = some (us[us.length - 1]'(by omega)) := List.getElem?_eq_getElem _
    rw [h]
    exact atI_last' us _ h (by omega)
  | succ j =>
    have e : (j + 1 + us.length - 1) % us.length = j := by rw [show j + 1 + us.length - 1 = j + us.length by omega, Nat.add_mod_right]; exact Nat.mod_eq_of_lt (by omega)
    rw [e]
    have h : us[j]? = some (us[j]'(by omega)) := List.getElem?_eq_getElem _
    rw [h]
    exact atI_nat' (by omega) h
end Cv

/-! Corners of a hull: each once, each a strict turn to the left; the corners hang on the points alone -/
namespace Cv
/-- strictly to the left, the top first -/
noncomputable def SL : List Pl → Prop
  | b :: a :: z :: r => 0 < tr z a b ∧ SL (a :: z :: r)
  | _ => True
theorem SL.tail : ∀ {b : Pl} {R : List Pl}, SL (b :: R) → SL R
  | _, [], _ => trivial
  | _, [_], _ => trivial
  | _, _ :: _ :: _, h => h.2
theorem popR_sl (p : Pl) : ∀ {R : List Pl}, SL R → SL (popR p R)
  | [], _ => trivial
  | [_], _ => trivial
  | b :: a :: r, h => by
    show SL (if tr a b p ≤ 0 then popR p (a :: r) else b :: a :: r)
    by_cases e : tr a b p ≤ 0
    · rw [if_pos e]; exact popR_sl p h.tail
    · rw [if_neg e]; exact h
theorem popR_top (p : Pl) : ∀ {R : List Pl} {a z : Pl} {r : List Pl}, popR p R = a :: z :: r → 0 < tr z a p
  | [], _, _, _, e => by cases e
  | [_], _, _, _, e => by cases e
  | b :: a :: r, a', z', r', e => by
    have e' : (if tr a b p ≤ 0 then popR p (a :: r) else b :: a :: r) = a' :: z' :: r' := e
    by_cases h : tr a b p ≤ 0
    · rw [if_pos h] at e'; exact popR_top p e'
    · rw [if_neg h] at e'; cases e'; omega
theorem push_sl (p : Pl) {R : List Pl} (h : SL R) : SL (p :: popR p R) := by
  have h1 := popR_sl p h
  rcases e : popR p R with _ | ⟨a, _ | ⟨z, r⟩⟩
  · trivial
  · trivial
  · rw [e] at h1
    exact ⟨popR_top p e, h1⟩
theorem wayR_sl (l : List Pl) : SL (wayR l) := by
  unfold wayR
  suffices H : ∀ R : List Pl, SL R → SL (l.foldl (fun R p => p :: popR p R) R) from H [] trivial
  induction l with
  | nil => exact fun R h => h
  | cons p l ih => exact fun R h => ih _ (push_sl p h)
theorem sl_ix : ∀ {R : List Pl}, SL R → ∀ i, i + 2 < R.length → 0 < tr (g0 R (i + 2)) (g0 R (i + 1)) (g0 R i)
  | [], _, i, h => by simp at h
  | [_], _, i, h => by simp at h
  | [_, _], _, i, h => by simp only [List.length_cons, List.length_nil] at h; omega
  | b :: a :: z :: r, h, 0, _ => h.1
  | b :: a :: z :: r, h, i + 1, hi => sl_ix h.2 i (by simpa using hi)
theorem sl_rev {R : List Pl} (h : SL R) (i : Nat) (hi : i + 2 < R.length) : 0 < tr (g0 R.reverse i) (g0 R.reverse (i + 1)) (g0 R.reverse (i + 2)) := by
  rw [g0_rev (by omega), g0_rev (by omega), g0_rev (by omega)]
  have := sl_ix h (R.length - 1 - (i + 2)) (by omega)
  rwa [show R.length - 1 - (i + 2) + 2 = R.length - 1 - i by omega, show R.length - 1 - (i + 2) + 1 = R.length - 1 - (i + 1) by omega] at this
/-- u, v in one half of the plane, on one line: w strictly left of u is not left of .. -/
theorem crn_half {ux uy vx vy wx wy : Int} (hu : 0 < ux ∨ (ux = 0 ∧ 0 < uy)) (hv : 0 < vx ∨ (vx = 0 ∧ 0 < vy)) (h0 : ux * vy - uy * vx = 0) (h1 : 0 < ux * wy - uy * wx) : wx * vy - wy * vx < 0 := by
  have e1 : ux * (wx * vy - wy * vx) = wx * (ux * vy - uy * vx) - vx * (ux * wy - uy * wx) := by grind
  have e2 : uy * (wx * vy - wy * vx) = wy * (ux * vy - uy * vx) - vy * (ux * wy - uy * wx) := by grind
  rw [h0, Int.mul_zero, Int.zero_sub] at e1 e2
  rcases Int.lt_or_le (wx * vy - wy * vx) 0 with h | h
  · exact h
  · exfalso
    rcases hu with hu | ⟨rfl, hu⟩
    · have p := Int.mul_nonneg (Int.le_of_lt hu) h
      rcases hv with hv | ⟨rfl, hv⟩
      · have := Int.mul_pos hv h1; omega
      · rw [Int.mul_zero, Int.sub_zero] at h0
        have := Int.mul_pos hu hv; omega
    · have p := Int.mul_nonneg (Int.le_of_lt hu) h
      rcases hv with hv | ⟨rfl, hv⟩
      · have := Int.mul_pos hu hv
        rw [Int.zero_mul] at h0; omega
      · have := Int.mul_pos hv h1; omega
/-- no place is a corner of both ways, but their ends -/
theorem crn_twice {a x b c : Pl} (h1 : lxP a x) (h2 : lxP x c) (t1 : 0 < tr a x b) (t2 : 0 ≤ tr x b c) (t3 : 0 ≤ tr c x a) (t4 : 0 ≤ tr a x c) : False := by
  have e4 : tr c x a = - tr a x c := by unfold tr; grind
  have z : tr a x c = 0 := by omega
  have := crn_half (ux := x.1 - a.1) (uy := x.2 - a.2) (vx := c.1 - x.1) (vy := c.2 - x.2) (wx := b.1 - x.1) (wy := b.2 - x.2) (by unfold lxP at h1; omega) (by unfold lxP at h2; omega) ?_ ?_
  · have e : tr x b c = (b.1 - x.1) * (c.2 - x.2) - (b.2 - x.2) * (c.1 - x.1) := rfl
    omega
  · have e : tr a x c = (x.1 - a.1) * (c.2 - x.2) - (x.2 - a.2) * (c.1 - x.1) := by unfold tr; grind
    omega
  · have e : tr a x b = (x.1 - a.1) * (b.2 - x.2) - (x.2 - a.2) * (b.1 - x.1) := by unfold tr; grind
    omega
/-- places on one line through two -/
theorem crn_line {p m a b c : Pl} (h : p ≠ m) (ha : tr p m a = 0) (hb : tr p m b = 0) (hc : tr p m c = 0) : tr a b c = 0 := by
  have e1 : (m.1 - p.1) * tr a b c = (b.1 - a.1) * (tr p m c - tr p m a) - (c.1 - a.1) * (tr p m b - tr p m a) := by unfold tr; grind
  have e2 : (m.2 - p.2) * tr a b c = (b.2 - a.2) * (tr p m c - tr p m a) - (c.2 - a.2) * (tr p m b - tr p m a) := by unfold tr; grind
  rw [ha, hb, hc] at e1 e2
  simp only [Int.sub_self, Int.mul_zero] at e1 e2
  rcases Int.mul_eq_zero.mp e1 with z | z
  · rcases Int.mul_eq_zero.mp e2 with y | y
    · exact absurd (Prod.ext (by omega) (by omega)) h
    · exact y
  · exact z
/-- both ways meet at m: if they do not turn there, all lies on one line -/
theorem crn_joint {p m q r : Pl} (hp : lxP p m) (hq : lxP q m) (h0 : tr p m q = 0) (h1 : 0 ≤ tr p m r) (h2 : 0 ≤ tr m q r) : tr p m r = 0 := by
  rcases Int.lt_or_le 0 (tr p m r) with h | h
  · exfalso
    have := crn_half (ux := m.1 - p.1) (uy := m.2 - p.2) (vx := m.1 - q.1) (vy := m.2 - q.2) (wx := r.1 - m.1) (wy := r.2 - m.2) (by unfold lxP at hp; omega) (by unfold lxP at hq; omega) ?_ ?_
    · have e : tr m q r = (r.1 - m.1) * (m.2 - q.2) - (r.2 - m.2) * (m.1 - q.1) := by unfold tr; grind
      omega
    · have e : tr p m q = - ((m.1 - p.1) * (m.2 - q.2) - (m.2 - p.2) * (m.1 - q.1)) := by unfold tr; grind
      omega
    · have e : tr p m r = (m.1 - p.1) * (r.2 - m.2) - (m.2 - p.2) * (r.1 - m.1) := by unfold tr; grind
      omega
  · omega
theorem crn_joint' {p m q r : Pl} (hp : lxP m p) (hq : lxP m q) (h0 : tr p m q = 0) (h1 : 0 ≤ tr p m r) (h2 : 0 ≤ tr m q r) : tr p m r = 0 := by
  have := crn_joint (p := ng p) (m := ng m) (q := ng q) (r := ng r) (lxP_ng hp) (lxP_ng hq) (by rw [tr_ng]; exact h0) (by rw [tr_ng]; exact h1) (by rw [tr_ng]; exact h2)
  rwa [tr_ng] at this
/-- both ways round -/
structure Ways (pl L U : List Pl) : Prop where
  l2 : 2 ≤ L.length
  u2 : 2 ≤ U.length
  up : ∀ i j, i < j → j < L.length → lxP (g0 L i) (g0 L j)
  dn : ∀ i j, i < j → j < U.length → lxP (g0 U j) (g0 U i)
  eL : ∀ i, i + 1 < L.length → ∀ q ∈ pl, 0 ≤ tr (g0 L i) (g0 L (i + 1)) q
  eU : ∀ i, i + 1 < U.length → ∀ q ∈ pl, 0 ≤ tr (g0 U i) (g0 U (i + 1)) q
  sL : ∀ i, i + 2 < L.length → 0 < tr (g0 L i) (g0 L (i + 1)) (g0 L (i + 2))
  sU : ∀ i, i + 2 < U.length → 0 < tr (g0 U i) (g0 U (i + 1)) (g0 U (i + 2))
  mL : ∀ x ∈ L, x ∈ pl
  mU : ∀ x ∈ U, x ∈ pl
  e1 : g0 L (L.length - 1) = g0 U 0
  e2 : g0 U (U.length - 1) = g0 L 0
theorem pw_g0 {R : Pl → Pl → Prop} {l : List Pl} (h : l.Pairwise R) {i j : Nat} (hij : i < j) (hj : j < l.length) : R (g0 l i) (g0 l j) := by
  have a1 := g0_get (l := l) (i := i) (by omega)
  have a2 := g0_get (l := l) (i := j) hj
  rw [List.getElem?_eq_getElem (by omega)] at a1 a2
  rw [← Option.some.inj a1, ← Option.some.inj a2]
  exact List.pairwise_iff_getElem.mp h i j (by omega) hj hij
theorem crn_ways {pl : List Pl} (h : pl.Pairwise lxP) (h2 : 2 ≤ pl.length) : Ways pl (wayR pl).reverse (wayR pl.reverse).reverse := by
  have S1 := way_stk h (fun e => by rw [e] at h2; simp at h2)
  have hr : (pl.reverse.map ng).Pairwise lxP := by
    rw [List.pairwise_map, List.pairwise_reverse]
    exact h.imp fun k => lxP_ng k
  have S2 := way_stk hr (fun e => by have := congrArg List.length e; rw [List.length_map, List.length_reverse, List.length_nil] at this; omega)
  rw [wayR_ng] at S2
  have q1 := wayR_sl pl
  have q2 := wayR_sl pl.reverse
  generalize e1 : wayR pl = R1 at *
  generalize e2 : wayR pl.reverse = R2 at *
  have hne : g0 pl 0 ≠ g0 pl (pl.length - 1) := fun e => by
    have := pw_g0 h (i := 0) (j := pl.length - 1) (by omega) (by omega)
    rw [← e] at this; unfold lxP at this; omega
  obtain ⟨t1, b1⟩ := stk_g0 S1
  obtain ⟨t2, b2⟩ := stk_g0 S2
  have r1 : 2 ≤ R1.length := by
    rcases R1 with _ | ⟨x, _ | ⟨y, r⟩⟩
    · exact absurd rfl S1.ne
    · exact absurd (b1.symm.trans t1) hne
    · simp
  have inj : ∀ a b : Pl, ng a = ng b → a = b := fun a b e => by rw [← ng_ng a, e, ng_ng]
  have l2 : (R2.map ng).length = R2.length := List.length_map ..
  have z2 : 0 < R2.length := by
    have := S2.ne
    rcases R2 with _ | ⟨x, r⟩
    · exact absurd rfl this
    · simp
  have t2' : g0 R2 0 = g0 pl 0 := by
    refine inj _ _ ?_
    rw [← g0_map z2, t2, List.length_map, List.length_reverse, g0_map (by rw [List.length_reverse]; omega), g0_rev (by omega), show pl.length - 1 - (pl.length - 1) = 0 by omega]
  have b2' : g0 R2 (R2.length - 1) = g0 pl (pl.length - 1) := by
    refine inj _ _ ?_
    rw [← g0_map (by omega), ← l2, b2, g0_map (by rw [List.length_reverse]; omega), g0_rev (by omega), Nat.sub_zero]
  have r2 : 2 ≤ R2.length := by
    rcases R2 with _ | ⟨x, _ | ⟨y, r⟩⟩
    · simp at z2
    · exact absurd (t2'.symm.trans b2') hne
    · simp
  have L1 : R1.reverse.length = R1.length := List.length_reverse
  have L2 : R2.reverse.length = R2.length := List.length_reverse
  have d1 : R1.reverse.Pairwise lxP := List.pairwise_reverse.mpr S1.dc
  have d2 : R2.reverse.Pairwise (fun a b => lxP b a) := by
    rw [List.pairwise_reverse]
    have := S2.dc
    rw [List.pairwise_map] at this
    exact this.imp fun {a b} k => by have := lxP_ng (show lxP (ng b) (ng a) from k); rwa [ng_ng, ng_ng] at this
  refine ⟨by omega, by omega, fun i j hij hj => pw_g0 d1 hij hj, fun i j hij hj => pw_g0 d2 hij hj, ed_rev S1.ed, fun i hi q hq => ?_, fun i hi => sl_rev q1 i (by omega), fun i hi => sl_rev q2 i (by omega), fun x hx => S1.mem x (List.mem_reverse.mp hx), fun x hx => ?_, ?_, ?_⟩
  · have := ed_rev S2.ed i (by rw [List.length_reverse, l2, ← L2]; exact hi) (ng q) (List.mem_map_of_mem (List.mem_reverse.mpr hq))
    rw [← List.map_reverse, g0_map (by omega), g0_map hi, tr_ng] at this
    exact this
  · have := S2.mem (ng x) (List.mem_map_of_mem (List.mem_reverse.mp hx))
    obtain ⟨y, hy, ey⟩ := List.mem_map.mp this
    rw [← inj _ _ ey]; exact List.mem_reverse.mp hy
  · rw [g0_rev (by omega), L1, Nat.sub_self, t1, g0_rev (by omega), Nat.sub_zero, b2']
  · rw [g0_rev (by omega), L2, Nat.sub_self, t2', g0_rev (by omega), Nat.sub_zero, b1]
theorem lxP_irr {a : Pl} (h : lxP a a) : False := by unfold lxP at h; omega
theorem Ways.nodup {pl L U : List Pl} (W : Ways pl L U) : (rnd L U).Nodup := by
  have hl := W.l2
  have hu := W.u2
  refine List.pairwise_iff_getElem.mpr fun i j hi hj hij e => ?_
  have hg : ∀ k (hk : k < (rnd L U).length), (rnd L U)[k] = g0 (rnd L U) k := fun k hk => by
    have a1 := g0_get (l := rnd L U) (i := k) hk
    rw [List.getElem?_eq_getElem hk] at a1
    exact Option.some.inj a1
  rw [hg i hi, hg j hj] at e
  rw [rnd_length] at hi hj
  by_cases c1 : j < L.length - 1
  · rw [rnd_l (by omega), rnd_l c1] at e
    have := W.up i j hij (by omega)
    rw [e] at this; exact lxP_irr this
  · by_cases c2 : L.length - 1 ≤ i
    · rw [rnd_u c2 (by omega), rnd_u (by omega) hj] at e
      have := W.dn (i - (L.length - 1)) (j - (L.length - 1)) (by omega) (by omega)
      rw [e] at this; exact lxP_irr this
    · rw [rnd_l (by omega), rnd_u (by omega) hj] at e
      generalize hk : j - (L.length - 1) = k at *
      have h0 : i ≠ 0 := fun z => by
        subst z
        have := W.dn k (U.length - 1) (by omega) (by omega)
        rw [W.e2, e] at this; exact lxP_irr this
      have k0 : k ≠ 0 := fun z => by
        subst z
        have := W.up i (L.length - 1) (by omega) (by omega)
        rw [W.e1, e] at this; exact lxP_irr this
      have mU1 := W.mU _ (g0_mem (l := U) (i := k - 1) (by omega))
      have mL1 := W.mL _ (g0_mem (l := L) (i := i - 1) (by omega))
      have a1 := W.up (i - 1) i (by omega) (by omega)
      have a2 := W.dn (k - 1) k (by omega) (by omega)
      have a3 := W.sL (i - 1) (by omega)
      have a4 := W.eL i (by omega) _ mU1
      have a5 := W.eU (k - 1) (by omega) _ mL1
      have a6 := W.eL (i - 1) (by omega) _ mU1
      rw [show i - 1 + 1 = i by omega] at a3 a6
      rw [show i - 1 + 2 = i + 1 by omega] at a3
      rw [show k - 1 + 1 = k by omega] at a5
      rw [← e] at a2 a5
      exact crn_twice a1 a2 a3 a4 a5 a6
theorem Ways.strict {pl L U : List Pl} (W : Ways pl L U) (h3 : 3 ≤ (rnd L U).length) : ∀ k, k < (rnd L U).length → 0 < tr (g0 (rnd L U) ((k + (rnd L U).length - 2) % (rnd L U).length)) (g0 (rnd L U) ((k + (rnd L U).length - 1) % (rnd L U).length)) (g0 (rnd L U) k) := by
  have hl := W.l2
  have hu := W.u2
  rw [rnd_length] at h3
  have flat : ∀ p m : Pl, p ≠ m → (∀ r ∈ pl, tr p m r = 0) → False := fun p m hne hall => by
    have any : ∀ a b c, a ∈ pl → b ∈ pl → c ∈ pl → tr a b c = 0 := fun a b c ha hb hc => crn_line hne (hall a ha) (hall b hb) (hall c hc)
    by_cases c : 3 ≤ L.length
    · have := W.sL 0 (by omega)
      rw [any _ _ _ (W.mL _ (g0_mem (by omega))) (W.mL _ (g0_mem (by omega))) (W.mL _ (g0_mem (by omega)))] at this
      omega
    · have := W.sU 0 (by omega)
      rw [any _ _ _ (W.mU _ (g0_mem (by omega))) (W.mU _ (g0_mem (by omega))) (W.mU _ (g0_mem (by omega)))] at this
      omega
  have top : 0 < tr (g0 L (L.length - 2)) (g0 U 0) (g0 U 1) := by
    have a1 := W.up (L.length - 2) (L.length - 1) (by omega) (by omega)
    rw [W.e1] at a1
    have a2 := W.dn 0 1 (by omega) (by omega)
    have a3 : ∀ r ∈ pl, 0 ≤ tr (g0 L (L.length - 2)) (g0 U 0) r := fun r hr => by
      have := W.eL (L.length - 2) (by omega) r hr
      rwa [show L.length - 2 + 1 = L.length - 1 by omega, W.e1] at this
    have a4 := a3 _ (W.mU _ (g0_mem (l := U) (i := 1) (by omega)))
    rcases Int.lt_or_le 0 (tr (g0 L (L.length - 2)) (g0 U 0) (g0 U 1)) with h | h
    · exact h
    · exact (flat _ _ (fun e => by rw [e] at a1; exact lxP_irr a1) fun r hr => crn_joint a1 a2 (by omega) (a3 r hr) (W.eU 0 (by omega) r hr)).elim
  have bot : 0 < tr (g0 U (U.length - 2)) (g0 L 0) (g0 L 1) := by
    have a1 := W.dn (U.length - 2) (U.length - 1) (by omega) (by omega)
    rw [W.e2] at a1
    have a2 := W.up 0 1 (by omega) (by omega)
    have a3 : ∀ r ∈ pl, 0 ≤ tr (g0 U (U.length - 2)) (g0 L 0) r := fun r hr => by
      have := W.eU (U.length - 2) (by omega) r hr
      rwa [show U.length - 2 + 1 = U.length - 1 by omega, W.e2] at this
    have a4 := a3 _ (W.mL _ (g0_mem (l := L) (i := 1) (by omega)))
    rcases Int.lt_or_le 0 (tr (g0 U (U.length - 2)) (g0 L 0) (g0 L 1)) with h | h
    · exact h
    · exact (flat _ _ (fun e => by rw [e] at a1; exact lxP_irr a1) fun r hr => crn_joint' a1 a2 (by omega) (a3 r hr) (W.eL 0 (by omega) r hr)).elim
  have atL : ∀ j, j ≤ L.length - 1 → g0 (rnd L U) j = g0 L j := fun j hj => by
    by_cases c : j < L.length - 1
    · exact rnd_l c
    · rw [rnd_u (by omega) (by omega), show j - (L.length - 1) = 0 by omega, ← W.e1, show L.length - 1 = j by omega]
  have atU : ∀ j, L.length - 1 ≤ j → j < (L.length - 1) + (U.length - 1) → g0 (rnd L U) j = g0 U (j - (L.length - 1)) := fun j h1 h2 => rnd_u h1 h2
  intro k hk
  rw [rnd_length] at *
  generalize hn : L.length - 1 + (U.length - 1) = n at *
  by_cases k2 : 2 ≤ k
  · rw [show k + n - 2 = k - 2 + n by omega, show k + n - 1 = k - 1 + n by omega, Nat.add_mod_right, Nat.add_mod_right, Nat.mod_eq_of_lt (by omega), Nat.mod_eq_of_lt (by omega)]
    by_cases c1 : k ≤ L.length - 1
    · rw [atL _ (by omega), atL _ (by omega), atL _ c1]
      have := W.sL (k - 2) (by omega)
      rwa [show k - 2 + 1 = k - 1 by omega, show k - 2 + 2 = k by omega] at this
    · by_cases c2 : L.length - 1 ≤ k - 2
      · rw [atU _ c2 (by omega), atU _ (by omega) (by omega), atU _ (by omega) (by omega)]
        have := W.sU (k - 2 - (L.length - 1)) (by omega)
        rwa [show k - 2 - (L.length - 1) + 1 = k - 1 - (L.length - 1) by omega, show k - 2 - (L.length - 1) + 2 = k - (L.length - 1) by omega] at this
      · rw [atL _ (by omega), atU _ (by omega) (by omega), atU _ (by omega) (by omega), show k - 2 = L.length - 2 by omega, show k - 1 - (L.length - 1) = 0 by omega, show k - (L.length - 1) = 1 by omega]
        exact top
  · by_cases k0 : k = 0
    · subst k0
      rw [Nat.zero_add, Nat.mod_eq_of_lt (by omega), Nat.mod_eq_of_lt (by omega), atL 0 (by omega), atU (n - 1) (by omega) (by omega)]
      by_cases c : L.length - 1 ≤ n - 2
      · rw [atU _ c (by omega), ← W.e2]
        have := W.sU (n - 2 - (L.length - 1)) (by omega)
        rwa [show n - 2 - (L.length - 1) + 1 = n - 1 - (L.length - 1) by omega, show n - 2 - (L.length - 1) + 2 = U.length - 1 by omega] at this
      · rw [atL _ (by omega), show n - 2 = L.length - 2 by omega, show n - 1 - (L.length - 1) = 0 by omega, ← W.e2, show U.length - 1 = 1 by omega]
        exact top
    · have k1 : k = 1 := by omega
      subst k1
      rw [show 1 + n - 2 = n - 1 by omega, show 1 + n - 1 = n by omega, Nat.mod_self, Nat.mod_eq_of_lt (by omega), atL 0 (by omega), atL 1 (by omega), atU (n - 1) (by omega) (by omega), show n - 1 - (L.length - 1) = U.length - 2 by omega]
      exact bot
end Cv

namespace Cv
/-! ### places taken times: the corners stay -/
noncomputable def sc (a b : Int) (p : Pl) : Pl := (p.1 * a, p.2 * b)
theorem tr_sc (a b : Int) (x y z : Pl) : tr (sc a b x) (sc a b y) (sc a b z) = tr x y z * (a * b) := by unfold tr sc; grind
theorem tr_sc_le {a b : Int} (ha : 0 < a) (hb : 0 < b) (x y z : Pl) : tr (sc a b x) (sc a b y) (sc a b z) ≤ 0 ↔ tr x y z ≤ 0 := by
  rw [tr_sc]
  have hp := Int.mul_pos ha hb
  constructor
  · intro h
    rcases Int.lt_or_le 0 (tr x y z) with k | k
    · have := Int.mul_pos k hp; omega
    · exact k
  · intro h
    have := Int.mul_nonneg (show 0 ≤ - tr x y z by omega) (Int.le_of_lt hp)
    rw [Int.neg_mul] at this; omega
theorem popR_sc {a b : Int} (ha : 0 < a) (hb : 0 < b) (p : Pl) : ∀ R : List Pl, popR (sc a b p) (R.map (sc a b)) = (popR p R).map (sc a b)
  | [] => rfl
  | [_] => rfl
  | y :: x :: r => by
    show (if tr (sc a b x) (sc a b y) (sc a b p) ≤ 0 then popR (sc a b p) ((x :: r).map (sc a b)) else _) = List.map (sc a b) (if tr x y p ≤ 0 then popR p (x :: r) else y :: x :: r)
    by_cases h : tr x y p ≤ 0
    · rw [if_pos h, if_pos ((tr_sc_le ha hb ..).mpr h)]; exact popR_sc ha hb p (x :: r)
    · rw [if_neg h, if_neg (fun z => h ((tr_sc_le ha hb ..).mp z))]; rfl
theorem wayR_sc {a b : Int} (ha : 0 < a) (hb : 0 < b) (l : List Pl) : wayR (l.map (sc a b)) = (wayR l).map (sc a b) := by
  unfold wayR
  suffices H : ∀ R : List Pl, (l.map (sc a b)).foldl (fun R p => p :: popR p R) (R.map (sc a b)) = (l.foldl (fun R p => p :: popR p R) R).map (sc a b) from H []
  induction l with
  | nil => intro R; rfl
  | cons p l ih =>
    intro R
    show List.foldl _ (sc a b p :: popR (sc a b p) (R.map (sc a b))) (l.map (sc a b)) = _
    rw [popR_sc ha hb]
    exact ih (p :: popR p R)
/-- the corners of places that come in order, one too -/
noncomputable def crn1 (qs : List Pl) : List Pl := if qs.length = 1 then qs else crn qs
theorem crn1_sc {a b : Int} (ha : 0 < a) (hb : 0 < b) (qs : List Pl) : crn1 (qs.map (sc a b)) = (crn1 qs).map (sc a b) := by
  unfold crn1
  rw [List.length_map]
  by_cases h : qs.length = 1
  · rw [if_pos h, if_pos h]
  · rw [if_neg h, if_neg h]
    unfold crn rnd
    rw [wayR_sc ha hb, ← List.map_reverse, ← List.map_reverse, wayR_sc ha hb, ← List.map_reverse, List.map_append, List.map_dropLast, List.map_dropLast]
theorem ovr_sc {P Q a b : Int} (ha : a ≠ 0) (hb : b ≠ 0) (hP : P ≠ 0) (hQ : Q ≠ 0) (p : Pl) : ovr (P * a) (Q * b) (sc a b p) = ovr P Q p := by
  have h : ∀ x P a : Int, a ≠ 0 → P ≠ 0 → Rat.divInt (x * a) (P * a) = Rat.divInt x P := fun x P a ha hP => by
    have ha' : (a : Rat) ≠ 0 := by exact_mod_cast ha
    have hP' : (P : Rat) ≠ 0 := by exact_mod_cast hP
    rw [Rat.divInt_eq_div, Rat.divInt_eq_div, Rat.intCast_mul, Rat.intCast_mul]
    grind
  exact Prod.ext (h _ _ _ ha hP) (h _ _ _ hb hQ)
theorem lxP_sc {a b : Int} (ha : 0 < a) (hb : 0 < b) {x y : Pl} (h : lxP x y) : lxP (sc a b x) (sc a b y) := by
  unfold lxP sc at *
  simp only
  rcases h with h | ⟨h, k⟩
  · exact .inl (Int.mul_lt_mul_of_pos_right h ha)
  · exact .inr ⟨by rw [h], Int.mul_lt_mul_of_pos_right k hb⟩
theorem sorted_eq {l m : List Pl} (hl : l.Pairwise lxP) (hm : m.Pairwise lxP) (h : ∀ p, p ∈ l ↔ p ∈ m) : l = m := by
  have nd : ∀ {l : List Pl}, l.Pairwise lxP → l.Nodup := fun h => h.imp fun k e => by rw [e] at k; exact lxP_irr k
  have hp : l.Perm m := (List.perm_ext_iff_of_nodup (nd hl) (nd hm)).mpr h
  exact hp.eq_of_pairwise (fun a b _ _ h1 h2 => by unfold lxP at h1 h2; omega) hl hm
/-- the corners of the hull of ps, told by the places in order -/
structure HulZ (ps cs : List Pt) : Prop where
  ex : ∃ (Px Py : Int) (qs : List Pl), 0 < Px ∧ 0 < Py ∧ qs.Pairwise lxP ∧ (∀ p, p ∈ ps ↔ p ∈ qs.map (ovr Px Py)) ∧ cs = (crn1 qs).map (ovr Px Py) ∧ 1 ≤ qs.length ∧ qs.length ≤ ps.length
theorem HulZ.one {ps ps' cs cs' : List Pt} (h : HulZ ps cs) (h' : HulZ ps' cs') (e : ∀ p, p ∈ ps ↔ p ∈ ps') : cs = cs' := by
  obtain ⟨Px, Py, qs, hx, hy, hs, hm, rfl, _, _⟩ := h
  obtain ⟨Px', Py', qs', hx', hy', hs', hm', rfl, _, _⟩ := h'
  have k1 : ∀ q, ovr (Px * Px') (Py * Py') (sc Px' Py' q) = ovr Px Py q := fun q => ovr_sc (by omega) (by omega) (by omega) (by omega) q
  have k2 : ∀ q, ovr (Px * Px') (Py * Py') (sc Px Py q) = ovr Px' Py' q := fun q => by
    rw [Int.mul_comm Px, Int.mul_comm Py]; exact ovr_sc (by omega) (by omega) (by omega) (by omega) q
  have pp := Int.mul_pos hx hx'
  have qq := Int.mul_pos hy hy'
  have s1 : (qs.map (sc Px' Py')).Pairwise lxP := by rw [List.pairwise_map]; exact hs.imp fun k => lxP_sc hx' hy' k
  have s2 : (qs'.map (sc Px Py)).Pairwise lxP := by rw [List.pairwise_map]; exact hs'.imp fun k => lxP_sc hx hy k
  have em : qs.map (sc Px' Py') = qs'.map (sc Px Py) := sorted_eq s1 s2 fun p => by
    constructor
    · intro hp
      obtain ⟨q, hq, rfl⟩ := List.mem_map.mp hp
      obtain ⟨q', hq', e'⟩ := List.mem_map.mp ((hm' _).mp ((e _).mp ((hm _).mpr (List.mem_map_of_mem (f := ovr Px Py) hq))))
      rw [← k1, ← k2] at e'
      rw [← ovr_inj pp qq e']
      exact List.mem_map_of_mem hq'
    · intro hp
      obtain ⟨q, hq, rfl⟩ := List.mem_map.mp hp
      obtain ⟨q', hq', e'⟩ := List.mem_map.mp ((hm _).mp ((e _).mpr ((hm' _).mpr (List.mem_map_of_mem (f := ovr Px' Py') hq))))
      rw [← k1, ← k2] at e'
      rw [← ovr_inj pp qq e']
      exact List.mem_map_of_mem hq'
  have c := congrArg (fun l => (crn1 l).map (ovr (Px * Px') (Py * Py'))) em
  simp only [crn1_sc hx' hy', crn1_sc hx hy, List.map_map] at c
  refine Eq.trans (List.map_congr_left fun q _ => (k1 q).symm) (c.trans (List.map_congr_left fun q _ => k2 q))
theorem crn1_two {qs : List Pl} (hs : qs.Pairwise lxP) (h2 : 2 ≤ qs.length) : crn1 qs = crn qs := by unfold crn1; rw [if_neg (by omega)]
theorem HulZ.cases {ps cs : List Pt} (h : HulZ ps cs) : ∃ (Px Py : Int) (qs : List Pl), 0 < Px ∧ 0 < Py ∧ qs.Pairwise lxP ∧ (∀ p, p ∈ ps ↔ p ∈ qs.map (ovr Px Py)) ∧ qs.length ≤ ps.length ∧ ((∃ q, qs = [q] ∧ cs = [ovr Px Py q]) ∨ (2 ≤ qs.length ∧ cs = (crn qs).map (ovr Px Py))) := by
  obtain ⟨Px, Py, qs, hx, hy, hs, hm, rfl, h1, h2⟩ := h
  refine ⟨Px, Py, qs, hx, hy, hs, hm, h2, ?_⟩
  rcases qs with _ | ⟨q, _ | ⟨r, t⟩⟩
  · simp at h1
  · exact .inl ⟨q, rfl, rfl⟩
  · exact .inr ⟨by simp, by rw [crn1_two hs (by simp)]⟩
theorem HulZ.q {ps cs : List Pt} (h : HulZ ps cs) : HulQ ps cs := by
  obtain ⟨Px, Py, qs, hx, hy, hs, hm, hl, ⟨q, rfl, rfl⟩ | ⟨h2, rfl⟩⟩ := h.cases
  · exact HulQ.single (fun p hp => by simpa using (hm p).mp hp) ((hm _).mpr (by simp))
  · have := HulQ.two hx hy (crn_ok hs h2) (fun p => Iff.rfl) (Nat.le_refl _)
    refine ⟨this.ne, ?_, fun c hc => (hm c).mpr (this.mem c hc), fun p hp => this.all p ((hm p).mp hp)⟩
    have := this.len
    rw [List.length_map] at this ⊢
    rw [List.length_map] at this
    omega
theorem HulZ.nodup {ps cs : List Pt} (h : HulZ ps cs) : cs.Nodup := by
  obtain ⟨Px, Py, qs, hx, hy, hs, hm, hl, ⟨q, rfl, rfl⟩ | ⟨h2, rfl⟩⟩ := h.cases
  · simp
  · refine List.pairwise_map.mpr ((crn_ways hs h2).nodup.imp fun k e => k (ovr_inj hx hy e))
theorem trQ_pos {Px Py : Int} (hx : 0 < Px) (hy : 0 < Py) (a b c : Pl) : 0 < trQ (ovr Px Py a) (ovr Px Py b) (ovr Px Py c) ↔ 0 < tr a b c := by
  have h1 := trQ_nn hx hy a b c
  have h2 := trQ_zero hx hy a b c
  constructor
  · intro h
    have := h1.mp (Rat.le_of_lt h)
    have : tr a b c ≠ 0 := fun z => by rw [h2.mpr z] at h; exact absurd h (by decide)
    omega
  · intro h
    have k1 := h1.mpr (by omega)
    have k2 : trQ (ovr Px Py a) (ovr Px Py b) (ovr Px Py c) ≠ 0 := fun z => by have := h2.mp z; omega
    grind
theorem HulZ.strict {ps cs : List Pt} (h : HulZ ps cs) (h3 : 3 ≤ cs.length) : ∀ k, k < cs.length → 0 < trQ (gq cs ((k + cs.length - 2) % cs.length)) (gq cs ((k + cs.length - 1) % cs.length)) (gq cs k) := by
  obtain ⟨Px, Py, qs, hx, hy, hs, hm, hl, ⟨q, rfl, rfl⟩ | ⟨h2, rfl⟩⟩ := h.cases
  · simp at h3
  · intro k hk
    rw [List.length_map] at *
    have := (crn_ways hs h2).strict h3 k hk
    rw [gq_ovr (Nat.mod_lt _ (by omega)), gq_ovr (Nat.mod_lt _ (by omega)), gq_ovr hk, trQ_pos hx hy]
    exact this
theorem HulZ.min {ps cs : List Pt} (h : HulZ ps cs) : ∀ p ∈ ps, lxQ (gq cs 0) p := by
  obtain ⟨Px, Py, qs, hx, hy, hs, hm, hl, ⟨q, rfl, rfl⟩ | ⟨h2, rfl⟩⟩ := h.cases
  · intro p hp
    have : p = ovr Px Py q := by simpa using (hm p).mp hp
    rw [this]
    exact (lxQ_ovr hx hy q q).mpr (lxE.refl q)
  · intro p hp
    obtain ⟨q, hq, rfl⟩ := List.mem_map.mp ((hm p).mp hp)
    have hc := crn_ok hs h2
    have := hc.two
    rw [gq_ovr (by omega), lxQ_ovr hx hy]
    exact hc.min q hq
end Cv

namespace Cv
open PySem PySem.Spec PyProof.Rows L2
/-! ### points (pairs of pairs of whole numbers) as keys of a dict: own rules over the model -/
noncomputable abbrev PK := Pl × Pl
noncomputable def IsPr (h : Heap) (p : Pl) (a : Addr) : Prop := ∃ o t u n, h.get? a = some o ∧ o.cls = .type "tuple" ∧ o.data = .seq #[.int p.1 t, .int p.2 u] n
noncomputable def IsPt (h : Heap) (k : PK) (a : Addr) : Prop := ∃ o b c n, h.get? a = some o ∧ o.cls = .type "tuple" ∧ o.data = .seq #[.ref b, .ref c] n ∧ IsPr h k.1 b ∧ IsPr h k.2 c
theorem tup_items {o : Obj} {xs ys : Array Value} {n m : Nat} (h1 : o.data = .seq xs n) (h2 : o.data = .seq ys m) : xs = ys := by
  rw [h1] at h2
  injection h2
theorem IsPr.inj {h : Heap} {a : Addr} {p q : Pl} (x : IsPr h p a) (y : IsPr h q a) : p = q := by
  obtain ⟨o, t, u, n, e1, _, d1⟩ := x
  obtain ⟨o', t', u', n', e2, _, d2⟩ := y
  rw [e1] at e2
  cases e2
  have := congrArg Array.toList (tup_items d1 d2)
  simp only [List.cons.injEq, Value.int.injEq] at this
  exact Prod.ext this.1.1 this.2.1.1
theorem IsPt.inj {h : Heap} {a : Addr} {x y : PK} (hx : IsPt h x a) (hy : IsPt h y a) : x = y := by
  obtain ⟨o, b, c, n, e1, _, d1, p1, p2⟩ := hx
  obtain ⟨o', b', c', n', e2, _, d2, q1, q2⟩ := hy
  rw [e1] at e2
  cases e2
  have := congrArg Array.toList (tup_items d1 d2)
  simp only [List.cons.injEq, Value.ref.injEq, and_true] at this
  obtain ⟨rfl, rfl⟩ := this
  exact Prod.ext (p1.inj q1) (p2.inj q2)
theorem IsPr.keeps {h h' : Heap} {p : Pl} {a d : Addr} {o : Obj} {es ep} (x : IsPr h p a) (ho : h.get? d = some o) (hd : o.data = .dict es ep) (hs : Heap.SameBut d h h') : IsPr h' p a := by
  obtain ⟨o', t, u, n, e1, c1, d1⟩ := x
  refine ⟨o', t, u, n, ?_, c1, d1⟩
  rw [hs.2 a (fun e => by rw [e, ho] at e1; cases e1; rw [hd] at d1; cases d1)]
  exact e1
theorem IsPt.keeps {h h' : Heap} {k : PK} {a d : Addr} {o : Obj} {es ep} (x : IsPt h k a) (ho : h.get? d = some o) (hd : o.data = .dict es ep) (hs : Heap.SameBut d h h') : IsPt h' k a := by
  obtain ⟨o', b, c, n, e1, c1, d1, p1, p2⟩ := x
  refine ⟨o', b, c, n, ?_, c1, d1, p1.keeps ho hd hs, p2.keeps ho hd hs⟩
  rw [hs.2 a (fun e => by rw [e, ho] at e1; cases e1; rw [hd] at d1; cases d1)]
  exact e1
section
variable {prog : Program} {w : World} {A : Around} {E : Value → Shared → Prop} {s : Shared}
theorem IsPr.key {h : Heap} {p : Pl} {a : Addr} (x : IsPr h p a) : IsTupleKey (intKind prog w) h [p.1, p.2] a := by
  obtain ⟨o, t, u, n, e1, c1, d1⟩ := x
  exact ⟨o, _, n, e1, c1, d1, .cons (by simp [intKind, Value.isInt]) (.cons (by simp [intKind, Value.isInt]) .nil)⟩
theorem pt_eqv (x y : PK) : PyData.eqv (.tuple [.tuple [.int x.1.1, .int x.1.2], .tuple [.int x.2.1, .int x.2.2]]) (.tuple [.tuple [.int y.1.1, .int y.1.2], .tuple [.int y.2.1, .int y.2.2]]) = decide (x = y) := by
  have h := PySem.W.kqd_eqv 8 (.tuple [.tuple [.int x.1.1, .int x.1.2], .tuple [.int x.2.1, .int x.2.2]]) (.tuple [.tuple [.int y.1.1, .int y.1.2], .tuple [.int y.2.1, .int y.2.2]]) 8 (by simp [PySem.W.kqdOk]) (by simp [PySem.W.kqdOk])
  refine Bool.eq_iff_iff.mpr (Iff.trans ?_ (decide_eq_true_iff).symm)
  refine Iff.trans (show _ ↔ _ from h) ?_
  constructor
  · intro e
    simp only [PySem.W.Dat.tuple.injEq, List.cons.injEq, PySem.W.Dat.int.injEq, and_true] at e
    exact Prod.ext (Prod.ext e.1.1 e.1.2) (Prod.ext e.2.1 e.2.2)
  · rintro rfl; rfl
theorem pt_lay (x : PK) : PyData.canLay0 (.tuple [.tuple [.int x.1.1, .int x.1.2], .tuple [.int x.2.1, .int x.2.2]]) = true ∧ PyData.depth (.tuple [.tuple [.int x.1.1, .int x.1.2], .tuple [.int x.2.1, .int x.2.2]]) ≤ 8 :=
  PySem.W.kqd_lay 8 (.tuple [.tuple [.int x.1.1, .int x.1.2], .tuple [.int x.2.1, .int x.2.2]]) (by simp [PySem.W.kqdOk])
theorem IsPt.reads {h : Heap} {k : PK} {a : Addr} (x : IsPt h k a) : ∃ as, Reads h (.ref a) (.tuple [.tuple [.int k.1.1, .int k.1.2], .tuple [.int k.2.1, .int k.2.2]]) as := by
  obtain ⟨o, b, c, n, e1, c1, d1, ⟨o2, t, u, n2, e2, c2, d2⟩, ⟨o3, t3, u3, n3, e3, c3, d3⟩⟩ := x
  exact ⟨_, .tuple e1 c1 d1 (.cons (.tuple e2 c2 d2 (.cons (.int _ _) (.cons (.int _ _) .nil))) (.cons (.tuple e3 c3 d3 (.cons (.int _ _) (.cons (.int _ _) .nil))) .nil))⟩
noncomputable def ptHash (prog : Program) (w : World) (k : PK) : Int := reduceHash (Builtin.Tuple.tupleHashOf [tupleKeyHash (intKind prog w) [k.1.1, k.1.2], tupleKeyHash (intKind prog w) [k.2.1, k.2.2]])
theorem pr_quiet {p : Pl} {a : Addr} {n : Nat} {Q : Bool → Shared → Prop} (hk : IsPr s.heap p a) (h : Q true s) : wpAny (model prog w) A (eqIsQuiet (n + 1) (.ref a)) Q E s := by
  have hT : s.TypeIs (.ref a) "tuple" := by obtain ⟨o, b, c, n, e1, c1, _⟩ := hk; exact ⟨o, e1, c1⟩
  have l1 := F.slot_tuple_eq.lookup
  obtain ⟨⟨oc, od, odt, osl⟩, t, u, m, e1, rfl, rfl⟩ := hk
  unfold eqIsQuiet
  refine wpAny_bind (wpAny_specialOf hT l1 ?_)
  dsimp only
  refine wpAny_bind (wpAny_isInstance hT isSubtype_tuple_tuple ?_)
  rw [if_neg (by simp)]
  refine wpAny_bind (wpAny_bind (wpAny_load e1 ?_))
  refine wpAny_pure ?_
  dsimp only [Option.getD]
  rw [← Array.forIn_toList]
  simp only [List.forIn_cons, List.forIn_nil]
  have q : ∀ (x : Int) (t : Tok), eqIsQuiet n (.int x t) = pure true := fun x t => eqIsQuiet_byValue n rfl
  simp only [q]
  repeat (any_goals (first | assumption | wp_step))
theorem pt_quiet {k : PK} {a : Addr} {Q : Bool → Shared → Prop} (hk : IsPt s.heap k a) (h : Q true s) : wpAny (model prog w) A (eqIsQuiet 8 (.ref a)) Q E s := by
  have hT : s.TypeIs (.ref a) "tuple" := by obtain ⟨o, b, c, n, e1, c1, _⟩ := hk; exact ⟨o, e1, c1⟩
  have l1 := F.slot_tuple_eq.lookup
  obtain ⟨⟨oc, od, odt, osl⟩, b, c, m, e1, rfl, rfl, p1, p2⟩ := hk
  rw [show (8 : Nat) = 6 + 1 + 1 from rfl]
  unfold eqIsQuiet
  refine wpAny_bind (wpAny_specialOf hT l1 ?_)
  dsimp only
  refine wpAny_bind (wpAny_isInstance hT isSubtype_tuple_tuple ?_)
  rw [if_neg (by simp)]
  refine wpAny_bind (wpAny_bind (wpAny_load e1 ?_))
  refine wpAny_pure ?_
  dsimp only [Option.getD]
  rw [← Array.forIn_toList]
  simp only [List.forIn_cons, List.forIn_nil]
  refine wpAny_bind (wpAny_bind (wpAny_bind (pr_quiet p1 ?_)))
  rw [if_neg (by simp)]
  refine wpAny_pure ?_
  refine wpAny_bind (wpAny_bind (pr_quiet p2 ?_))
  rw [if_neg (by simp)]
  repeat (any_goals (first | assumption | wp_step))
theorem pt_eq {x y : PK} {a b : Addr} {Q : Bool → Shared → Prop} (hu : A.units + 8 < cLine) (hx : IsPt s.heap x a) (hy : IsPt s.heap y b) (h : Q (decide (x = y)) s) : wpAny (model prog w) A (PySem.eqBool (.ref a) (.ref b)) Q E s := by
  unfold PySem.eqBool
  refine wpAny_holding ?_
  by_cases e : a = b
  · subst e
    rw [if_pos (by simp)]
    refine wpAny_bind (wpAny_rule (wpAny_pure ?_))
    rw [decide_eq_true (hx.inj hy)] at h
    exact h
  · rw [if_neg (by simpa using e)]
    obtain ⟨as, ra⟩ := hx.reads
    obtain ⟨bs, rb⟩ := hy.reads
    show wpAny (model prog w) A (richCompare .Eq (.ref a) (.ref b) >>= truthOfDropped) Q E s
    refine wpAny_bind ?_
    refine SeqAt.compareEq_reads (prog := prog) (w := w) (A := A) (E := E) (s := s) ra rb (pt_lay x).1 (pt_lay y).1 (by have := (pt_lay x).2; omega) ?_
    rw [pt_eqv]
    repeat (any_goals (first | assumption | wp_step))
theorem pt_hash {k : PK} {a : Addr} {Q : Int → Shared → Prop} (hu : A.units + 8 < cLine) (hk : IsPt s.heap k a) (h : Q (ptHash prog w k) { s with toks := s.toks + 7 }) : wpAny (model prog w) A (PySem.pyHash (.ref a)) Q E s := by
  have hT : s.TypeIs (.ref a) "tuple" := by obtain ⟨o, b, c, n, e1, c1, _⟩ := hk; exact ⟨o, e1, c1⟩
  obtain ⟨o, b, c, n, e1, c1, d1, p1, p2⟩ := hk
  have l1 := F.slot_tuple_hash.lookup
  unfold PySem.pyHash pyHashByItsType
  refine wpAny_bind (wpAny_cRoomFor (by omega) ?_)
  refine wpAny_bind (wpAny_specialOf hT l1 ?_)
  rw [if_neg (by simp)]
  refine wpAny_bind (wpAny_specialOf hT l1 ?_)
  rw [if_neg (by simp)]
  refine wpAny_bind (wpAny_callSpecialIfBoundUnlessNone?_slot hT F.slot_tuple_hash (wpAny_call_entry F.slot_tuple_hash hT F.entry_tuple_hash ?_ (F.args_tuple_hash_1 _)))
  obtain ⟨oc, od, odt, osl⟩ := o
  dsimp only at c1 d1
  subst c1 d1
  unfold Builtin.«tuple.__hash__»
  refine wpAny_bind (wpAny_of_eq (a := (.ref a, [])) rfl ?_)
  refine wpAny_bind (wpAny_tupleItemsOf e1 rfl ?_)
  rw [← Array.forIn_toList]
  simp only [List.forIn_cons, List.forIn_nil]
  refine wpAny_bind (wpAny_bind (wpAny_bind (wpAny_pyHash_tuple (knd := intKind prog w) (by show A.units + 1 < cLine; omega) p1.key ?_)))
  refine wpAny_pure ?_
  refine wpAny_bind (wpAny_bind (wpAny_pyHash_tuple (knd := intKind prog w) (by show A.units + 1 < cLine; omega) (s := { s with toks := s.toks + ([k.1.1, k.1.2].length + 1) }) p2.key ?_))
  refine wpAny_pure (wpAny_pure ?_)
  dsimp only
  unfold retInt
  refine wpAny_bind (wpAny_mkInt' ?_)
  refine wpAny_pure ⟨_, rfl, ?_⟩
  dsimp only
  have key : wpAny (model prog w) A (pyHashByItsType.reduced (Builtin.Tuple.tupleHashOf [tupleKeyHash (intKind prog w) [k.1.1, k.1.2], tupleKeyHash (intKind prog w) [k.2.1, k.2.2]])) Q E { s with toks := s.toks + 7 } := by
    unfold ptHash reduceHash at h
    unfold pyHashByItsType.reduced
    revert h
    generalize Builtin.Tuple.tupleHashOf [tupleKeyHash (intKind prog w) [k.1.1, k.1.2], tupleKeyHash (intKind prog w) [k.2.1, k.2.2]] = z
    intro h
    by_cases hz : (decide (-(2 ^ 63 : Int) ≤ z) && decide (z < 2 ^ 63)) = true
    · rw [if_pos hz] at h ⊢
      exact wpAny_pure h
    · rw [if_neg hz] at h ⊢
      exact wpAny_bind (wpAny_rule (wpAny_pure h))
  exact key
/-- points as keys -/
noncomputable def ptKind (prog : Program) (w : World) : HeapKind prog w PK where
  is := IsPt
  hash := ptHash prog w
  draws := fun _ => 7
  room := fun A => A.units + 8 < cLine
  inj := fun x y => x.inj y
  keeps := fun x ho hd hs => x.keeps ho hd hs
  pyHash := fun hu hk h => pt_hash hu hk h
  eqBool := fun hu hx hy h => pt_eq hu hx hy h
  quiet := fun hk h => pt_quiet hk h
end
end Cv

namespace Cv
open PySem PySem.Spec PyProof.Rows L2
/-! ### a dict whose keys are points, in the heap: own rules -/
noncomputable abbrev PRow := PK × Addr × Addr
noncomputable def rowV (x : PRow) : PK × Addr × Value := (x.1, x.2.1, .ref x.2.2)
/-- a dict whose keys are points: a key, where it lies, where the value lies -/
noncomputable def PD (P : Program) (w : World) (a : Addr) (xs : List PRow) : HO := .ext fun h => xs.length ≤ sizeLine ∧ (a == sysModules) = false ∧
  ∃ o es ep, h.get? a = some o ∧ o.ExactDict ∧ o.data = .dict es ep ∧ es.toList = (xs.map rowV).map (entryOfKey (ptKind P w)) ∧ (xs.map (·.1)).Nodup
/-- a point at b -/
structure PtA (H : Hp) (b : Addr) (k : PK) : Prop where
  ex : ∃ c d, H b = some (.tup [.ref c, .ref d]) ∧ H c = some (.tup [.int k.1.1, .int k.1.2]) ∧ H d = some (.tup [.int k.2.1, .int k.2.2])
structure PDA (P : Program) (w : World) (H : Hp) (a : Addr) (xs : List PRow) : Prop where
  at_ : H a = some (PD P w a xs)
  keys : ∀ x ∈ xs, PtA H x.2.1 x.1
noncomputable def lkP (xs : List PRow) (k : PK) : Option Addr := (xs.find? fun x => decide (x.1 = k)).map (·.2.2)
noncomputable def putP (xs : List PRow) (k : PK) (b v : Addr) : List PRow := if (lkP xs k).isSome then xs.map (fun x => if x.1 = k then (x.1, x.2.1, v) else x) else xs ++ [(k, b, v)]
theorem atKey_row (xs : List PRow) (k : PK) : (atKey (xs.map rowV) k).map (·.2) = (lkP xs k).map Value.ref := by
  unfold atKey lkP
  rw [List.find?_map, Option.map_map, Option.map_map, Option.map_map]
  rfl
theorem atKey_isSome (xs : List PRow) (k : PK) : (atKey (xs.map rowV) k).isSome = (lkP xs k).isSome := by
  have := congrArg Option.isSome (atKey_row xs k)
  simpa using this
theorem stored_row (xs : List PRow) (k : PK) (b v : Addr) : storedH (xs.map rowV) k b (.ref v) = (putP xs k b v).map rowV := by
  unfold storedH putP
  rw [atKey_isSome]
  by_cases h : (lkP xs k).isSome = true
  · rw [if_pos h, if_pos h, List.map_map, List.map_map]
    refine List.map_congr_left fun x _ => ?_
    show putAt k (.ref v) (rowV x) = rowV (if x.1 = k then (x.1, x.2.1, v) else x)
    unfold putAt
    by_cases e : x.1 = k
    · rw [if_pos e, if_pos (show (rowV x).1 = k from e)]; rfl
    · rw [if_neg e, if_neg (show ¬ (rowV x).1 = k from e)]
  · rw [if_neg h, if_neg h, List.map_append]; rfl
theorem putP_length (xs : List PRow) (k : PK) (b v : Addr) : (putP xs k b v).length ≤ xs.length + 1 := by
  unfold putP
  split
  · simp
  · simp
theorem putP_keys {xs : List PRow} {k : PK} {b v : Addr} {C : Addr → PK → Prop} (h : ∀ x ∈ xs, C x.2.1 x.1) (hb : C b k) : ∀ x ∈ putP xs k b v, C x.2.1 x.1 := by
  intro x hx
  unfold putP at hx
  split at hx
  · obtain ⟨y, hy, rfl⟩ := List.mem_map.mp hx
    have := h y hy
    split <;> exact this
  · rcases List.mem_append.mp hx with hx | hx
    · exact h x hx
    · rw [List.mem_singleton.mp hx]; exact hb
theorem rowV_keys (xs : List PRow) : (xs.map rowV).map (·.1) = xs.map (·.1) := by rw [List.map_map]; rfl
section
variable {P : Program} {w : World} {H H' : Hp} {h : Heap} {a b : Addr} {k : PK} {xs : List PRow}
theorem PtA.is (ok : HOk P w H h) (x : PtA H b k) : IsPt h k b := by
  obtain ⟨c, d, e1, e2, e3⟩ := x
  obtain ⟨_, its, r, o, q1, q2, n, q3⟩ := (show ObjOk P w H h b (.tup [.ref c, .ref d]) from ok _ _ e1)
  obtain ⟨u1, u2, rfl, r1, r2⟩ := vals_two r
  cases r1; cases r2
  have pr : ∀ (c : Addr) (p : Pl), H c = some (.tup [.int p.1, .int p.2]) → IsPr h p c := fun c p e => by
    obtain ⟨_, its, r, o, q1, q2, n, q3⟩ := (show ObjOk P w H h c (.tup [.int p.1, .int p.2]) from ok _ _ e)
    obtain ⟨u1, u2, rfl, ⟨t1, rfl⟩, ⟨t2, rfl⟩⟩ := vals_two r
    exact ⟨o, t1, t2, n, q1, q2, q3⟩
  exact ⟨o, c, d, n, q1, q2, q3, pr c _ e2, pr d _ e3⟩
theorem PtA.same (x : PtA H b k) (s : Same H H') : PtA H' b k := by
  obtain ⟨c, d, e1, e2, e3⟩ := x
  exact ⟨c, d, s _ _ e1, s _ _ e2, s _ _ e3⟩
theorem PtA.tup (x : PtA H b k) (s : Tup H H') : PtA H' b k := by
  obtain ⟨c, d, e1, e2, e3⟩ := x
  exact ⟨c, d, s _ _ e1, s _ _ e2, s _ _ e3⟩
theorem PDA.same (x : PDA P w H a xs) (s : Same H H') : PDA P w H' a xs := ⟨s _ _ x.at_, fun y hy => (x.keys y hy).same s⟩
theorem PDA.rd (ok : HOk P w H h) (x : PDA P w H a xs) : xs.length ≤ sizeLine ∧ (a == sysModules) = false ∧ h.DictOfH (ptKind P w) a (xs.map rowV) := by
  obtain ⟨⟨z, hd, o, es, ep, h1, h2, h3, h4, h5⟩, _, _⟩ := (show ObjOk P w H h a (PD P w a xs) from ok _ _ x.at_)
  refine ⟨z, hd, o, es, ep, h1, h2, h3, h4, fun y hy => ?_, by rw [rowV_keys]; exact h5⟩
  obtain ⟨r, hr, rfl⟩ := List.mem_map.mp hy
  exact (x.keys r hr).is ok
theorem PD.new {h' : Heap} (z : xs.length ≤ sizeLine) (hd : (a == sysModules) = false) (dd : h'.DictOfH (ptKind P w) a (xs.map rowV)) : ObjOk P w H h' a (PD P w a xs) := by
  obtain ⟨o, es, ep, h1, h2, h3, h4, _, h5⟩ := dd
  refine ⟨⟨z, hd, o, es, ep, h1, h2, h3, h4, by rw [← rowV_keys]; exact h5⟩, ⟨o, h1⟩, fun g1 g2 q k => ?_⟩
  obtain ⟨z, hd, o, es, ep, h1, r⟩ := q
  exact ⟨z, hd, o, es, ep, k _ h1, r⟩
end
noncomputable def tDNewP (P : Program) (w : World) : TE := fun _ H Q => ∀ p, H p = none → Q (.ref p) (upd H p (PD P w p []))
noncomputable def rNotInP (P : Program) (w : World) : R2 := fun x y H Q => ∃ (a b : Addr) (xs : List PRow) (k : PK), x = .ref b ∧ y = .ref a ∧ PDA P w H a xs ∧ PtA H b k ∧ Q (.bl (!(lkP xs k).isSome)) H
noncomputable def rIxP (P : Program) (w : World) : R2 := fun x y H Q => ∃ (a b v : Addr) (xs : List PRow) (k : PK), x = .ref a ∧ y = .ref b ∧ PDA P w H a xs ∧ PtA H b k ∧ lkP xs k = some v ∧ Q (.ref v) H
noncomputable def rSetP (P : Program) (w : World) : TSet := fun o i v H Q => ∃ (a b c : Addr) (xs : List PRow) (k : PK), o = .ref a ∧ i = .ref b ∧ v = .ref c ∧ PDA P w H a xs ∧ PtA H b k ∧ xs.length < sizeLine ∧ Q (upd H a (PD P w a (putP xs k b c)))
section
variable {X : Cx} {pos : Pos} (P : Program) (w : World)
theorem pe_dnewP (hP : X.prog = P := by rfl) (hw : X.w = w := by rfl) : PE X (.Dict [] [] pos) (tDNewP P w) := by
  subst hP hw
  intro pins s σ H Q I h
  refine wpAny_Dict_empty ⟨.ref s.heap.objs.size, _, I.laid (a := s.heap.objs.size) (o := PD X.prog X.w s.heap.objs.size []) (t' := s.toks) (fun _ _ q => Heap.get?_push_of_some _ q) (Nat.le_refl _) (PD.new (Nat.zero_le _) (beq_eq_false_iff_ne.mpr (Ne.symm (Nat.ne_of_lt I.big))) ?_), rfl, h _ (I.hok.fresh (Nat.le_refl _))⟩
  exact ⟨_, #[], 0, Heap.get?_push_size _ rfl, ⟨rfl, rfl, rfl⟩, rfl, rfl, fun x hx => (by simp at hx), List.nodup_nil⟩
theorem pe_dnewPI (hP : X.prog = P := by rfl) (hw : X.w = w := by rfl) : PEi X (.Dict [] [] pos) (tDNewP P w) := by with_unfolding_all exact pe_dnewP P w hP hw
theorem op_notinP (hu : X.A.units + 64 < cLine) (hP : X.prog = P := by rfl) (hw : X.w = w := by rfl) : OpR X (compareOp .NotIn) (rNotInP P w) := by
  subst hP hw
  intro pins s σ H x y v u Q I rx ry h
  obtain ⟨a, b, xs, k, rfl, rfl, hD, hk, q⟩ := h
  cases rx; cases ry
  obtain ⟨z, hd, dd⟩ := hD.rd I.hok
  refine wpAny_notIn_heap (knd := ptKind X.prog X.w) (show X.A.units + 1 + 8 < cLine by omega) (hk.is I.hok) hd dd ?_
  rw [atKey_isSome]
  exact ⟨.bl _, H, I.tok _, rfl, q⟩
theorem ix_pdict (hu : X.A.units + 64 < cLine) (hP : X.prog = P := by rfl) (hw : X.w = w := by rfl) : IxR X (rIxP P w) := by
  subst hP hw
  intro value slice pins s σ H x y v u Q I rx ry h hs
  obtain ⟨a, b, c, xs, k, rfl, rfl, hD, hk, hl, q⟩ := h
  cases rx; cases ry
  obtain ⟨z, hd, dd⟩ := hD.rd I.hok
  have hT : s.TypeIs (.ref a) "dict" := dd.typeIs
  unfold subscriptTail
  refine wpAny_bind ?_
  rw [getitemInPython_of_ne hT.not_modules]
  refine wpAny_bind (wpAny_specialOf hT PySem.F.slot_dict_getitem.lookup ?_)
  have hp : ∃ p, atKey (xs.map rowV) k = some p ∧ p.2 = .ref c := by
    have := atKey_row xs k
    rw [hl] at this
    obtain ⟨p, e1, e2⟩ := Option.map_eq_some_iff.mp this
    exact ⟨p, e1, e2⟩
  obtain ⟨p, hp, hp2⟩ := hp
  have fin : wpAny (model X.prog X.w) X.A (subscripted slice false (.ref a) (.ref b)) (fun r s₃ => wpAny (model X.prog X.w) X.A (letTemporaryGo value (.ref a) r >>= fun _ => pure r) (EP X pins σ Q) X.xe s₃) X.xe s := by
    rw [hs]
    refine wpAny_operating (wpAny_getItem_heap (knd := ptKind X.prog X.w) (show X.A.units + 1 + 8 < cLine by omega) (hk.is I.hok) dd hp ?_)
    rw [hp2]
    exact wpAny_bind (wpAny_letTemporaryGo (wpAny_pure ⟨.ref c, H, I.tok _, rfl, q⟩))
  first
    | exact wpAny_pure (wpAny_bind fin)
    | exact wpAny_bind (wpAny_pure (wpAny_bind fin))
    | exact wpAny_bind fin
theorem set_pdict (hu : X.A.units + 64 < cLine) (hP : X.prog = P := by rfl) (hw : X.w = w := by rfl) : PSet X (rSetP P w) := by
  subst hP hw
  intro pins s σ H o i v ov iv u Q I ro ri rv h
  obtain ⟨a, b, c, xs, k, rfl, rfl, rfl, hD, hk, hl, q⟩ := h
  cases ro; cases ri; cases rv
  obtain ⟨z, hd, dd⟩ := hD.rd I.hok
  refine wpAny_setItem_heap (hsz := by rw [List.length_map]; exact z) (knd := ptKind X.prog X.w) (show X.A.units + 1 + 8 < cLine by omega) (hk.is I.hok) dd fun h' dd' hs => ?_
  rw [stored_row] at dd'
  have he : ∃ q, h'.get? a = some q := let ⟨q, _, _, hq, _⟩ := dd'; ⟨q, hq⟩
  have hlen := putP_length xs k b c
  exact ⟨_, d_write I (by rw [hD.at_]; exact True.intro) hs he (PD.new (by omega) hd dd'), q⟩
end
end Cv

namespace Cv
open PySem PySem.Spec PyProof.Rows L2
/-! ### a place in a list of places -/
theorem kqdPs_map : ∀ ds : List PySem.W.Dat, PySem.W.kqdPs ds = ds.map PySem.W.kqdP
  | [] => by rw [PySem.W.kqdPs]; rfl
  | d :: ds => by rw [PySem.W.kqdPs, kqdPs_map ds]; rfl
noncomputable def rInPl : R2 := fun x y H Q => ∃ (b l : Addr) (us : List V) (pl : List Pl) (p : Pl), x = .ref b ∧ y = .ref l ∧ H b = some (.tup [.int p.1, .int p.2]) ∧ H l = some (.lst us) ∧ PlsV H us pl ∧ Q (.bl (decide (p ∈ pl))) H
section
variable {X : Cx}
theorem op_inPl (hu : X.A.units + 64 < cLine) : OpR X (compareOp .In) rInPl := by
  intro pins s σ H x y v u Q I rx ry h
  obtain ⟨b, l, us, pl, p, rfl, rfl, hb, hl, hP, q⟩ := h
  obtain ⟨as, r1⟩ := dn_reads I 8 (datPls pl) _ u (dnPls hl hP) ry (datPls_ok pl 6)
  obtain ⟨bs, r2⟩ := dn_reads I 8 (datPl p) _ v (dnPl hb) rx (datPl_ok p 7)
  have l1 := PySem.W.kqd_lay 8 (datPls pl) (datPls_ok pl 6)
  have l2 := PySem.W.kqd_lay 8 (datPl p) (datPl_ok p 7)
  unfold datPls at r1 l1
  rw [PySem.W.kqdP] at r1 l1
  refine SeqAt.in_list_reads r1 r2 (by simpa [PyData.canLay0] using l1.1) l2.1 (by have := l2.2; omega) ?_
  have e : ((PySem.W.kqdPs (pl.map datPl)).any fun y => PyData.eqv y (PySem.W.kqdP (datPl p))) = decide (p ∈ pl) := by
    rw [kqdPs_map, List.map_map, List.any_map]
    refine Bool.eq_iff_iff.mpr ?_
    rw [List.any_eq_true, decide_eq_true_iff]
    constructor
    · rintro ⟨z, hz, ez⟩
      have := (PySem.W.kqd_eqv 8 (datPl z) (datPl p) 8 (datPl_ok z 7) (datPl_ok p 7)).mp ez
      rw [← datPl_inj.mp this]; exact hz
    · intro hp
      exact ⟨p, hp, (PySem.W.kqd_eqv 8 (datPl p) (datPl p) 8 (datPl_ok p 7) (datPl_ok p 7)).mpr rfl⟩
  rw [e]
  exact ⟨.bl _, H, I, rfl, q⟩
end
end Cv

namespace Cv
open PySem PySem.Spec PyProof.Rows L2
/-! ### hulls told by the points; the law's known corners -/
noncomputable def spHull2 (K : PySem.W.Frag) : Sp := fun vs H Q _ => ∃ (a : Addr) (ws : List V) (ps : List Pt) (D : Int) (m : Nat), vs = [.ref a] ∧ SqL K H a ws ∧ PtsV H ws ps ∧ 0 < D ∧ Sz 9000 D ∧ (∀ p ∈ ps, ((p.1.den : Int) ∣ D ∧ Bd m p.1) ∧ (p.2.den : Int) ∣ D ∧ Bd m p.2) ∧ m ≤ 9000 ∧ 1 ≤ ps.length ∧ ps.length ≤ 40 ∧
  ∀ (l : Addr) (us : List V) (cs : List Pt) (H' : Hp), Same H H' → H l = none → H' l = some (.lst us) → PtsV H' us cs → HulZ ps cs → Q (.ref l) H'
theorem hulz1 {ps : List Pt} {pl : List Pl} {q : Pl} {Px Py : Int} (hx : 0 < Px) (hy : 0 < Py) (hps : ps = pl.map (ovr Px Py)) (hqm : ∀ p, p ∈ [q] ↔ p ∈ pl) (hall : ∀ p ∈ ps, p = gq ps 0) (h1 : 1 ≤ ps.length) : HulZ ps [gq ps 0] := by
  have e : gq ps 0 = ovr Px Py q := (hall _ (by rw [hps]; exact List.mem_map_of_mem ((hqm q).mp (by simp)))).symm
  refine ⟨Px, Py, [q], hx, hy, List.pairwise_singleton _ _, fun p => ?_, by rw [e]; rfl, by simp, by simpa using h1⟩
  constructor
  · intro hp
    rw [hall p hp, e]; simp
  · intro hp
    rw [show p = ovr Px Py q by simpa using hp, ← e]
    exact gq_mem (by omega)
noncomputable def pkQ (p : Pt) : PK := ((p.1.num, (p.1.den : Int)), (p.2.num, (p.2.den : Int)))
theorem pkQ_inj {p q : Pt} (h : pkQ p = pkQ q) : p = q := by
  unfold pkQ at h
  simp only [Prod.mk.injEq] at h
  exact Prod.ext (Rat.ext h.1.1 (Int.ofNat.inj h.1.2)) (Rat.ext h.2.1 (Int.ofNat.inj h.2.2))
theorem ptA_of {H : Hp} {v : V} {p : Pt} (h : PtV H v p.1 p.2) : ∃ b, v = .ref b ∧ PtA H b (pkQ p) := by
  obtain ⟨b, u1, u2, rfl, h0, ⟨c, rfl, h1⟩, ⟨d, rfl, h2⟩⟩ := h
  exact ⟨b, rfl, c, d, h0, h1, h2⟩
theorem lkP_put (xs : List PRow) (k : PK) (b v : Addr) (k' : PK) : lkP (putP xs k b v) k' = if k' = k then some v else lkP xs k' := by
  have e1 : ∀ ys : List PRow, (lkP (ys.map fun x => if x.1 = k then (x.1, x.2.1, v) else x) k') = if k' = k then (lkP ys k).map (fun _ => v) else lkP ys k' := by
    intro ys
    induction ys with
    | nil => unfold lkP; simp
    | cons y ys ih =>
      unfold lkP at *
      simp only [List.map_cons, List.find?_cons]
      by_cases hy : y.1 = k
      · rw [if_pos hy]
        by_cases hk : k' = k
        · subst hk; simp [hy]
        · have : ¬ y.1 = k' := fun z => hk (z.symm.trans hy)
          rw [if_neg hk] at ih ⊢
          simp only [this, decide_false]
          exact ih
      · rw [if_neg hy]
        by_cases hk : k' = k
        · subst hk
          rw [if_pos rfl] at ih ⊢
          simp only [hy, decide_false]
          exact ih
        · rw [if_neg hk] at ih ⊢
          by_cases hy' : y.1 = k'
          · simp [hy']
          · simp only [hy', decide_false]
            exact ih
  unfold putP
  by_cases h : (lkP xs k).isSome = true
  · rw [if_pos h, e1]
    obtain ⟨z, hz⟩ := Option.isSome_iff_exists.mp h
    rw [hz]; rfl
  · rw [if_neg h]
    have hn : lkP xs k = none := by simpa using h
    unfold lkP at *
    rw [List.find?_append, Option.map_or]
    by_cases hk : k' = k
    · subst hk
      rw [hn]; simp
    · rw [if_neg hk]
      have : ¬ k = k' := fun z => hk z.symm
      simp [this]
/-- what the dict holds behind i points -/
structure KnI (zs : List V) (ps : List Pt) (i : Nat) (xs : List PRow) : Prop where
  len : xs.length ≤ i
  old : ∀ k v, lkP xs k = some v → ∃ (j : Nat) (p : Pt), j < i ∧ ps[j]? = some p ∧ pkQ p = k ∧ zs[j]? = some (.ref v)
  new : ∀ (j : Nat) (p : Pt), j < i → ps[j]? = some p → ∃ v, lkP xs (pkQ p) = some v
theorem KnI.zero {zs : List V} {ps : List Pt} : KnI zs ps 0 [] := ⟨Nat.le_refl _, fun k v h => by simp [lkP] at h, fun j p h => by omega⟩
theorem KnI.succ {zs : List V} {ps : List Pt} {i : Nat} {xs : List PRow} {p : Pt} {b v : Addr} (h : KnI zs ps i xs) (hp : ps[i]? = some p) (hz : zs[i]? = some (.ref v)) : KnI zs ps (i + 1) (putP xs (pkQ p) b v) := by
  refine ⟨by have := putP_length xs (pkQ p) b v; have := h.len; omega, fun k u hk => ?_, fun j q hj hq => ?_⟩
  · rw [lkP_put] at hk
    by_cases e : k = pkQ p
    · rw [if_pos e] at hk
      cases hk
      exact ⟨i, p, by omega, hp, e.symm, hz⟩
    · rw [if_neg e] at hk
      obtain ⟨j, q, h1, h2, h3, h4⟩ := h.old k u hk
      exact ⟨j, q, by omega, h2, h3, h4⟩
  · rw [lkP_put]
    by_cases e : pkQ q = pkQ p
    · rw [if_pos e]; exact ⟨v, rfl⟩
    · rw [if_neg e]
      by_cases hji : j = i
      · subst hji
        rw [hp] at hq; cases hq
        exact absurd rfl e
      · exact h.new j q (by omega) hq
theorem PDA.tupl {P : Program} {w : World} {H : Hp} {a : Addr} {xs : List PRow} {o : HO} (h : PDA P w H a xs) : Tup H (upd H a o) := fun b ys e => by
  have : b ≠ a := fun z => by rw [z, h.at_] at e; cases e
  rw [upd_ne this]; exact e
theorem PDA.put {P : Program} {w : World} {H : Hp} {a b v : Addr} {xs : List PRow} {k : PK} (h : PDA P w H a xs) (hk : PtA H b k) : PDA P w (upd H a (PD P w a (putP xs k b v))) a (putP xs k b v) :=
  ⟨upd_same, fun x hx => putP_keys (C := fun b' k' => PtA (upd H a (PD P w a (putP xs k b v))) b' k') (fun x hx => (h.keys x hx).tup h.tupl) (hk.tup h.tupl) x hx⟩
noncomputable def spKnown (K : PySem.W.Frag) : Sp := fun vs H Q _ => ∃ (f a b : Addr) (us ws zs : List V) (cs : List Pt) (pl : List Pl) (Bo : Int), vs = [.ref f, .ref a, .ref b] ∧ H f = some (.lst us) ∧ PtsV H us cs ∧ H a = some (.lst ws) ∧ PtsV H ws (ptsOf Bo pl) ∧ H b = some (.lst zs) ∧ PlsV H zs pl ∧ 0 < Bo ∧ cs.Nodup ∧ (∀ c ∈ cs, c ∈ ptsOf Bo pl) ∧ pl.length ≤ 40 ∧ cs.length ≤ 80 ∧
  ∀ (l : Addr) (vs : List V) (ls : List Pl) (H' : Hp), Same H H' → H l = none → H' l = some (.lst vs) → PlsV H' vs ls → cs = ls.map (ovr Bo Bo) → (∀ p ∈ ls, p ∈ pl) → Q (.ref l) H'
/-- the place of a corner -/
theorem KnI.at {zs : List V} {pl : List Pl} {Bo : Int} {xs : List PRow} {H : Hp} {c : Pt} (h : KnI zs (ptsOf Bo pl) pl.length xs) (hz : PlsV H zs pl) (hc : c ∈ ptsOf Bo pl) : ∃ (v : Addr) (p : Pl), lkP xs (pkQ c) = some v ∧ p ∈ pl ∧ ovr Bo Bo p = c ∧ H v = some (.tup [.int p.1, .int p.2]) := by
  obtain ⟨j, hj, e⟩ := List.getElem_of_mem hc
  have hj' : j < pl.length := by rw [ptsOf_len] at hj; exact hj
  obtain ⟨v, hv⟩ := h.new j c hj' (by rw [List.getElem?_eq_getElem hj, e])
  obtain ⟨j2, q, k1, k2, k3, k4⟩ := h.old _ _ hv
  obtain rfl := pkQ_inj k3
  have hp : pl[j2]? = some (pl[j2]'k1) := List.getElem?_eq_getElem _
  obtain ⟨T, eT, hT⟩ := hz.get j2 _ _ k4 hp
  cases eT
  refine ⟨v, _, hv, List.mem_of_getElem? hp, ?_, hT⟩
  unfold ptsOf at k2
  rw [List.getElem?_map, hp] at k2
  exact Option.some.inj k2
theorem snocls {cs : List Pt} {ls : List Pl} {i : Nat} {c : Pt} {p : Pl} {Bo : Int} (h : cs.take i = ls.map (ovr Bo Bo)) (hc : cs[i]? = some c) (hp : ovr Bo Bo p = c) : cs.take (i + 1) = (ls ++ [p]).map (ovr Bo Bo) := by
  rw [List.take_succ, hc, h, List.map_append, List.map_cons, List.map_nil, hp]; rfl
theorem fresh_ls {cs : List Pt} {ls : List Pl} {i : Nat} {c : Pt} {p : Pl} {Bo : Int} (hn : cs.Nodup) (h : cs.take i = ls.map (ovr Bo Bo)) (hc : cs[i]? = some c) (hp : ovr Bo Bo p = c) : ¬ p ∈ ls := fun hm => by
  have h1 : c ∈ cs.take i := by rw [h, ← hp]; exact List.mem_map_of_mem hm
  obtain ⟨j, hj, e⟩ := List.getElem_of_mem h1
  rw [List.length_take] at hj
  have h2 : cs[j]? = some c := by
    have : (cs.take i)[j]? = some c := by rw [List.getElem?_eq_getElem (by rw [List.length_take]; exact hj), e]
    rwa [List.getElem?_take, if_pos (by omega)] at this
  have := (List.getElem?_inj (by omega) hn).mp (h2.trans hc.symm)
  omega
end Cv

namespace Cv
open PySem PySem.Spec PyProof.Rows L2
/-! ### the least of a list of pairs -/
/-- the least of the first i -/
noncomputable def LstP (vs : List Value) (pl : List Pl) (i : Nat) (x : Value) : Prop := ∃ (j : Nat) (M : Pl), j < i ∧ vs[j]? = some x ∧ pl[j]? = some M ∧ ∀ (t : Nat) q, t < i → pl[t]? = some q → ¬ lxP q M
section
variable {prog : Program} {w : World} {A : Around} {E : Value → Shared → Prop} {s : Shared}
theorem mn_loop {l S I : Addr} {vs : List Value} {pl : List Pl} {Q : Value → Shared → Prop} (hh : A.handled = none) (hu : A.units + 8 < cLine) (hlI : l ≠ I) (hlen : vs.length = pl.length)
    (hv : ∀ (i : Nat) v p, vs[i]? = some v → pl[i]? = some p → ∃ b o, v = .ref b ∧ s.heap.get? b = some o ∧ PrO o p)
    (nS : ∀ c o, s.heap.get? c = some o → c ≠ S) (nI : ∀ c o, s.heap.get? c = some o → c ∉ [I]) (SI : S ∉ [I]) (Sf : S ∉ [I, l])
    (hQ : ∀ x h' tk, LstP vs pl vs.length x → (∀ c o, s.heap.get? c = some o → h'.get? c = some o) → Q x { s with heap := h', toks := tk }) :
    ∀ (k i : Nat) (h3 : Heap) (x : Value) (m tk : Nat), vs.length - i = k → 1 ≤ i → i ≤ vs.length → (h3.IsListIter I l i ∧ h3.IsList l vs.toArray) → h3.get? S = some { cls := .type "list", dict := none, data := .seq #[x, x] m, slots := #[] } → (∀ c o, s.heap.get? c = some o → h3.get? c = some o) → LstP vs pl i x →
      codeAny (model prog w) A (.builtin "min.loop" ⟨[.ref I, .none, .ref S], []⟩) (wants Q E) { s with heap := h3, toks := tk } := by
  have hname : (toString "min" ++ toString ".loop" : String) = "min.loop" := by decide
  have W := Walks.list (prog := prog) (w := w) (A := A.in1) hh I l hlI vs.toArray
  intro k
  induction k with
  | zero =>
    intro i h3 x m tk hk h1 hi st3 hS3 k3 hx
    have ei : i = vs.length := by omega
    subst ei
    refine codeAny_builtin F.entry_min_loop ?_
    rw [Around.under_plainId F.plain_min_loop _]
    show wpAny _ A.in1 (seqItems? (.ref S) >>= _) _ _ _
    refine wpAny_bind (wpAny_seqItems hS3 rfl ?_)
    show wpAny _ A.in1 (tryCatch (pyNext (.ref I)) _ >>= _) _ _ _
    refine wpAny_bind (wpAny_tryCatch (W.done _ _ _ (by simpa using st3) fun h4 tk4 k4 => ?_))
    have hS4 := k4 S _ SI hS3
    show wpAny _ A.in1 (updateSeq S (fun _ => #[]) >>= _) _ _ _
    refine wpAny_bind ?_
    refine wpAny_updateSeq hS4 rfl (wpAny_bind (wpAny_letGo (wpAny_pure ?_)))
    exact hQ x _ _ hx fun c o e => (Heap.get?_update_other _ _ (Ne.symm (nS c o e))).trans (k4 c o (nI c o e) (k3 c o e))
  | succ k ih =>
    intro i h3 x m tk hk h1 hi st3 hS3 k3 hx
    have hi' : i < vs.length := by omega
    obtain ⟨j, M, hj, ej, eM, hM⟩ := hx
    obtain ⟨a, oa, rfl, ha, pa⟩ := hv j x M ej eM
    obtain ⟨b, ob, eb, hb, pb⟩ := hv i _ _ (List.getElem?_eq_getElem hi') (List.getElem?_eq_getElem (show i < pl.length by omega))
    have hpq : pl[i]? = some (pl[i]'(by omega)) := List.getElem?_eq_getElem _
    generalize (pl[i]'(by omega)) = q at *
    refine codeAny_builtin F.entry_min_loop ?_
    rw [Around.under_plainId F.plain_min_loop _]
    show wpAny _ A.in1 (seqItems? (.ref S) >>= _) _ _ _
    refine wpAny_bind (wpAny_seqItems hS3 rfl ?_)
    show wpAny _ A.in1 (tryCatch (pyNext (.ref I)) _ >>= _) _ _ _
    refine wpAny_bind (wpAny_tryCatch (W.item i _ _ _ (by simpa using hi') st3 fun v h4 tk4 hP st4 k4 => ?_))
    have hvb : vs[i]? = some (.ref b) := by rw [List.getElem?_eq_getElem hi', eb]
    obtain rfl : Value.ref b = v := by
      have : vs[i]? = some v := by simpa using hP
      rw [hvb] at this; exact Option.some.inj this
    have hS4 := k4 S _ SI hS3
    have k4' : ∀ c o, s.heap.get? c = some o → h4.get? c = some o := fun c o e => k4 c o (nI c o e) (k3 c o e)
    show wpAny _ A.in1 (tryCatch (holding [Value.ref b, .ref b] (richCompare .Lt (.ref b) (.ref a) >>= _)) _ >>= _) _ _ _
    refine wpAny_bind (wpAny_tryCatch (wpAny_holding (wpAny_bind (lt_prs (A := A.in1) (k4' b ob hb) pb (k4' a oa ha) pa (by show A.units + 1 < cLine; omega) ?_))))
    refine wpAny_bind (wpAny_holding (wpAny_truthy_bool ?_))
    refine wpAny_bind (wpAny_letGo (wpAny_pure ?_))
    by_cases hc : lxP q M
    · rw [decide_eq_true hc]
      simp only [if_true]
      refine wpAny_bind ?_
      refine wpAny_updateSeq hS4 rfl (wpAny_bind (wpAny_letGo ?_))
      rw [hname]
      refine wpAny_pure ⟨plainId_quiet F.plain_min_loop _, ih (i + 1) _ (.ref b) _ _ (by omega) (by omega) (by omega) (W.frame (i + 1) _ _ st4 fun c hc o e => (Heap.get?_update_other _ _ (fun z : S = c => Sf (by rw [z]; exact hc))).trans e) (Heap.get?_update_self _ hS4 rfl) (fun c o e => (Heap.get?_update_other _ _ (Ne.symm (nS c o e))).trans (k4' c o e)) ⟨i, q, by omega, hvb, hpq, fun t r ht er hr => ?_⟩⟩
      by_cases hti : t = i
      · subst hti; rw [hpq] at er; cases er; unfold lxP at hr; omega
      · exact hM t r (by omega) er (hr.trans hc)
    · rw [decide_eq_false hc]
      simp only [Bool.false_eq_true, if_false]
      refine wpAny_bind (wpAny_letGo ?_)
      rw [hname]
      refine wpAny_pure ⟨plainId_quiet F.plain_min_loop _, ih (i + 1) _ (.ref a) _ _ (by omega) (by omega) (by omega) st4 hS4 k4' ⟨j, M, by omega, ej, eM, fun t r ht er => ?_⟩⟩
      by_cases hti : t = i
      · subst hti; rw [hpq] at er; cases er; exact hc
      · exact hM t r (by omega) er
theorem mn_min {l : Addr} {vs : List Value} {pl : List Pl} {Q : Value → Shared → Prop} (hh : A.handled = none) (hu : A.units + 8 < cLine) (hl : s.heap.IsList l vs.toArray) (hlen : vs.length = pl.length) (h0 : 0 < vs.length)
    (hv : ∀ (i : Nat) v p, vs[i]? = some v → pl[i]? = some p → ∃ b o, v = .ref b ∧ s.heap.get? b = some o ∧ PrO o p)
    (hQ : ∀ x h' tk, LstP vs pl vs.length x → (∀ c o, s.heap.get? c = some o → h'.get? c = some o) → Q x { s with heap := h', toks := tk }) :
    wpAny (model prog w) A (call (.builtin "min") [.ref l]) Q E s := by
  have hname : (toString "min" ++ toString ".loop" : String) = "min.loop" := by decide
  have hlt : l < s.heap.objs.size := by obtain ⟨_, e, _⟩ := hl; exact Heap.lt_size e
  refine call_function_tree F.kind_min F.plain_min F.entry_min (F.args_min1 _) ?_
  show wpAny _ A.in1 (Builtin.Builtins.bindParams "min" ["key", "default"] 0 ⟨[], []⟩ >>= _) _ _ s
  refine wpAny_bind (wpAny_of_eq (show Builtin.Builtins.bindParams "min" ["key", "default"] 0 ⟨[], []⟩ = pure [none, none] from rfl) ?_)
  refine wpAny_bind (wpAny_pure ?_)
  refine wpAny_bind (wpAny_pyIter_list hl ?_)
  refine wpAny_bind (wpAny_newObj_type ?_)
  rw [hname]
  have W := Walks.list (prog := prog) (w := w) (A := A.in1) hh s.heap.objs.size l (Nat.ne_of_lt hlt) vs.toArray
  have st0 : ((s.heap.push { cls := .type "list_iterator", data := .fields #[.ref l, .int 0 0] }).push { cls := .type "list", data := .seq [].toArray }).IsListIter s.heap.objs.size l 0 ∧ ((s.heap.push { cls := .type "list_iterator", data := .fields #[.ref l, .int 0 0] }).push { cls := .type "list", data := .seq [].toArray }).IsList l vs.toArray :=
    ⟨⟨_, Heap.get?_push_of_some _ (Heap.get?_push_size _ rfl), rfl, rfl⟩, (hl.push _).push _⟩
  have hS0 : ((s.heap.push { cls := .type "list_iterator", data := .fields #[.ref l, .int 0 0] }).push { cls := .type "list", data := .seq [].toArray }).get? (s.heap.push { cls := .type "list_iterator", data := .fields #[.ref l, .int 0 0] }).objs.size = some { cls := .type "list", dict := none, data := .seq #[] 0, slots := #[] } := Heap.get?_push_size _ rfl
  have k0 : ∀ c o, s.heap.get? c = some o → ((s.heap.push { cls := .type "list_iterator", data := .fields #[.ref l, .int 0 0] }).push { cls := .type "list", data := .seq [].toArray }).get? c = some o := fun c o e => Heap.get?_push_of_some _ (Heap.get?_push_of_some _ e)
  have hSI : (s.heap.push { cls := .type "list_iterator", data := .fields #[.ref l, .int 0 0] }).objs.size = s.heap.objs.size + 1 := Heap.size_push ..
  generalize ((s.heap.push { cls := .type "list_iterator", data := .fields #[.ref l, .int 0 0] }).push { cls := .type "list", data := .seq [].toArray }) = g0 at *
  generalize (s.heap.push { cls := .type "list_iterator", data := .fields #[.ref l, .int 0 0] }).objs.size = S at *
  have nS : ∀ c o, s.heap.get? c = some o → c ≠ S := fun c o e e2 => absurd (Heap.lt_size e) (by rw [e2, hSI]; exact Nat.not_lt.mpr (Nat.le_succ _))
  have nI : ∀ c o, s.heap.get? c = some o → c ∉ [s.heap.objs.size] := fun c o e hm => Nat.ne_of_lt (Heap.lt_size e) (List.mem_singleton.mp hm)
  have SI : S ∉ [s.heap.objs.size] := fun hm => Nat.succ_ne_self _ (hSI.symm.trans (List.mem_singleton.mp hm))
  have Sf : S ∉ [s.heap.objs.size, l] := fun hm => by
    rcases List.mem_cons.mp hm with e | hm
    · exact SI (List.mem_singleton.mpr e)
    · exact absurd hlt (by rw [← List.mem_singleton.mp hm, hSI]; exact Nat.not_lt.mpr (Nat.le_succ _))
  refine wpAny_pure ⟨plainId_quiet F.plain_min_loop _, ?_⟩
  refine codeAny_builtin F.entry_min_loop ?_
  rw [Around.under_plainId F.plain_min_loop _]
  show wpAny _ A.in1 (seqItems? (.ref S) >>= _) _ _ _
  refine wpAny_bind (wpAny_seqItems hS0 rfl ?_)
  show wpAny _ A.in1 (tryCatch (pyNext (.ref s.heap.objs.size)) _ >>= _) _ _ _
  refine wpAny_bind (wpAny_tryCatch (W.item 0 _ _ _ (by simpa using h0) st0 fun v h1 tk1 hP st1 k1 => ?_))
  have hv0 : vs[0]? = some v := by simpa using hP
  have hS1 := k1 S _ SI hS0
  show wpAny _ A.in1 (updateSeq S (fun _ => #[v, v]) >>= _) _ _ _
  refine wpAny_bind ?_
  refine wpAny_updateSeq hS1 rfl ?_
  rw [hname]
  refine wpAny_pure ⟨plainId_quiet F.plain_min_loop _, mn_loop (s := s) hh hu (Nat.ne_of_lt hlt) hlen hv nS nI SI Sf hQ (vs.length - 1) 1 _ v _ _ rfl (by omega) (by omega) (W.frame 1 _ _ st1 fun c hc o e => (Heap.get?_update_other _ _ (fun z : S = c => Sf (by rw [z]; exact hc))).trans e) (Heap.get?_update_self _ hS1 rfl) (fun c o e => (Heap.get?_update_other _ _ (Ne.symm (nS c o e))).trans (k1 c o (nI c o e) (k0 c o e))) ⟨0, pl[0]'(by omega), by omega, hv0, List.getElem?_eq_getElem _, fun t r ht er hr => ?_⟩⟩
  obtain rfl : t = 0 := by omega
  rw [List.getElem?_eq_getElem (show 0 < pl.length by omega)] at er
  cases er
  unfold lxP at hr; omega
end
section
variable {X : Cx}
theorem call_minN (K : PySem.W.Frag) (hc : X.calm = true) (hu : X.A.units + 8 < cLine) (hK : X.K = K := by rfl) : CallR X (.builtin "min") (fun xs H Q => ∃ (l : Addr) (us : List V) (pl : List Pl), xs = [.ref l] ∧ SqL K H l us ∧ PlsV H us pl ∧ 0 < pl.length ∧ ∀ (b : Addr) (M : Pl), M ∈ pl → H b = some (.tup [.int M.1, .int M.2]) → (∀ q ∈ pl, ¬ lxP q M) → Q (.ref b) H) := by
  subst hK
  intro pins s σ H xs us Q I r h
  obtain ⟨l, ws, pl, rfl, hq, hP, h0, hQ⟩ := h
  obtain ⟨u, rfl, ru⟩ := vals_one r
  cases ru
  obtain ⟨its, rv, pll, hz⟩ := I.list hq
  have hl1 := hP.len
  have hl2 := rv.length
  have hget : ∀ (i : Nat) v p, its[i]? = some v → pl[i]? = some p → ∃ b, v = .ref b ∧ H b = some (.tup [.int p.1, .int p.2]) := fun i v p e1 e2 => by
    obtain ⟨x, ex⟩ : ∃ x, ws[i]? = some x := ⟨ws[i]'(by have := (List.getElem?_eq_some_iff.mp e2).1; omega), List.getElem?_eq_getElem _⟩
    obtain ⟨T, rfl, hT⟩ := hP.get i x p ex e2
    obtain ⟨v', e', rr⟩ := rv.get ex
    rw [e1] at e'
    cases e'
    cases rr
    exact ⟨T, rfl, hT⟩
  refine mn_min (I.ok.hd hc) hu pll.isList (pl := pl) (by omega) (by omega) (fun i v p e1 e2 => ?_) fun x h' tk hx k => ?_
  · obtain ⟨b, rfl, hb⟩ := hget i v p e1 e2
    obtain ⟨_, ia, ra, oa, a1, a2, na, a3⟩ := (show ObjOk X.prog X.w H s.heap b (.tup [.int p.1, .int p.2]) from I.hok _ _ hb)
    obtain ⟨w1, w2, rfl, ⟨t1, rfl⟩, ⟨t2, rfl⟩⟩ := vals_two ra
    exact ⟨b, oa, rfl, a1, a2, t1, t2, na, a3⟩
  · obtain ⟨j, M, hj, ej, eM, hM⟩ := hx
    obtain ⟨b, rfl, hb⟩ := hget j x M ej eM
    refine ⟨.ref b, H, I.kept k, rfl, hQ b M (List.mem_of_getElem? eM) hb fun q hq => ?_⟩
    obtain ⟨t, ht, e⟩ := List.getElem_of_mem hq
    exact hM t q (by omega) (by rw [List.getElem?_eq_getElem ht, e])
end
end Cv

namespace Cv
open PySem PySem.Spec PyProof.Rows L2
/-! ### what k40's law needs -/
noncomputable def spGoodH (K : PySem.W.Frag) : Sp := fun vs H Q _ => ∃ (f a b : Addr) (us ws zs : List V) (cs : List Pt) (pl : List Pl) (Bo : Int), vs = [.ref f, .ref a, .ref b] ∧ H f = some (.lst us) ∧ PtsV H us cs ∧ H a = some (.lst ws) ∧ PtsV H ws (ptsOf Bo pl) ∧ H b = some (.lst zs) ∧ PlsV H zs pl ∧ 0 < Bo ∧ HulZ (ptsOf Bo pl) cs ∧ pl.length ≤ 40 ∧ (∀ p ∈ pl, SzPl 800000 p) ∧
  ∀ H', Same H H' → Q (.bl true) H'
theorem atI_back {us : List V} {k : Nat} (hk : k < us.length) (h2 : 2 ≤ us.length) : atI us ((k : Int) - 2) = us[(k + us.length - 2) % us.length]? := by
  have hl : (k + us.length - 2) % us.length < us.length := Nat.mod_lt _ (by omega)
  by_cases h : 2 ≤ k
  · have e : (k + us.length - 2) % us.length = k - 2 := by rw [show k + us.length - 2 = k - 2 + us.length by omega, Nat.add_mod_right]; exact Nat.mod_eq_of_lt (by omega)
    rw [e]
    have h' : us[k - 2]? = some (us[k - 2]'(by omega)) := List.getElem?_eq_getElem _
    rw [h']
    exact atI_nat' (by omega) h'
  · have e : (k + us.length - 2) % us.length = k + us.length - 2 := Nat.mod_eq_of_lt (by omega)
    rw [e]
    have h' : us[k + us.length - 2]? = some (us[k + us.length - 2]'(by omega)) := List.getElem?_eq_getElem _
    have ei : ixN us.length ((k : Int) - 2) = some (k + us.length - 2) := by
      unfold ixN
      rw [if_neg (by omega), if_pos (by omega)]
      exact congrArg some (by omega)
    show ((ixN us.length ((k : Int) - 2)).bind fun j => us[j]?) = _
    rw [ei]; rfl
theorem first_min {pl ls : List Pl} {cs : List Pt} {Bo : Int} {M : Pl} (hB : 0 < Bo) (h : HulZ (ptsOf Bo pl) cs) (e : cs = ls.map (ovr Bo Bo)) (hl : ∀ p ∈ ls, p ∈ pl) (h1 : 1 ≤ ls.length) (hM : M ∈ pl) (hm : ∀ q ∈ pl, ¬ lxP q M) : g0 ls 0 = M := by
  have h2 := h.min (ovr Bo Bo M) (List.mem_map_of_mem hM)
  rw [e, gq_ovr (by omega), lxQ_ovr hB hB] at h2
  rcases lxE_or h2 with k | k
  · exact absurd k (hm _ (hl _ (g0_mem (by omega))))
  · exact k
theorem strict_ls {pl ls : List Pl} {cs : List Pt} {Bo : Int} (hB : 0 < Bo) (h : HulZ (ptsOf Bo pl) cs) (e : cs = ls.map (ovr Bo Bo)) (h3 : 3 ≤ ls.length) (k : Nat) (hk : k < ls.length) : 0 < tr (g0 ls ((k + ls.length - 2) % ls.length)) (g0 ls ((k + ls.length - 1) % ls.length)) (g0 ls k) := by
  have el : cs.length = ls.length := by rw [e, List.length_map]
  have := h.strict (by omega) k (by omega)
  rw [el] at this
  rw [e, gq_ovr (Nat.mod_lt _ (by omega)), gq_ovr (Nat.mod_lt _ (by omega)), gq_ovr hk, trQ_pos hB hB] at this
  exact this
end Cv

set_option maxHeartbeats 4000000
namespace Cv
open PySem L2
local macro_rules | `(tactic| walk_at "hf") => `(tactic| first
  | assumption
  | exact upd_same
  | (refine upd_keep (by assumption) ?_; walk_at "hf")
  | (refine (by assumption : L2.Same _ _) _ _ ?_; walk_at "hf")
  | fail)
local macro_rules | `(tactic| walk_at "sm") => `(tactic| first
  | assumption
  | exact L2.Same.refl _
  | (refine L2.Same.trans ?_ (by assumption : L2.Same _ _); walk_at "sm")
  | (refine L2.Same.trans ?_ (Same.new (by assumption)); walk_at "sm")
  | fail)
local macro_rules | `(tactic| walk_at "mv") => `(tactic| first
  | assumption
  | (refine ShV.same ?_ (by assumption : L2.Same _ _); walk_at "mv")
  | (refine ShV.same ?_ (Same.new (by assumption)); walk_at "mv")
  | (refine PtV.same ?_ (by assumption : L2.Same _ _); walk_at "mv")
  | (refine PtV.same ?_ (Same.new (by assumption)); walk_at "mv")
  | (refine RwV.same ?_ (by assumption : L2.Same _ _); walk_at "mv")
  | (refine RwV.same ?_ (Same.new (by assumption)); walk_at "mv")
  | (refine RwQ.same ?_ (by assumption : L2.Same _ _); walk_at "mv")
  | (refine RwQ.same ?_ (Same.new (by assumption)); walk_at "mv")
  | (refine MpV.same ?_ (by assumption : L2.Same _ _); walk_at "mv")
  | (refine MpV.same ?_ (Same.new (by assumption)); walk_at "mv")
  | (refine PtsV.same ?_ (by assumption : L2.Same _ _); walk_at "mv")
  | (refine PtsV.same ?_ (Same.new (by assumption)); walk_at "mv")
  | (refine AxV.same ?_ (by assumption : L2.Same _ _); walk_at "mv")
  | (refine AxV.same ?_ (Same.new (by assumption)); walk_at "mv")
  | (refine ShL.same ?_ (by assumption : L2.Same _ _); walk_at "mv")
  | (refine ShL.same ?_ (Same.new (by assumption)); walk_at "mv")
  | (refine SqL.same' ?_ (by assumption : L2.Same _ _); walk_at "mv")
  | (refine SqL.same' ?_ (Same.new (by assumption)); walk_at "mv")
  | fail)
local macro_rules | `(tactic| walk_at "sq") => `(tactic| first
  | exact SqT.of (by walk_at "hf")
  | exact SqL.of (by walk_at "hf")
  | walk_at "mv"
  | fail)
local macro_rules | `(tactic| walk_at "at") => `(tactic| first
  | rfl
  | assumption
  | exact at_mapZ _ _ (by omega) (by omega)
  | fail)
local macro_rules | `(tactic| walk_at "sz") => `(tactic| first
  | assumption
  | exact Bd.num (by assumption)
  | exact Bd.den (by assumption)
  | exact Sz.one
  | exact Sz.mul (by walk_at "sz") (by walk_at "sz")
  | exact Sz.add (by walk_at "sz") (by walk_at "sz")
  | exact Sz.sub (by walk_at "sz") (by walk_at "sz")
  | exact Sz.neg (by walk_at "sz")
  | fail)
local macro_rules | `(tactic| walk_at "bdx") => `(tactic| first
  | assumption
  | exact Bd.zero'
  | exact Bd.one'
  | exact Bd.add (by walk_at "bdx") (by walk_at "bdx")
  | exact Bd.sub (by walk_at "bdx") (by walk_at "bdx")
  | exact Bd.mul (by walk_at "bdx") (by walk_at "bdx")
  | fail)
local macro_rules | `(tactic| walk_at "bd") => `(tactic| exact Bd.mono (by walk_at "bdx") (by decide))
local macro_rules | `(tactic| walk_at "szm") => `(tactic| exact Sz.mono (by walk_at "sz") (by decide))
local macro_rules | `(tactic| walk_at "arith") => `(tactic| first
  | exact pos30
  | exact pl
  | exact ⟨by decide, by decide⟩
  | exact ⟨by decide, by decide, by decide⟩
  | exact mulL (by decide) (by decide)
  | exact mulR (by decide) (by decide)
  | exact mulR (by omega) (by omega)
  | exact mulL (by omega) (by omega)
  | exact mulB (by walk_at "sz") (by walk_at "sz")
  | fail)
local macro_rules | `(tactic| walk_at "len") => `(tactic| first
  | (show 2 ≤ sizeLine; decide)
  | (show 0 ≤ sizeLine; decide)
  | (show 1 ≤ sizeLine; decide)
  | (show 3 ≤ sizeLine; decide)
  | (show 4 ≤ sizeLine; decide)
  | (show 5 ≤ sizeLine; decide)
  | (show 6 ≤ sizeLine; decide)
  | (show 8 ≤ sizeLine; decide)
  | fail)
local macro_rules | `(tactic| walk_at "r1") => `(tactic| first
  | refine ⟨_, _, rfl, rfl, by walk_at "arith", ?_⟩
  | refine ⟨_, _, rfl, rfl, ?_⟩
  | refine ⟨_, _, _, _, rfl, rfl, by walk_at "sq", by walk_at "at", ?_⟩
  | refine ⟨_, rfl, ?_⟩
  | refine ⟨rfl, ?_⟩
  | refine ⟨_, _, rfl, .inr (SqT.of (by walk_at "hf")), ?_⟩
  | refine ⟨_, _, rfl, .inl (SqL.of (by walk_at "hf")), ?_⟩
  | refine ⟨_, "tuple", _, _, rfl, TyOf.tup (by walk_at "hf"), kit_tt _, ?_⟩
  | refine ⟨_, "list", _, _, rfl, TyOf.lst (by walk_at "hf"), kit_ll _, ?_⟩
  | refine ⟨_, "int", _, _, rfl, TyOf.int _, kit_ii _, ?_⟩
  | refine ⟨_, "bool", _, _, rfl, TyOf.int _, kit_ib _, ?_⟩
  | refine ⟨_, "bool", _, _, rfl, TyOf.bl _, kit_bb _, ?_⟩
  | refine ⟨by walk_at "len", ?_⟩
  | refine ⟨by decide, ?_⟩
  | fail)
local macro_rules | `(tactic| walk_at "rd") => `(tactic| repeat walk_at "r1")
local macro_rules | `(tactic| walk_at "fr") => `(tactic| first
  | assumption
  | (refine L2.Same.free (by assumption : L2.Same _ _) ?_; walk_at "fr")
  | (refine L2.Same.free (Same.new (by assumption)) ?_; walk_at "fr")
  | fail)
local macro_rules | `(tactic| walk_at "tk") => `(tactic| first
  | assumption
  | fail)
local macro_rules | `(tactic| walk_at "mv") => `(tactic| first
  | assumption
  | (refine ShK.same ?_ (by assumption : L2.Same _ _); walk_at "mv")
  | (refine ShK.same ?_ (Same.new (by assumption)); walk_at "mv")
  | (refine PtK.same ?_ (by assumption : L2.Same _ _); walk_at "mv")
  | (refine PtK.same ?_ (Same.new (by assumption)); walk_at "mv")
  | (refine PtsK.same ?_ (by assumption : L2.Same _ _); walk_at "mv")
  | (refine PtsK.same ?_ (Same.new (by assumption)); walk_at "mv")
  | (refine ShV.k ?_; walk_at "mv")
  | (refine PtV.k ?_; walk_at "mv")
  | (refine PtsV.k ?_; walk_at "mv")
  | fail)
local macro_rules | `(tactic| walk_at "sq") => `(tactic| first
  | exact TK.sq (by walk_at "tk")
  | fail)
local macro_rules | `(tactic| walk_at "rk1") => `(tactic| first
  | refine ⟨_, "tuple", _, _, rfl, .inr ⟨rfl, _, _, rfl, by walk_at "sq"⟩, kit_tt _, ?_⟩
  | refine ⟨_, "list", _, _, rfl, .inl (TyOf.lst (by walk_at "hf")), kit_ll _, ?_⟩
  | refine ⟨_, "int", _, _, rfl, .inl (TyOf.int _), kit_ii _, ?_⟩
  | refine ⟨_, "bool", _, _, rfl, .inl (TyOf.int _), kit_ib _, ?_⟩
  | refine ⟨_, "bool", _, _, rfl, .inl (TyOf.bl _), kit_bb _, ?_⟩
  | refine ⟨_, _, rfl, .inr (by walk_at "sq"), ?_⟩
  | walk_at "r1"
  | fail)
local macro_rules | `(tactic| walk_at "rk") => `(tactic| repeat walk_at "rk1")

structure Cst (K : PySem.W.Frag) (mg : Str → Option Value) : Prop where
  dict : mg "dict" = none
noncomputable def top (i : Nat) : Stmt := PySem.Challenge.pw_curveseat_k40_corners_turn_left.main.body.getD i (.Pass ⟨0, 0, 0, 0⟩)
noncomputable abbrev s_greatest_common : Stmt := top 1
theorem sc_greatest_common : FnScope ["one", "other"] ["one", "other"] (defScope s_greatest_common) := ⟨rfl, rfl, rfl, by decide +kernel, rfl, by decide +kernel, by decide +kernel⟩
noncomputable abbrev s_common_bottoms : Stmt := top 3
theorem sc_common_bottoms : FnScope ["shares", "found", "whole", "one", "more"] ["shares"] (defScope s_common_bottoms) := ⟨rfl, rfl, rfl, by decide +kernel, rfl, by decide +kernel, by decide +kernel⟩
noncomputable abbrev s_product : Stmt := top 4
theorem sc_product : FnScope ["numbers", "found", "number"] ["numbers"] (defScope s_product) := ⟨rfl, rfl, rfl, by decide +kernel, rfl, by decide +kernel, by decide +kernel⟩
noncomputable abbrev s_axis : Stmt := top 5
theorem sc_axis : FnScope ["shares", "bottoms", "whole"] ["shares"] (defScope s_axis) := ⟨rfl, rfl, rfl, by decide +kernel, rfl, by decide +kernel, by decide +kernel⟩
noncomputable abbrev s_axes : Stmt := top 6
theorem sc_axes : FnScope ["points"] ["points"] (defScope s_axes) := ⟨rfl, rfl, rfl, by decide +kernel, rfl, by decide +kernel, by decide +kernel⟩
noncomputable abbrev s_whole_places : Stmt := top 8
theorem sc_whole_places : FnScope ["points", "xs", "ys"] ["points"] (defScope s_whole_places) := ⟨rfl, rfl, rfl, by decide +kernel, rfl, by decide +kernel, by decide +kernel⟩
noncomputable abbrev s_turn : Stmt := top 9
theorem sc_turn : FnScope ["one", "other", "third"] ["one", "other", "third"] (defScope s_turn) := ⟨rfl, rfl, rfl, by decide +kernel, rfl, by decide +kernel, by decide +kernel⟩
noncomputable abbrev s_left_way : Stmt := top 10
theorem sc_left_way : FnScope ["places", "found", "place"] ["places"] (defScope s_left_way) := ⟨rfl, rfl, rfl, by decide +kernel, rfl, by decide +kernel, by decide +kernel⟩
noncomputable abbrev s_hull : Stmt := top 11
theorem sc_hull : FnScope ["points", "told", "places", "around"] ["points"] (defScope s_hull) := ⟨rfl, rfl, rfl, by decide +kernel, rfl, by decide +kernel, by decide +kernel⟩
noncomputable abbrev s_l_cell_at : Stmt := top 13
theorem sc_l_cell_at : FnScope ["_law_script", "_law_k"] ["_law_script", "_law_k"] (defScope s_l_cell_at) := ⟨rfl, rfl, rfl, by decide +kernel, rfl, by decide +kernel, by decide +kernel⟩
noncomputable abbrev s_l_stream : Stmt := top 14
theorem sc_l_stream : FnScope ["_law_cell", "_law_many", "_law_number", "_law_found", "_law_k"] ["_law_cell", "_law_many"] (defScope s_l_stream) := ⟨rfl, rfl, rfl, by decide +kernel, rfl, by decide +kernel, by decide +kernel⟩
noncomputable abbrev s_l_share : Stmt := top 15
theorem sc_l_share : FnScope ["_law_top", "_law_bottom", "_law_one", "_law_other", "_law_rest"] ["_law_top", "_law_bottom"] (defScope s_l_share) := ⟨rfl, rfl, rfl, by decide +kernel, rfl, by decide +kernel, by decide +kernel⟩
noncomputable abbrev s_l_way : Stmt := top 16
theorem sc_l_way : FnScope ["_law_cell", "_law_way_here", "_law_bottom", "_law_start"] ["_law_cell"] (defScope s_l_way) := ⟨rfl, rfl, rfl, by decide +kernel, rfl, by decide +kernel, by decide +kernel⟩
noncomputable abbrev s_l_place : Stmt := top 17
theorem sc_l_place : FnScope ["_law_cell", "_law_way_here", "_law_bottom", "_law_kind", "_law_start", "_law_by", "_law_row"] ["_law_cell", "_law_way_here"] (defScope s_l_place) := ⟨rfl, rfl, rfl, by decide +kernel, rfl, by decide +kernel, by decide +kernel⟩
noncomputable abbrev s_l_handed : Stmt := top 18
theorem sc_l_handed : FnScope ["_law_places", "_law_bottom"] ["_law_places", "_law_bottom"] (defScope s_l_handed) := ⟨rfl, rfl, rfl, by decide +kernel, rfl, by decide +kernel, by decide +kernel⟩
noncomputable abbrev s_l_cross : Stmt := top 19
theorem sc_l_cross : FnScope ["_law_one", "_law_other", "_law_third", "_law_wide"] ["_law_one", "_law_other", "_law_third"] (defScope s_l_cross) := ⟨rfl, rfl, rfl, by decide +kernel, rfl, by decide +kernel, by decide +kernel⟩
noncomputable abbrev s_l_points : Stmt := top 20
theorem sc_l_points : FnScope ["_law_script", "_law_most", "_law_way_here", "_law_more", "_law_cells"] ["_law_script", "_law_most"] (defScope s_l_points) := ⟨rfl, rfl, rfl, by decide +kernel, rfl, by decide +kernel, by decide +kernel⟩
noncomputable abbrev s_l_known : Stmt := top 21
theorem sc_l_known : FnScope ["_law_found", "_law_handed_here", "_law_places", "_law_known_here", "_law_k", "_law_corners", "_law_corner", "_law_one"] ["_law_found", "_law_handed_here", "_law_places"] (defScope s_l_known) := ⟨rfl, rfl, rfl, by decide +kernel, rfl, by decide +kernel, by decide +kernel⟩
noncomputable abbrev s_l_good : Stmt := top 22
theorem sc_l_good : FnScope ["_law_found", "_law_handed_here", "_law_places", "_law_corners", "_law_k"] ["_law_found", "_law_handed_here", "_law_places"] (defScope s_l_good) := ⟨rfl, rfl, rfl, by decide +kernel, rfl, by decide +kernel, by decide +kernel⟩
noncomputable abbrev s_law : Stmt := top 23
theorem sc_law : FnScope ["_law_script", "_law_bottom", "_law_places", "_law_points_here", "_law_handed_here", "_law_found", "_law_kept"] ["_law_script"] (defScope s_law) := ⟨rfl, rfl, rfl, by decide +kernel, rfl, by decide +kernel, by decide +kernel⟩
section
variable {P : Program} {w : World} {K : PySem.W.Frag} {mg : Str → Option Value} {base : Heap}
theorem ok_l_cross (F : FunAt K mg "_law_cross" s_l_cross ["_law_one", "_law_other", "_law_third"]) : DefOk P w K mg base CX0 1 "_law_cross" ["_law_one", "_law_other", "_law_third"] spTurn := by
 refine def_okI F sc_l_cross (fun vs H Q E h => ?_) (fun f cdv A outer s H vs Q E hr h => ?_)
 · obtain ⟨u, v, w, a, b, c, n, rfl, _⟩ := h; rfl
 obtain ⟨_, _, _, a, b, c, n, rfl, ⟨ua, rfl, ha⟩, ⟨ub, rfl, hb⟩, ⟨uc, rfl, hc⟩, hn, ⟨za1, za2⟩, ⟨zb1, zb2⟩, ⟨zc1, zc2⟩, k⟩ := h
 have hu := hr.units
 refine ⟨_, (pss_consI (ps_setI (i := 3) sc_l_cross.nd rfl (Or.inl rfl) (pe_opI op_mulA (pe_opI op_sub (pe_ixI (ix_tupK K) (pvI 1) pe_intI (fun _ _ => rfl)) (pe_ixI (ix_tupK K) (pvI 0) pe_intI (fun _ _ => rfl))) (pe_opI op_sub (pe_ixI (ix_tupK K) (pvI 2) pe_intI (fun _ _ => rfl)) (pe_ixI (ix_tupK K) (pvI 0) pe_intI (fun _ _ => rfl))))) (pss_oneI (ps_retI (pe_opI op_sub (pvI 3) (pe_opI op_mulA (pe_opI op_sub (pe_ixI (ix_tupK K) (pvI 1) pe_intI (fun _ _ => rfl)) (pe_ixI (ix_tupK K) (pvI 0) pe_intI (fun _ _ => rfl))) (pe_opI op_sub (pe_ixI (ix_tupK K) (pvI 2) pe_intI (fun _ _ => rfl)) (pe_ixI (ix_tupK K) (pvI 0) pe_intI (fun _ _ => rfl)))))))), ?_⟩
 walk_at "rd"
 refine ⟨mulN (zb1.sub za1) (zc2.sub za2) (by omega), ?_⟩
 walk_at "rd"
 refine ⟨mulN (zb2.sub za2) (zc1.sub za1) (by omega), ?_⟩
 walk_at "rd"
 exact k
theorem ok_l_known (F : FunAt K mg "_law_known" s_l_known ["_law_found", "_law_handed_here", "_law_places"]) (B : Blt mg) : DefOk P w K mg base CX0 1 "_law_known" ["_law_found", "_law_handed_here", "_law_places"] (spKnown K) := by
 refine def_okI F sc_l_known (fun vs H Q E h => ?_) (fun f cdv A outer s H vs Q E hr h => ?_)
 · obtain ⟨f, a, b, us, ws, zs, cs, pl, Bo, rfl, _⟩ := h; rfl
 obtain ⟨f, a, b, us, ws, zs, cs, pl, Bo, rfl, hf, hC, ha, hW, hb, hZ, hB, hnd, hcm, h40, h80, k⟩ := h
 have hu := hr.units
 refine ⟨_, (pss_consI (ps_ifI (pt_notI (pt_valI (pe_callBI (call_isiK K) (by rfl) B.isinstance PyProof.Rows.boot_isinstance (pa_consI (pvI 0) (pa_consI (pe_bltnI (v := .ty "list") rfl B.list PyProof.Rows.boot_list rfl) pa_nilI))))) (pss_oneI (ps_retI pe_nonI)) pss_nilI) (pss_consI (ps_setI (i := 3) sc_l_known.nd rfl (Or.inl rfl) (pe_dnewPI P w)) (pss_consI (ps_forI PassesOwn.never rfl (pi_range1I rfl B.range (pa_consI (pe_callBI (call_lenK K) (by rfl) B.len PySem.boot_len (pa_consI (pvI 1) pa_nilI)) pa_nilI)) (pg_nameI (i := 4) sc_l_known.nd rfl (Or.inl rfl)) (pss_oneI (ps_asgI (pe_ixI (ix_listK K) (pvI 2) (pvI 4) (fun _ _ => rfl)) (pg_subI (pvI 3) (pe_ixI (ix_listK K) (pvI 1) (pvI 4) (fun _ _ => rfl)) (set_pdict P w hu))))) (pss_consI (ps_setI (i := 5) sc_l_known.nd rfl (Or.inl rfl) (pe_lstI pa_nilI)) (pss_consI (ps_forI PassesOwn.never rfl (pi_listKI K (pvI 0)) (pg_nameI (i := 6) sc_l_known.nd rfl (Or.inl rfl)) (pss_consI (ps_ifI (PW_ptI (pw_orI (pt_notI (pt_valI (pe_callBI (call_isiK K) (by rfl) B.isinstance PyProof.Rows.boot_isinstance (pa_consI (pvI 6) (pa_consI (pe_bltnI (v := .ty "tuple") rfl B.tuple PyProof.Rows.boot_tuple rfl) pa_nilI))))) (pw_orI (pt_cmpRI (op_notinP P w hu) (pvI 6) (pvI 3) rfl) (pw_or1I (pt_cmpRI (op_inPl hu) (pe_ixI (ix_pdict P w hu) (pvI 3) (pvI 6) (fun _ _ => rfl)) (pvI 5) rfl))))) (pss_oneI (ps_retI pe_nonI)) pss_nilI) (pss_consI (ps_forI PassesOwn.never rfl (pi_tupKI K (pvI 6)) (pg_nameI (i := 7) sc_l_known.nd rfl (Or.inl rfl)) (pss_oneI (ps_ifI (PW_ptI (pw_orI (pt_notI (pt_valI (pe_callBI (call_isiK K) (by rfl) B.isinstance PyProof.Rows.boot_isinstance (pa_consI (pvI 7) (pa_consI (pe_bltnI (v := .ty "tuple") rfl B.tuple PyProof.Rows.boot_tuple rfl) pa_nilI))))) (pw_orI (pt_cmpRI op_ne (pe_callBI (call_lenK K) (by rfl) B.len PySem.boot_len (pa_consI (pvI 7) pa_nilI)) pe_intI (nomark _)) (pw_orI (pt_valI (pe_callBI (call_isiK K) (by rfl) B.isinstance PyProof.Rows.boot_isinstance (pa_consI (pe_ixI (ix_tupK K) (pvI 7) pe_intI (fun _ _ => rfl)) (pa_consI (pe_bltnI (v := .ty "bool") rfl B.bool PyProof.Rows.boot_bool rfl) pa_nilI)))) (pw_or1I (pt_valI (pe_callBI (call_isiK K) (by rfl) B.isinstance PyProof.Rows.boot_isinstance (pa_consI (pe_ixI (ix_tupK K) (pvI 7) pe_intI (fun _ _ => rfl)) (pa_consI (pe_bltnI (v := .ty "bool") rfl B.bool PyProof.Rows.boot_bool rfl) pa_nilI))))))))) (pss_oneI (ps_retI pe_nonI)) pss_nilI))) (pss_oneI (ps_exprI (show PEi _ _ (tBM K _ _ _ _) from (pe_bmI PySem.F.plainAttrs_list PySem.F.slot_list_append PySem.F.type_list_append mt_append (pvI 5) (pa_consI (pe_ixI (ix_pdict P w hu) (pvI 3) (pvI 6) (fun _ _ => rfl)) pa_nilI)))))))) (pss_oneI (ps_retI (pvI 5)))))))), ?_⟩
 have hwl := hW.len
 have hzl := hZ.len
 have hcl := hC.len
 rw [ptsOf_len] at hwl
 refine ⟨_, rfl, _, "list", _, _, rfl, TyOf.lst hf, kit_ll K, _, rfl, ifF rfl ?_⟩
 intro d hd
 have hD0 : PDA P w (upd H d (PD P w d [])) d [] := ⟨upd_same, fun x hx => by simp at hx⟩
 walk_at "rd"
 refine ⟨by omega, by omega, for_range (fun i σ H' => ∃ (y : Option V) (xs : List PRow), σ = [some (.ref f), some (.ref a), some (.ref b), some (.ref d), y, none, none, none] ∧ Same H H' ∧ PDA P w H' d xs ∧ KnI zs (ptsOf Bo pl) i xs) ⟨none, [], rfl, Same.new hd, hD0, KnI.zero⟩ ?_ ?_⟩
 · rintro i σ H1 hi ⟨y, xs, rfl, s1, hD, hI⟩
   have hi' : i < pl.length := by omega
   have hp : (ptsOf Bo pl)[i]? = some ((ptsOf Bo pl)[i]'(by rw [ptsOf_len]; exact hi')) := List.getElem?_eq_getElem _
   generalize ((ptsOf Bo pl)[i]'(by rw [ptsOf_len]; exact hi')) = p at hp
   obtain ⟨vz, ez⟩ : ∃ vz, zs[i]? = some vz := ⟨zs[i]'(by omega), List.getElem?_eq_getElem _⟩
   obtain ⟨vw, ew⟩ : ∃ vw, ws[i]? = some vw := ⟨ws[i]'(by omega), List.getElem?_eq_getElem _⟩
   obtain ⟨T, rfl, hT⟩ := hZ.get i vz _ ez (List.getElem?_eq_getElem hi')
   obtain ⟨bb, rfl, hk⟩ := ptA_of (hW.get i vw p ew hp)
   walk_at "rd"
   refine ⟨b, _, _, _, rfl, rfl, SqL.of (s1 _ _ hb), atI_nat' (by omega) ez, ?_⟩
   walk_at "rd"
   refine ⟨a, _, _, _, rfl, rfl, SqL.of (s1 _ _ ha), atI_nat' (by omega) ew, ?_⟩
   walk_at "rd"
   refine ⟨d, bb, T, xs, pkQ p, rfl, rfl, rfl, hD, hk.same s1, small_line (by have := hI.len; omega), ?_⟩
   refine ⟨_, _, rfl, fun c o e => ?_, hD.put (hk.same s1), hI.succ hp ez⟩
   rw [upd_ne (ne_of_none e hd)]; exact s1 _ _ e
 · rintro σ H1 ⟨y, xs, rfl, s1, hD, hI⟩
   rw [show (ws.length : Int).toNat = pl.length by omega] at hI
   walk_at "rd"
   intro l hl
   walk_at "rd"
   have hl1 : Same H1 (upd H1 l (.lst [])) := Same.new hl
   refine ⟨⟨us, SqL.of (hl1 _ _ (s1 _ _ hf))⟩, for_list (xs := us) (fun i σ H' => ∃ (y6 y7 : Option V) (vs : List V) (ls : List Pl), σ = [some (.ref f), some (.ref a), some (.ref b), some (.ref d), y, some (.ref l), y6, y7] ∧ Same H1 H' ∧ H' l = some (.lst vs) ∧ PlsV H' vs ls ∧ cs.take i = ls.map (ovr Bo Bo) ∧ (∀ p ∈ ls, p ∈ pl) ∧ ls.length = i) ⟨none, none, [], [], rfl, hl1, upd_same, ⟨rfl, fun i v p e => by simp at e⟩, by simp, fun p h => by simp at h, rfl⟩ ?_ ?_ ?_⟩
   · rintro i σ H2 _ ⟨_, _, _, _, _, s2, _⟩
     exact SqL.of (s2 _ _ (s1 _ _ hf))
   · rintro i x σ H2 hx ⟨y6, y7, vs, ls, rfl, s2, hl2, hP2, htk, hlm, hll⟩
     have hi : i < us.length := (List.getElem?_eq_some_iff.mp hx).1
     have hc : cs[i]? = some (gq cs i) := gq_get (by omega)
     have hcmi := hcm _ (gq_mem (l := cs) (i := i) (by omega))
     have s12 := s1.trans s2
     obtain ⟨cb, rfl, hk⟩ := ptA_of (hC.get i x _ hx hc)
     have hk2 := hk.same s12
     obtain ⟨v, p, hv, hpm, hpc, hpv⟩ := hI.at (hZ.same s12) hcmi
     have hD2 := hD.same s2
     have hnew := fresh_ls hnd htk hc hpc
     obtain ⟨c1, c2, t0, t1, t2⟩ := id hk2
     walk_at "rd"
     refine ifF (by rw [hv]; rfl) ?_
     walk_at "rd"
     refine ⟨d, cb, v, xs, _, rfl, rfl, hD2, hk2, hv, ?_⟩
     walk_at "rd"
     refine ⟨v, l, vs, ls, p, rfl, rfl, hpv, hl2, hP2, _, rfl, ifF (decide_eq_false hnew) ?_⟩
     walk_at "rd"
     refine ⟨⟨_, SqT.of t0⟩, for_plain1 (plain_tup (SqT.of t0)) (fun i σ H' => ∃ y7, σ = [some (.ref f), some (.ref a), some (.ref b), some (.ref d), y, some (.ref l), some (.ref cb), y7] ∧ H' = H2) ⟨y7, rfl, rfl⟩ (fun i σ H' p => by obtain ⟨_, _, rfl⟩ := p; exact L2.Same.refl _) ?_ ?_⟩
     · rintro j σ H' hj ⟨y7, rfl, rfl⟩
       have hj2 : j = 0 ∨ j = 1 := by have : j < 2 := hj; omega
       obtain ⟨e, z1, z2, he, ee⟩ : ∃ e z1 z2, H' e = some (.tup [.int z1, .int z2]) ∧ (([V.ref c1, V.ref c2] : List V)[j]?).getD .non = .ref e := by
         rcases hj2 with rfl | rfl
         · exact ⟨c1, _, _, t1, rfl⟩
         · exact ⟨c2, _, _, t2, rfl⟩
       rw [ee]
       clear hj2 ee
       walk_at "rd"
       rfl
     · rintro σ H' ⟨y7, rfl, rfl⟩
       walk_at "rd"
       refine ⟨.inl ⟨rfl, _, SqL.of hl2⟩, ?_⟩
       walk_at "rd"
       refine ⟨d, cb, v, xs, _, rfl, rfl, hD2, hk2, hv, ?_⟩
       walk_at "rd"
       refine ⟨l, _, _, rfl, rfl, hl2, by rw [hP2.len]; exact small_line (by omega), _, _, vs ++ [.ref v], ls ++ [p], rfl, fun c o e => ?_, upd_same, ?_, snocls htk hc hpc, fun q hq => ?_, by simp [hll]⟩
       · rw [upd_ne (ne_of_none e hl)]; exact s2 _ _ e
       · exact plsapp (hP2.tup (Tup.lst hl2)) ⟨rfl, fun i u q e1 e2 => by
           cases i with
           | zero => cases e1; cases e2; exact ⟨v, rfl, Tup.lst hl2 _ _ hpv⟩
           | succ i => simp at e1⟩
       · rcases List.mem_append.mp hq with h | h
         · exact hlm q h
         · rw [List.mem_singleton.mp h]; exact hpm
   · rintro σ H2 ⟨y6, y7, vs, ls, rfl, s2, hl2, hP2, htk, hlm, hll⟩
     walk_at "rd"
     exact k l vs ls H2 (s1.trans s2) (s1.free hl) hl2 hP2 (by rw [← htk, List.take_of_length_le (by omega)]) hlm
theorem ok_l_good (F : FunAt K mg "_law_good" s_l_good ["_law_found", "_law_handed_here", "_law_places"]) (B : Blt mg) (D_l_cross : DefOk P w K mg base CX0 1 "_law_cross" ["_law_one", "_law_other", "_law_third"] spTurn) (D_l_known : DefOk P w K mg base CX0 1 "_law_known" ["_law_found", "_law_handed_here", "_law_places"] (spKnown K)) : DefOk P w K mg base CX0 2 "_law_good" ["_law_found", "_law_handed_here", "_law_places"] (spGoodH K) := by
 refine def_okI F sc_l_good (fun vs H Q E h => ?_) (fun f cdv A outer s H vs Q E hr h => ?_)
 · obtain ⟨f, a, b, us, ws, zs, cs, pl, Bo, rfl, _⟩ := h; rfl
 obtain ⟨f, a, b, us, ws, zs, cs, pl, Bo, rfl, hf, hC, ha, hW, hb, hZ, hB, hul, h40, hsz, k⟩ := h
 have hu := hr.units
 refine ⟨_, (pss_consI (ps_setI (i := 3) sc_l_good.nd rfl (Or.inl rfl) (pe_fnI D_l_known hr pass0 (pa_consI (pvI 0) (pa_consI (pvI 1) (pa_consI (pvI 2) pa_nilI))))) (pss_consI (ps_ifI (PW_ptI (pw_orI (pt_cmpRI op_isN (pvI 3) pe_nonI (nomark _)) (pw_orI (pt_cmpRI (op_eqDK K hu) (pvI 3) (pe_lstI pa_nilI) (nomark _)) (pw_or1I (pt_cmpRI (op_neDK K hu) (pe_ixI (ix_listK K) (pvI 3) pe_intI (fun _ _ => rfl)) (pe_callBI (call_minN K rfl (u8 hu)) (by rfl) B.min PyProof.Rows.boot_min (pa_consI (pvI 2) pa_nilI)) (nomark _)))))) (pss_oneI (ps_retI pe_blI)) pss_nilI) (pss_consI (ps_ifI (pt_cmpRI op_lt (pe_callBI (call_lenK K) (by rfl) B.len PySem.boot_len (pa_consI (pvI 3) pa_nilI)) pe_intI (nomark _)) (pss_oneI (ps_retI pe_blI)) pss_nilI) (pss_consI (ps_forI PassesOwn.never rfl (pi_range1I rfl B.range (pa_consI (pe_callBI (call_lenK K) (by rfl) B.len PySem.boot_len (pa_consI (pvI 3) pa_nilI)) pa_nilI)) (pg_nameI (i := 4) sc_l_good.nd rfl (Or.inl rfl)) (pss_oneI (ps_ifI (pt_cmpRI op_le (pe_fnI D_l_cross hr pass0 (pa_consI (pe_ixI (ix_listK K) (pvI 3) (pe_opI op_sub (pvI 4) pe_intI) (fun _ _ => rfl)) (pa_consI (pe_ixI (ix_listK K) (pvI 3) (pe_opI op_sub (pvI 4) pe_intI) (fun _ _ => rfl)) (pa_consI (pe_ixI (ix_listK K) (pvI 3) (pvI 4) (fun _ _ => rfl)) pa_nilI)))) pe_intI (nomark _)) (pss_oneI (ps_retI pe_blI)) pss_nilI))) (pss_oneI (ps_retI pe_blI)))))), ?_⟩
 have hq := hul.q
 have hlen2 := ptsOf_len Bo pl
 have hcl : cs.length ≤ pl.length := by rw [← hlen2]; exact hul.nodup.length_le_of_subset fun c hc => hq.mem c hc
 have hne := hq.ne
 walk_at "rd"
 refine ⟨f, a, b, us, ws, zs, cs, pl, Bo, rfl, hf, hC, ha, hW, hb, hZ, hB, hul.nodup, hq.mem, h40, by omega, fun lk vs ls H4 s4 hk0 hk hL hcs hlm => ?_⟩
 have ecl : cs.length = ls.length := by rw [hcs, List.length_map]
 walk_at "rd"
 intro pe hpe
 have hL5 := hL.same (Same.new (o := .lst []) hpe)
 have hlk5 : (upd H4 pe (.lst [])) lk = some (.lst vs) := Same.new hpe _ _ hk
 have hZ5 := hZ.same (s4.trans (Same.new (o := .lst []) hpe))
 have hb5 : (upd H4 pe (.lst [])) b = some (.lst zs) := Same.new hpe _ _ (s4 _ _ hb)
 have s5 : Same H (upd H4 pe (.lst [])) := s4.trans (Same.new hpe)
 refine ⟨datPls ls, datPls [], dnPls hlk5 hL5, dnPls upd_same ⟨rfl, fun i v p e => by simp at e⟩, datPls_ok _ 6, datPls_ok _ 6, fun b hb => ?_⟩
 obtain rfl : b = false := by
   cases b with
   | false => rfl
   | true =>
     have := datPls_nil.mp (hb.mp rfl)
     rw [this, List.length_nil] at ecl; omega
 clear hb
 refine ⟨_, rfl, ifF rfl ?_⟩
 generalize (upd H4 pe (.lst [])) = H5 at *
 have hvl := hL5.len
 obtain ⟨v0, e0, hv0⟩ := hL5.at (g0_get (l := ls) (i := 0) (by omega))
 walk_at "rd"
 refine ⟨lk, _, _, _, rfl, rfl, SqL.of hlk5, atI_nat' (j := 0) rfl e0, ?_⟩
 walk_at "rd"
 dsimp only [tNil]
 refine ⟨b, zs, pl, rfl, SqL.of hb5, hZ5, by omega, fun mb M hM hmb hmin => ?_⟩
 refine ⟨datPl (g0 ls 0), datPl M, dnPl hv0, dnPl hmb, datPl_ok _ 7, datPl_ok _ 7, fun b1 hb1 => ?_⟩
 obtain rfl := hb1.mpr (by rw [first_min hB hul hcs hlm (by omega) hM hmin])
 refine ⟨_, rfl, ifF rfl ?_⟩
 walk_at "rd"
 refine ifB (fun h3 => ?_) (fun h3 => ?_)
 · walk_at "rd"
   exact k _ s5
 have hn3 : 3 ≤ ls.length := by
   have := of_decide_eq_false h3
   omega
 walk_at "rd"
 refine ⟨by omega, by omega, for_range (fun i σ H' => ∃ y : Option V, σ = [some (.ref f), some (.ref a), some (.ref b), some (.ref lk), y] ∧ H' = H5) ⟨none, rfl, rfl⟩ ?_ ?_⟩
 · rintro i σ H' hi ⟨y, rfl, rfl⟩
   have hi' : i < ls.length := by omega
   have m1 : (i + ls.length - 2) % ls.length < ls.length := Nat.mod_lt _ (by omega)
   have m2 : (i + ls.length - 1) % ls.length < ls.length := Nat.mod_lt _ (by omega)
   obtain ⟨va, ea, hva⟩ := hL5.at (g0_get m1)
   obtain ⟨vb, eb, hvb⟩ := hL5.at (g0_get m2)
   obtain ⟨vc, ec, hvc⟩ := hL5.at (g0_get hi')
   have hs := strict_ls hB hul hcs hn3 i hi'
   have hz : ∀ j, j < ls.length → SzPl 800000 (g0 ls j) := fun j hj => hsz _ (hlm _ (g0_mem hj))
   walk_at "rd"
   refine ⟨lk, _, _, _, rfl, rfl, SqL.of hlk5, (show atI vs (0 + (i : Int) - 2) = some (.ref va) by rw [Int.zero_add, atI_back (by omega) (by omega), hvl]; exact ea), ?_⟩
   walk_at "rd"
   refine ⟨lk, _, _, _, rfl, rfl, SqL.of hlk5, (show atI vs (0 + (i : Int) - 1) = some (.ref vb) by rw [Int.zero_add, atI_pred (by omega), hvl]; exact eb), ?_⟩
   walk_at "rd"
   refine ⟨lk, _, _, _, rfl, rfl, SqL.of hlk5, atI_nat' (by omega) ec, ?_⟩
   walk_at "rd"
   dsimp only [tNil]
   refine ⟨_, _, _, _, _, g0 ls i, 800000, rfl, ⟨va, rfl, hva⟩, ⟨vb, rfl, hvb⟩, ⟨vc, rfl, hvc⟩, by omega, hz _ m1, hz _ m2, hz _ hi', ?_⟩
   walk_at "rd"
   refine ifF (decide_eq_false (by omega)) ?_
   walk_at "rd"
   rfl
 · rintro σ H' ⟨y, rfl, rfl⟩
   walk_at "rd"
   exact k _ s5
theorem ok_l_share (F : FunAt K mg "_law_share" s_l_share ["_law_top", "_law_bottom"]) (B : Blt mg) : DefOk P w K mg base CX0 1 "_law_share" ["_law_top", "_law_bottom"] spLShare := by
 refine def_okI F sc_l_share (fun vs H Q E h => ?_) (fun f cdv A outer s H vs Q E hr h => ?_)
 · obtain ⟨a, b, rfl, _⟩ := h; rfl
 obtain ⟨t, b, rfl, hb, hz, k⟩ := h
 have hu := hr.units
 refine ⟨_, (pss_consI (ps_setI (i := 2) sc_l_share.nd rfl (Or.inl rfl) (pe_callBI call_abs (by rfl) B.abs PyProof.Rows.boot_abs (pa_consI (pvI 0) pa_nilI))) (pss_consI (ps_setI (i := 3) sc_l_share.nd rfl (Or.inl rfl) (pvI 1)) (pss_consI (ps_whileI PassesOwn.never (pt_cmpRI op_gt (pvI 3) pe_intI (nomark _)) (pss_consI (ps_setI (i := 4) sc_l_share.nd rfl (Or.inl rfl) (pe_opI op_mod (pvI 2) (pvI 3))) (pss_consI (ps_setI (i := 2) sc_l_share.nd rfl (Or.inl rfl) (pvI 3)) (pss_oneI (ps_setI (i := 3) sc_l_share.nd rfl (Or.inl rfl) (pvI 4)))))) (pss_oneI (ps_retI (pe_tupI (pa_consI (pe_opI op_fdivB (pvI 0) (pvI 2)) (pa_consI (pe_opI op_fdivB (pvI 1) (pvI 2)) pa_nilI)))))))), ?_⟩
 have g0 : (Int.gcd t b : Int) ≠ 0 := gcd_pos' t b (by omega)
 have gz : Sz 9000 (Int.gcd t b : Int) := hz.le (by
   rw [Int.natAbs_natCast]
   exact Nat.le_of_dvd (by omega) (Int.gcd_dvd_natAbs_right t b))
 walk_at "rd"
 refine while_by (fun σ H' => ∃ (x y : Int) (z : Option V), σ = [some (.int t), some (.int b), some (.int x), some (.int y), z] ∧ H' = H ∧ 0 ≤ x ∧ 0 ≤ y ∧ Int.gcd x y = Int.gcd t b) (fun σ _ => match σ with | [_, _, _, some (.int y), _] => y.natAbs | _ => 0) ⟨_, b, none, rfl, rfl, by split <;> omega, by omega, gcd_abs t b⟩ ?_ ?_
 · rintro σ H' ⟨x, y, z, rfl, rfl, hx, hy, e⟩
   refine ⟨_, rfl, _, _, rfl, rfl, _, rfl, ite_dec (fun h0 => ?_) (fun h0 => ?_)⟩
   · refine ⟨_, rfl, _, rfl, _, _, rfl, rfl, h0, ?_⟩
     walk_at "rd"
     refine ⟨⟨_, _, _, rfl, rfl, hy, Int.emod_nonneg x (by omega), ?_⟩, ?_⟩
     · rw [emod_gcd x y h0]; exact e
     · show (x % y).natAbs < y.natAbs
       have := Int.emod_lt_of_pos x h0
       have := Int.emod_nonneg x (b := y) (by omega)
       omega
   · have h0' : y = 0 := by omega
     subst h0'
     have hg := low_gcd hx e
     subst hg
     refine ⟨_, rfl, _, rfl, _, _, rfl, rfl, ⟨g0, gz⟩, _, rfl, _, rfl, _, _, rfl, rfl, ⟨g0, gz⟩, (by show 2 ≤ sizeLine; decide), fun p hp => ?_⟩
     have e := share_pos t b hb
     refine k _ _ (Same.new hp) ⟨p, rfl, ?_⟩
     rw [upd_same, ← e.1, ← e.2]
 · rintro σ H' Q Q' hq ⟨v, h1, i, j, h2, h3, c, h4, h5⟩
   exact ⟨v, h1, i, j, h2, h3, c, h4, hq _ _ h5⟩
theorem ok_l_handed (F : FunAt K mg "_law_handed" s_l_handed ["_law_places", "_law_bottom"]) (D_l_share : DefOk P w K mg base CX0 1 "_law_share" ["_law_top", "_law_bottom"] spLShare) : DefOk P w K mg base CX0 2 "_law_handed" ["_law_places", "_law_bottom"] (spHanded K) := by
 refine def_okI F sc_l_handed (fun vs H Q E h => ?_) (fun f cdv A outer s H vs Q E hr h => ?_)
 · obtain ⟨a, ws, pl, B, rfl, _⟩ := h; rfl
 obtain ⟨a, ws, pl, B, rfl, hS, hP, B1, zB, h1000, k⟩ := h
 have hu := hr.units
 refine ⟨_, (pss_oneI (ps_retI (pe_compSI (os := ["_law_x", "_law_y"]) (caps := [(1, "_law_bottom")]) ["_law_places", "_law_bottom"] (defScope s_l_handed) (pi_listKI K (pvI 0)) (fun _ _ _ _ _ => (pg_tupKI (n := 2) K rfl (pgs_consI (pg_nameI (i := 0) (show List.Nodup (["_law_x", "_law_y", "_law_bottom"] : List Str) from by decide +kernel) rfl (Or.inl rfl)) (pgs_consI (pg_nameI (i := 1) (show List.Nodup (["_law_x", "_law_y", "_law_bottom"] : List Str) from by decide +kernel) rfl (Or.inl rfl)) pgs_nilI)))) (fun _ _ _ _ _ => (pe_tupI (pa_consI (pe_fnI D_l_share hr pass0 (pa_consI (pvI 0) (pa_consI (pvI 2) pa_nilI))) (pa_consI (pe_fnI D_l_share hr pass0 (pa_consI (pvI 1) (pa_consI (pvI 2) pa_nilI))) pa_nilI)))) (by decide +kernel)))), ?_⟩
 walk_at "rd"
 refine ⟨⟨_, hS⟩, comp2 (plain_pls hS hP) (by omega) (fun i v H => PtV H v (Rat.divInt ((pl[i]?).getD (0, 0)).1 B) (Rat.divInt ((pl[i]?).getD (0, 0)).2 B)) (fun _ _ _ _ t h => h.tup t) (fun i H2 kk hi s2 hk => ?_) (fun E us H2 hE s2 hE2 hl hr => ?_)⟩
 · walk_at "rd"
   refine ⟨_, _, rfl, by omega, zB, fun v3 H3 s3 w3 => ?_⟩
   walk_at "rd"
   refine ⟨_, _, rfl, by omega, zB, fun v4 H4 s4 w4 => ?_⟩
   walk_at "rd"
   intro p hp
   exact hk _ _ (by walk_at "sm") ⟨p, v3, v4, rfl, upd_same, by walk_at "mv", by walk_at "mv"⟩
 · refine k E us H2 s2 hE hE2 ⟨by rw [hl]; unfold ptsOf; rw [List.length_map], fun i v p e1 e2 => ?_⟩
   unfold ptsOf at e2
   rw [List.getElem?_map] at e2
   have := hr i v e1
   cases e3 : pl[i]? with
   | none => rw [e3] at e2; cases e2
   | some q => rw [e3] at e2 this; cases e2; exact this
theorem ok_l_cell_at (F : FunAt K mg "_law_cell_at" s_l_cell_at ["_law_script", "_law_k"]) (B : Blt mg) : DefOk P w K mg base CX0 1 "_law_cell_at" ["_law_script", "_law_k"] (spCell K) := by
 refine def_okI F sc_l_cell_at (fun vs H Q E h => ?_) (fun f cdv A outer s H vs Q E hr h => ?_)
 · obtain ⟨a, ns, i, rfl, _⟩ := h; rfl
 obtain ⟨a, ns, i, rfl, hS, h0, k⟩ := h
 have hu := hr.units
 refine ⟨_, (pss_consI (ps_ifI (pt_cmpRI op_lt (pvI 1) (pe_callBI (call_lenK K) (by rfl) B.len PySem.boot_len (pa_consI (pvI 0) pa_nilI)) (nomark _)) (pss_oneI (ps_retI (pe_ixI (ix_listK K) (pvI 0) (pvI 1) (fun _ _ => rfl)))) pss_nilI) (pss_oneI (ps_retI pe_intI))), ?_⟩
 refine ⟨_, rfl, _, rfl, a, _, rfl, .inl hS, _, _, rfl, rfl, _, rfl, ite_dec (fun hn => ?_) (fun hn => ?_)⟩
 · rw [List.length_map] at hn
   refine ⟨_, rfl, _, rfl, a, _, _, _, rfl, rfl, hS, at_mapZ ns i h0 hn, ?_⟩
   exact k _
 · exact k 0
theorem ok_l_stream (F : FunAt K mg "_law_stream" s_l_stream ["_law_cell", "_law_many"]) (B : Blt mg) : DefOk P w K mg base CX0 1 "_law_stream" ["_law_cell", "_law_many"] spStreamC := by
 refine def_okI F sc_l_stream (fun vs H Q E h => ?_) (fun f cdv A outer s H vs Q E hr h => ?_)
 · obtain ⟨c, n, rfl, _⟩ := h; rfl
 obtain ⟨c, n, rfl, hn, k⟩ := h
 have hu := hr.units
 refine ⟨_, (pss_consI (ps_setI (i := 2) sc_l_stream.nd rfl (Or.inl rfl) (pe_opI op_add pe_intI (pe_opI op_mod (pvI 0) pe_intI))) (pss_consI (ps_setI (i := 3) sc_l_stream.nd rfl (Or.inl rfl) (pe_lstI pa_nilI)) (pss_consI (ps_forI PassesOwn.never rfl (pi_range1I rfl B.range (pa_consI (pe_opI op_add (pvI 1) pe_intI) pa_nilI)) (pg_nameI (i := 4) sc_l_stream.nd rfl (Or.inl rfl)) (pss_consI (ps_setI (i := 2) sc_l_stream.nd rfl (Or.inl rfl) (pe_opI op_mod (pe_opI op_mulA (pvI 2) pe_intI) pe_intI)) (pss_oneI (ps_exprI (show PEi _ _ (tBM K _ _ _ _) from (pe_bmI PySem.F.plainAttrs_list PySem.F.slot_list_append PySem.F.type_list_append mt_append (pvI 3) (pa_consI (pvI 2) pa_nilI))))))) (pss_oneI (ps_retI (pe_sliceI (sl_listK K) (pvI 3) (po_someI pe_intI) po_noneI)))))), ?_⟩
 walk_at "rd"
 intro l hl
 walk_at "rd"
 refine ⟨by omega, by omega, for_range (fun i σ H' => ∃ (x : Int) (xs : List Int) (y : Option V), σ = [some (.int c), some (.int (n : Int)), some (.int x), some (.ref l), y] ∧ Same H H' ∧ H' l = some (.lst (xs.map V.int)) ∧ xs.length = i ∧ ∀ z ∈ xs, 0 ≤ z ∧ z ≤ 2147483647) ⟨_, [], none, rfl, Same.new hl, upd_same, rfl, fun _ h => nomatch h⟩ ?_ ?_⟩
 · rintro i σ H2 hi ⟨x, xs, y, rfl, s2, h2, hlen, hx⟩
   walk_at "rd"
   refine ⟨.inl ⟨rfl, _, SqL.of h2⟩, ?_⟩
   walk_at "rd"
   refine ⟨l, _, _, rfl, rfl, h2, ?_, ?_⟩
   · rw [List.length_map, hlen]; exact small_line (by omega)
   · refine ⟨_, xs ++ [x * 48271 % 2147483647], _, rfl, fun b o e => ?_, ?_, ?_, ?_⟩
     · rw [upd_ne (ne_of_none e hl)]; exact s2 b o e
     · rw [upd_same, List.map_append]; rfl
     · rw [List.length_append, hlen]; rfl
     · intro z hz
       rcases List.mem_append.mp hz with hz | hz
       · exact hx z hz
       · cases List.mem_singleton.mp hz
         have := Int.emod_nonneg (x * 48271) (b := 2147483647) (by decide)
         have := Int.emod_lt_of_pos (x * 48271) (b := 2147483647) (by decide)
         omega
 · rintro σ H2 ⟨x, xs, y, rfl, s2, h2, hlen, hx⟩
   refine ⟨_, rfl, 2, rfl, l, _, rfl, SqL.of h2, fun q hq => ?_⟩
   rw [cut_fromI V.int xs 2 2 rfl (by omega)]
   exact k q (xs.drop 2) _ (s2.trans (Same.new hq)) (s2.free hq) upd_same (by rw [List.length_drop, hlen]; omega) fun z hz => hx z (List.mem_of_mem_drop hz)
theorem ok_l_place (F : FunAt K mg "_law_place" s_l_place ["_law_cell", "_law_way_here"]) (D_l_stream : DefOk P w K mg base CX0 1 "_law_stream" ["_law_cell", "_law_many"] spStreamC) : DefOk P w K mg base CX0 2 "_law_place" ["_law_cell", "_law_way_here"] spPlace := by
 refine def_okI F sc_l_place (fun vs H Q E h => ?_) (fun f cdv A outer s H vs Q E hr h => ?_)
 · obtain ⟨c, w, B, kd, rfl, _⟩ := h; rfl
 obtain ⟨c, _, B, kd, rfl, ⟨a, s, b, sx, sy, bx, by_, rfl, ha, hs, hb, B1, B2, z1, z2, z3, z4⟩, k⟩ := h
 have hu := hr.units
 refine ⟨_, (pss_consI (ps_asgI (pvI 1) (pg_tupKI (n := 4) K rfl (pgs_consI (pg_nameI (i := 2) sc_l_place.nd rfl (Or.inl rfl)) (pgs_consI (pg_nameI (i := 3) sc_l_place.nd rfl (Or.inl rfl)) (pgs_consI (pg_nameI (i := 4) sc_l_place.nd rfl (Or.inl rfl)) (pgs_consI (pg_nameI (i := 5) sc_l_place.nd rfl (Or.inl rfl)) pgs_nilI)))))) (pss_consI (ps_setI (i := 6) sc_l_place.nd rfl (Or.inl rfl) (pe_fnI D_l_stream hr pass0 (pa_consI (pvI 0) (pa_consI pe_intI pa_nilI)))) (pss_consI (ps_ifI (pt_cmpRI op_eq (pvI 3) pe_intI (nomark _)) (pss_oneI (ps_retI (pe_tupI (pa_consI (pe_opI op_sub (pe_opI op_mod (pvI 0) (pe_opI op_pow pe_intI pe_intI)) (pe_opI op_mulA pe_intI (pe_opI op_pow pe_intI pe_intI))) (pa_consI (pe_opI op_sub (pe_opI op_mod (pe_opI op_mulA (pvI 0) (pe_ixI (ix_listK K) (pvI 6) pe_intI (fun _ _ => rfl))) (pe_opI op_pow pe_intI pe_intI)) (pe_opI op_mulA pe_intI (pe_opI op_pow pe_intI pe_intI))) pa_nilI))))) pss_nilI) (pss_consI (ps_ifI (pt_cmpRI op_eq (pvI 3) pe_intI (nomark _)) (pss_oneI (ps_retI (pe_tupI (pa_consI (pe_opI op_add (pe_ixI (ix_tupK K) (pvI 4) pe_intI (fun _ _ => rfl)) (pe_opI op_mulA (pe_ixI (ix_tupK K) (pvI 5) pe_intI (fun _ _ => rfl)) (pe_opI op_mod (pe_ixI (ix_listK K) (pvI 6) pe_intI (fun _ _ => rfl)) pe_intI))) (pa_consI (pe_opI op_add (pe_ixI (ix_tupK K) (pvI 4) pe_intI (fun _ _ => rfl)) (pe_opI op_mulA (pe_ixI (ix_tupK K) (pvI 5) pe_intI (fun _ _ => rfl)) (pe_opI op_mod (pe_ixI (ix_listK K) (pvI 6) pe_intI (fun _ _ => rfl)) pe_intI))) pa_nilI))))) pss_nilI) (pss_consI (ps_ifI (pt_cmpRI op_eq (pvI 3) pe_intI (nomark _)) (pss_oneI (ps_retI (pe_tupI (pa_consI (pe_opI op_add (pe_ixI (ix_tupK K) (pvI 4) pe_intI (fun _ _ => rfl)) (pe_opI op_mulA (pe_opI op_mod (pe_ixI (ix_listK K) (pvI 6) pe_intI (fun _ _ => rfl)) pe_intI) (pe_ixI (ix_tupK K) (pvI 5) pe_intI (fun _ _ => rfl)))) (pa_consI (pe_ixI (ix_tupK K) (pvI 4) pe_intI (fun _ _ => rfl)) pa_nilI))))) pss_nilI) (pss_consI (ps_ifI (pt_cmpRI op_eq (pvI 3) pe_intI (nomark _)) (pss_oneI (ps_retI (pe_tupI (pa_consI (pe_opI op_add (pe_opI op_mulA (pe_ixI (ix_tupK K) (pvI 4) pe_intI (fun _ _ => rfl)) (pe_opI op_pow pe_intI pe_intI)) (pe_opI op_mod (pe_ixI (ix_listK K) (pvI 6) pe_intI (fun _ _ => rfl)) pe_intI)) (pa_consI (pe_opI op_add (pe_opI op_mulA (pe_ixI (ix_tupK K) (pvI 4) pe_intI (fun _ _ => rfl)) (pe_opI op_pow pe_intI pe_intI)) (pe_opI op_mod (pe_ixI (ix_listK K) (pvI 6) pe_intI (fun _ _ => rfl)) pe_intI)) pa_nilI))))) pss_nilI) (pss_consI (ps_ifI (pt_cmpRI op_gt (pvI 0) pe_intI (nomark _)) (pss_oneI (ps_retI (pe_tupI (pa_consI (pe_opI op_sub (pe_opI op_mod (pvI 0) pe_intI) pe_intI) (pa_consI (pe_opI op_sub (pe_opI op_mod (pe_opI op_fdiv (pvI 0) pe_intI) pe_intI) pe_intI) pa_nilI))))) pss_nilI) (pss_oneI (ps_retI (pe_tupI (pa_consI (pe_opI op_sub (pe_opI op_mod (pe_ixI (ix_listK K) (pvI 6) pe_intI (fun _ _ => rfl)) pe_intI) pe_intI) (pa_consI (pe_opI op_sub (pe_opI op_mod (pe_ixI (ix_listK K) (pvI 6) pe_intI (fun _ _ => rfl)) pe_intI) pe_intI) pa_nilI)))))))))))), ?_⟩
 walk_at "rd"
 refine ⟨a, _, rfl, SqT.of ha, rfl, _, _, rfl, _, _, rfl, _, _, rfl, _, _, rfl, rfl, ?_⟩
 walk_at "rd"
 refine ⟨c, 4, rfl, by decide, fun lx xs H1 s1 hx0 hx hxl hnn => ?_⟩
 have nn : ∀ j : Nat, 0 ≤ xs.getD j 0 := fun j => getD_nn (fun x h => (hnn x h).1) j
 have n0 := nn 0
 have n1 := nn 1
 have m0 : xs.getD 0 0 ≤ 2147483647 := by
   have e : xs[0]? = some (xs[0]'(by omega)) := List.getElem?_eq_getElem _
   rw [List.getD_eq_getElem?_getD, e]; exact (hnn _ (List.getElem_mem _)).2
 have m0' : xs.getD (Int.toNat 0) 0 ≤ 2147483647 := m0
 have n0' : 0 ≤ xs.getD (Int.toNat 0) 0 := n0
 have n1' : 0 ≤ xs.getD (Int.toNat 1) 0 := n1
 have hx1 : SqL K H1 lx (xs.map V.int) := SqL.of hx
 walk_at "rd"
 refine ifB (fun _ => ?_) (fun _ => ?_)
 · walk_at "rd"
   intro g hg
   rw [p29, p30] at *
   have a1 := Int.emod_nonneg c (b := 1000000000000000000000000000000) (by decide)
   have a2 := Int.emod_lt_of_pos c (b := 1000000000000000000000000000000) (by decide)
   have a3 := Int.emod_nonneg (c * xs.getD (Int.toNat 0) 0) (b := 1000000000000000000000000000000) (by decide)
   have a4 := Int.emod_lt_of_pos (c * xs.getD (Int.toNat 0) 0) (b := 1000000000000000000000000000000) (by decide)
   exact k _ _ _ _ (by walk_at "sm") ⟨g, rfl, upd_same⟩ (sz_of (b := 1000000000000000000000000000000) (by omega) (by decide)) (sz_of (b := 1000000000000000000000000000000) (by omega) (by decide))
 have hs1 := s1 _ _ hs
 have hb1 := s1 _ _ hb
 have f9 : ∀ (u v : Int), u.natAbs ≤ 3 → 0 ≤ v → v < 9 → (u * v).natAbs ≤ 27 := fun u v h1 h2 h3 => by
   rw [Int.natAbs_mul]
   exact Nat.le_trans (Nat.mul_le_mul h1 (show v.natAbs ≤ 9 by omega)) (by decide)
 walk_at "rd"
 refine ifB (fun _ => ?_) (fun _ => ?_)
 · walk_at "rd"
   intro g hg
   have q1 := f9 bx (xs.getD (Int.toNat 0) 0 % 9) z3 (by omega) (by omega)
   have q2 := f9 by_ (xs.getD (Int.toNat 0) 0 % 9) z4 (by omega) (by omega)
   exact k _ _ _ _ (by walk_at "sm") ⟨g, rfl, upd_same⟩ (sz_of (b := 1000000000000000000000000000000) (by omega) (by decide)) (sz_of (b := 1000000000000000000000000000000) (by omega) (by decide))
 walk_at "rd"
 refine ifB (fun _ => ?_) (fun _ => ?_)
 · walk_at "rd"
   intro g hg
   have q1 := f9 bx (xs.getD (Int.toNat 0) 0 % 2) z3 (by omega) (by omega)
   rw [Int.mul_comm] at q1
   exact k _ _ _ _ (by walk_at "sm") ⟨g, rfl, upd_same⟩ (sz_of (b := 1000000000000000000000000000000) (by omega) (by decide)) (sz_of (b := 1000000000000000000000000000000) (by omega) (by decide))
 walk_at "rd"
 refine ifB (fun _ => ?_) (fun _ => ?_)
 · walk_at "rd"
   intro g hg
   rw [p25] at *
   exact k _ _ _ _ (by walk_at "sm") ⟨g, rfl, upd_same⟩ (sz_of (b := 1000000000000000000000000000000) (by omega) (by decide)) (sz_of (b := 1000000000000000000000000000000) (by omega) (by decide))
 walk_at "rd"
 refine ite_dec (fun _ => ?_) (fun _ => ?_)
 · walk_at "rd"
   intro g hg
   exact k _ _ _ _ (by walk_at "sm") ⟨g, rfl, upd_same⟩ (sz_of (b := 1000000000000000000000000000000) (by omega) (by decide)) (sz_of (b := 1000000000000000000000000000000) (by omega) (by decide))
 walk_at "rd"
 intro g hg
 exact k _ _ _ _ (by walk_at "sm") ⟨g, rfl, upd_same⟩ (sz_of (b := 1000000000000000000000000000000) (by omega) (by decide)) (sz_of (b := 1000000000000000000000000000000) (by omega) (by decide))
theorem ok_l_way (F : FunAt K mg "_law_way" s_l_way ["_law_cell"]) (D_l_stream : DefOk P w K mg base CX0 1 "_law_stream" ["_law_cell", "_law_many"] spStreamC) : DefOk P w K mg base CX0 2 "_law_way" ["_law_cell"] spWay := by
 refine def_okI F sc_l_way (fun vs H Q E h => ?_) (fun f cdv A outer s H vs Q E hr h => ?_)
 · obtain ⟨c, rfl, _⟩ := h; rfl
 obtain ⟨c, rfl, k⟩ := h
 have hu := hr.units
 refine ⟨_, (pss_consI (ps_setI (i := 1) sc_l_way.nd rfl (Or.inl rfl) (pe_fnI D_l_stream hr pass0 (pa_consI (pvI 0) (pa_consI pe_intI pa_nilI)))) (pss_consI (ps_setI (i := 2) sc_l_way.nd rfl (Or.inl rfl) (pe_ixI (ix_listK K) (pe_lstI (pa_consI pe_intI (pa_consI pe_intI (pa_consI pe_intI (pa_consI pe_intI (pa_consI pe_intI (pa_consI pe_intI (pa_consI pe_intI (pa_consI (pe_opI op_add (pe_opI op_pow pe_intI pe_intI) pe_intI) pa_nilI))))))))) (pe_opI op_mod (pe_ixI (ix_listK K) (pvI 1) pe_intI (fun _ _ => rfl)) pe_intI) (fun _ _ => rfl))) (pss_consI (ps_setI (i := 3) sc_l_way.nd rfl (Or.inl rfl) (pe_tupI (pa_consI (pe_opI op_sub (pe_opI op_mod (pe_ixI (ix_listK K) (pvI 1) pe_intI (fun _ _ => rfl)) pe_intI) pe_intI) (pa_consI (pe_opI op_sub (pe_opI op_mod (pe_ixI (ix_listK K) (pvI 1) pe_intI (fun _ _ => rfl)) pe_intI) pe_intI) pa_nilI)))) (pss_oneI (ps_retI (pe_tupI (pa_consI (pvI 2) (pa_consI (pe_opI op_mod (pe_ixI (ix_listK K) (pvI 1) pe_intI (fun _ _ => rfl)) pe_intI) (pa_consI (pvI 3) (pa_consI (pe_tupI (pa_consI (pe_opI op_sub (pe_opI op_mod (pe_ixI (ix_listK K) (pvI 1) pe_intI (fun _ _ => rfl)) pe_intI) pe_intI) (pa_consI (pe_opI op_sub (pe_opI op_mod (pe_ixI (ix_listK K) (pvI 1) pe_intI (fun _ _ => rfl)) pe_intI) pe_intI) pa_nilI))) pa_nilI)))))))))), ?_⟩
 walk_at "rd"
 refine ⟨c, 6, rfl, by decide, fun lx xs H1 s1 hx0 hx hxl hnn => ?_⟩
 have nn : ∀ j : Nat, 0 ≤ xs.getD j 0 := fun j => getD_nn (fun x h => (hnn x h).1) j
 have n0 := nn 0
 have n1 := nn 1
 have n2 := nn 2
 have n3 := nn 3
 have n4 := nn 4
 have n5 := nn 5
 have hx1 : SqL K H1 lx (xs.map V.int) := SqL.of hx
 walk_at "rd"
 intro lb hlb
 walk_at "rd"
 obtain ⟨B, hB, B1, B2⟩ := tab [1, 1, 2, 3, 6, 12, 8, (10 : Int) ^ (9 : Int).toNat + 7] 1 1000000007 (xs.getD (Int.toNat 0) 0 % 8) (by rw [p9]; decide) (by omega) (by show _ < (8 : Int); omega)
 refine ⟨_, _, _, _, rfl, rfl, SqL.of upd_same, hB, ?_⟩
 walk_at "rd"
 intro ls hls
 walk_at "rd"
 intro lz hlz
 walk_at "rd"
 intro la hla
 exact k _ B _ _ (by walk_at "sm") ⟨la, ls, lz, _, _, _, _, rfl, upd_same, by walk_at "hf", by walk_at "hf", by omega, by omega, by omega, by omega, by omega, by omega⟩
theorem ok_l_points (F : FunAt K mg "_law_points" s_l_points ["_law_script", "_law_most"]) (D_l_cell_at : DefOk P w K mg base CX0 1 "_law_cell_at" ["_law_script", "_law_k"] (spCell K)) (D_l_stream : DefOk P w K mg base CX0 1 "_law_stream" ["_law_cell", "_law_many"] spStreamC) (D_l_place : DefOk P w K mg base CX0 2 "_law_place" ["_law_cell", "_law_way_here"] spPlace) (D_l_way : DefOk P w K mg base CX0 2 "_law_way" ["_law_cell"] spWay) : DefOk P w K mg base CX0 3 "_law_points" ["_law_script", "_law_most"] (spLPoints K) := by
 refine def_okI F sc_l_points (fun vs H Q E h => ?_) (fun f cdv A outer s H vs Q E hr h => ?_)
 · obtain ⟨a, ns, rfl, _⟩ := h; rfl
 obtain ⟨a, ns, rfl, hS, k⟩ := h
 have hu := hr.units
 refine ⟨_, (pss_consI (ps_setI (i := 2) sc_l_points.nd rfl (Or.inr rfl) (pe_fnI D_l_way hr pass0 (pa_consI (pe_fnI D_l_cell_at hr pass0 (pa_consI (pvI 0) (pa_consI pe_intI pa_nilI))) pa_nilI))) (pss_consI (ps_setI (i := 3) sc_l_points.nd rfl (Or.inl rfl) (pe_fnI D_l_stream hr pass0 (pa_consI (pe_opI op_fdiv (pe_fnI D_l_cell_at hr pass0 (pa_consI (pvI 0) (pa_consI pe_intI pa_nilI))) pe_intI) (pa_consI pe_intI pa_nilI)))) (pss_consI (ps_setI (i := 4) sc_l_points.nd rfl (Or.inl rfl) (pe_opI op_cat (pe_sliceI (sl_listK K) (pvI 0) (po_someI pe_intI) (po_someI (pe_opI op_sub (pvI 1) pe_intI))) (pe_sliceI (sl_listK K) (pvI 3) po_noneI (po_someI (pe_opI op_mod (pe_ixI (ix_listK K) (pvI 3) pe_intI (fun _ _ => rfl)) pe_intI))))) (pss_consI (ps_ifI (pt_cmpRI (op_eqDK K hu) (pvI 4) (pe_lstI pa_nilI) (nomark _)) (pss_oneI (ps_setI (i := 4) sc_l_points.nd rfl (Or.inl rfl) (pe_sliceI (sl_listK K) (pvI 3) po_noneI (po_someI pe_intI)))) pss_nilI) (pss_oneI (ps_retI (pe_tupI (pa_consI (pe_ixI (ix_tupK K) (pvI 2) pe_intI (fun _ _ => rfl)) (pa_consI (pe_compSI (os := ["_law_cell"]) (caps := [(2, "_law_way_here")]) ["_law_script", "_law_most", "_law_way_here", "_law_more", "_law_cells"] (defScope s_l_points) (pi_listKI K (pvI 4)) (fun _ _ _ _ _ => (pg_nameI (i := 0) (show List.Nodup (["_law_cell", "_law_way_here"] : List Str) from by decide +kernel) rfl (Or.inl rfl))) (fun _ _ _ _ _ => (pe_fnI D_l_place hr pass0 (pa_consI (pvI 0) (pa_consI (pvI 1) pa_nilI)))) (by decide +kernel)) pa_nilI))))))))), ?_⟩
 walk_at "rd"
 refine ⟨a, ns, _, rfl, by walk_at "mv", by decide, fun z0 => ?_⟩
 walk_at "rd"
 intro vw B kd H1 s1 hW
 obtain ⟨wa, sa, ba, sx, sy, bx, by_, rfl, hwa, hsa, hba, B1, B2, r⟩ := id hW
 walk_at "rd"
 refine ⟨a, ns, _, rfl, by walk_at "mv", by decide, fun z1 => ?_⟩
 walk_at "rd"
 refine ⟨_, 7, rfl, by decide, fun lm xs H2 s2 hm0 hm hxl hnn => ?_⟩
 have nn : ∀ j : Nat, 0 ≤ xs.getD j 0 := fun j => getD_nn (fun x h => (hnn x h).1) j
 have n6 : 0 ≤ xs.getD (Int.toNat 6) 0 := nn 6
 have hS2 : SqL K H2 a (ns.map V.int) := by walk_at "mv"
 walk_at "rd"
 refine ⟨a, _, rfl, hS2, fun q1 hq1 => ?_⟩
 obtain ⟨m1, e1, l1⟩ := cut_ints ns (some 1) (some (40 - 5))
 rw [sIx_nat' _ _ _ (by decide), sIx_nat' _ _ _ (by decide)] at l1
 rw [e1]
 have hm1 : (upd H2 q1 (.lst (m1.map V.int))) lm = some (.lst (xs.map V.int)) := upd_keep hq1 hm
 have hx1 : SqL K (upd H2 q1 (.lst (m1.map V.int))) lm (xs.map V.int) := SqL.of hm1
 walk_at "rd"
 refine ⟨lm, _, rfl, hx1, fun q2 hq2 => ?_⟩
 obtain ⟨m2, e2, l2⟩ := cut_ints xs none (some (xs.getD (Int.toNat 6) 0 % 7))
 rw [sIx_nat' _ _ _ (by omega)] at l2
 rw [e2]
 have c1 : (40 - 5 : Int).toNat = 35 := by decide
 have c2 : (1 : Int).toNat = 1 := by decide
 rw [c1, c2] at l1
 have b1 : m1.length ≤ 34 := by omega
 have b2 : m2.length ≤ 6 := by omega
 walk_at "rd"
 refine ⟨q1, q2, _, _, rfl, rfl, by walk_at "hf", upd_same, ?_, fun q3 hq3 => ?_⟩
 · rw [List.length_map, List.length_map]; exact Nat.le_of_lt (small_line (by omega))
 rw [← List.map_append]
 walk_at "rd"
 intro le hle
 refine ⟨_, _, dnInts (SqL.of (by walk_at "hf")), dnInts (ms := []) (SqL.of upd_same), datInts_ok _ 7, datInts_ok _ 7, fun b hb => ?_⟩
 cases b with
 | true =>
   refine ⟨_, rfl, ifT rfl ?_⟩
   have hm4 : SqL K (upd (upd (upd (upd H2 q1 (.lst (m1.map V.int))) q2 (.lst (m2.map V.int))) q3 (.lst ((m1 ++ m2).map V.int))) le (.lst [])) lm (xs.map V.int) := SqL.of (by walk_at "hf")
   walk_at "rd"
   refine ⟨lm, _, rfl, hm4, fun q4 hq4 => ?_⟩
   obtain ⟨m3, e3, l3⟩ := cut_ints xs none (some 1)
   have e3' : m3 = [xs.getD 0 0] := by
     have h0 : cutV (xs.map V.int) none (some 1) = [V.int (xs.getD 0 0)] := by
       match xs, hxl with
       | x :: r, _ =>
         unfold cutV
         rw [HT.sIx_none]
         have : HT.sIx ((x :: r).map V.int).length ((x :: r).map V.int).length (some 1) = 1 := by rw [sIx_nat' _ _ _ (by decide)]; simp
         rw [this]; rfl
     rw [e3] at h0
     match m3, h0 with
     | [y], h0 => simpa using h0
   subst e3'
   rw [e3]
   walk_at "rd"
   have hcl := upd_same (H := upd (upd (upd (upd H2 q1 (.lst (m1.map V.int))) q2 (.lst (m2.map V.int))) q3 (.lst ((m1 ++ m2).map V.int))) le (.lst [])) (a := q4) (o := .lst ([xs.getD 0 0].map V.int))
   have h1c : 1 ≤ [xs.getD 0 0].length := by simp
   have h2c : [xs.getD 0 0].length ≤ 40 := by simp
   have hW5 : WayV (upd (upd (upd (upd (upd H2 q1 (.lst (m1.map V.int))) q2 (.lst (m2.map V.int))) q3 (.lst ((m1 ++ m2).map V.int))) le (.lst [])) q4 (.lst ([xs.getD 0 0].map V.int))) (.ref wa) B kd := hW.same (by walk_at "sm")
   generalize hms : [xs.getD 0 0] = ms at *
   refine ⟨⟨_, SqL.of hcl⟩, comp1 (plain_list (SqL.of hcl)) (by rw [List.length_map]; omega) (fun i v H => ∃ x y : Int, RwV H v x y ∧ Sz 110 x ∧ Sz 110 y) (fun _ _ _ _ t h => by obtain ⟨x, y, h1, h2⟩ := h; exact ⟨x, y, h1.tup t, h2⟩) (fun i H5 kk hi s5 hk => ?_) (fun E ys H5 hE s5 hE' hl5 hr => ?_)⟩
   · rw [List.length_map] at hi
     rw [int_at (List.getElem?_eq_getElem hi)]
     walk_at "rd"
     exact ⟨_, _, B, kd, rfl, hW5.same s5, fun v x y H6 s6 r z1 z2 => hk v H6 s6 ⟨x, y, r, z1, z2⟩⟩
   obtain ⟨pl, hP, hZ⟩ := pls_exist hr
   clear hr
   have hpl := hP.len
   rw [List.length_map] at hl5
   walk_at "rd"
   intro c hc
   exact k c E ys pl B _ (by walk_at "sm") upd_same (upd_keep hc hE') (hP.same (Same.new hc)) (by omega) (by omega) B1 B2 hZ
 | false =>
   refine ⟨_, rfl, ifF rfl ?_⟩
   have hne : m1 ++ m2 ≠ [] := fun e => by
     have := hb.mpr (by rw [e])
     cases this
   have hcl : (upd (upd (upd (upd H2 q1 (.lst (m1.map V.int))) q2 (.lst (m2.map V.int))) q3 (.lst ((m1 ++ m2).map V.int))) le (.lst [])) q3 = some (.lst ((m1 ++ m2).map V.int)) := by walk_at "hf"
   have h1c : 1 ≤ (m1 ++ m2).length := Nat.one_le_iff_ne_zero.mpr (fun e => hne (List.length_eq_zero_iff.mp e))
   have h2c : (m1 ++ m2).length ≤ 40 := by rw [List.length_append]; omega
   have hW5 : WayV (upd (upd (upd (upd H2 q1 (.lst (m1.map V.int))) q2 (.lst (m2.map V.int))) q3 (.lst ((m1 ++ m2).map V.int))) le (.lst [])) (.ref wa) B kd := hW.same (by walk_at "sm")
   walk_at "rd"
   refine ⟨⟨_, SqL.of hcl⟩, comp1 (plain_list (SqL.of hcl)) (by rw [List.length_map]; omega) (fun i v H => ∃ x y : Int, RwV H v x y ∧ Sz 110 x ∧ Sz 110 y) (fun _ _ _ _ t h => by obtain ⟨x, y, h1, h2⟩ := h; exact ⟨x, y, h1.tup t, h2⟩) (fun i H5 kk hi s5 hk => ?_) (fun E ys H5 hE s5 hE' hl5 hr => ?_)⟩
   · rw [List.length_map] at hi
     rw [int_at (List.getElem?_eq_getElem hi)]
     walk_at "rd"
     exact ⟨_, _, B, kd, rfl, hW5.same s5, fun v x y H6 s6 r z1 z2 => hk v H6 s6 ⟨x, y, r, z1, z2⟩⟩
   obtain ⟨pl, hP, hZ⟩ := pls_exist hr
   clear hr
   have hpl := hP.len
   rw [List.length_map] at hl5
   walk_at "rd"
   intro c hc
   exact k c E ys pl B _ (by walk_at "sm") upd_same (upd_keep hc hE') (hP.same (Same.new hc)) (by omega) (by omega) B1 B2 hZ
theorem ok_turn (F : FunAt K mg "turn" s_turn ["one", "other", "third"]) : DefOk P w K mg base CX0 1 "turn" ["one", "other", "third"] spTurn := by
 refine def_okI F sc_turn (fun vs H Q E h => ?_) (fun f cdv A outer s H vs Q E hr h => ?_)
 · obtain ⟨u, v, w, a, b, c, n, rfl, _⟩ := h; rfl
 obtain ⟨_, _, _, a, b, c, n, rfl, ⟨ua, rfl, ha⟩, ⟨ub, rfl, hb⟩, ⟨uc, rfl, hc⟩, hn, ⟨za1, za2⟩, ⟨zb1, zb2⟩, ⟨zc1, zc2⟩, k⟩ := h
 have hu := hr.units
 refine ⟨_, (pss_oneI (ps_retI (pe_opI op_sub (pe_opI op_mulA (pe_opI op_sub (pe_ixI (ix_tupK K) (pvI 1) pe_intI (fun _ _ => rfl)) (pe_ixI (ix_tupK K) (pvI 0) pe_intI (fun _ _ => rfl))) (pe_opI op_sub (pe_ixI (ix_tupK K) (pvI 2) pe_intI (fun _ _ => rfl)) (pe_ixI (ix_tupK K) (pvI 0) pe_intI (fun _ _ => rfl)))) (pe_opI op_mulA (pe_opI op_sub (pe_ixI (ix_tupK K) (pvI 1) pe_intI (fun _ _ => rfl)) (pe_ixI (ix_tupK K) (pvI 0) pe_intI (fun _ _ => rfl))) (pe_opI op_sub (pe_ixI (ix_tupK K) (pvI 2) pe_intI (fun _ _ => rfl)) (pe_ixI (ix_tupK K) (pvI 0) pe_intI (fun _ _ => rfl))))))), ?_⟩
 walk_at "rd"
 refine ⟨mulN (zb1.sub za1) (zc2.sub za2) (by omega), ?_⟩
 walk_at "rd"
 refine ⟨mulN (zb2.sub za2) (zc1.sub za1) (by omega), ?_⟩
 walk_at "rd"
 exact k
theorem ok_left_way (F : FunAt K mg "left_way" s_left_way ["places"]) (B : Blt mg) (D_turn : DefOk P w K mg base CX0 1 "turn" ["one", "other", "third"] spTurn) : DefOk P w K mg base CX0 2 "left_way" ["places"] (spLeftWay K) := by
 refine def_okI F sc_left_way (fun vs H Q E h => ?_) (fun f cdv A outer s H vs Q E hr h => ?_)
 · obtain ⟨a, us, pl, n, rfl, _⟩ := h; rfl
 obtain ⟨a, us, pl, n, rfl, hS, hP, hz, hn, h40, k⟩ := h
 have hu := hr.units
 refine ⟨_, (pss_consI (ps_setI (i := 1) sc_left_way.nd rfl (Or.inl rfl) (pe_lstI pa_nilI)) (pss_consI (ps_forI PassesOwn.never rfl (pi_listKI K (pvI 0)) (pg_nameI (i := 2) sc_left_way.nd rfl (Or.inl rfl)) (pss_consI (ps_whileI PassesOwn.never (PW_ptI (pw_andI (pt_cmpRI op_gt (pe_callBI (call_lenK K) (by rfl) B.len PySem.boot_len (pa_consI (pvI 1) pa_nilI)) pe_intI (nomark _)) (pw_and1I (pt_cmpRI op_le (pe_fnI D_turn hr pass0 (pa_consI (pe_ixI (ix_listK K) (pvI 1) (pe_unI un_neg pe_intI) (fun _ _ => rfl)) (pa_consI (pe_ixI (ix_listK K) (pvI 1) (pe_unI un_neg pe_intI) (fun _ _ => rfl)) (pa_consI (pvI 2) pa_nilI)))) pe_intI (nomark _))))) (pss_oneI (ps_exprI (show PEi _ _ (tBM0 K _ _ _) from (pe_bm0I PySem.F.plainAttrs_list PySem.F.slot_list_pop PySem.F.type_list_pop mt_pop (pvI 1)))))) (pss_oneI (ps_exprI (show PEi _ _ (tBM K _ _ _ _) from (pe_bmI PySem.F.plainAttrs_list PySem.F.slot_list_append PySem.F.type_list_append mt_append (pvI 1) (pa_consI (pvI 2) pa_nilI))))))) (pss_oneI (ps_retI (pvI 1))))), ?_⟩
 walk_at "rd"
 intro l hl
 walk_at "rd"
 refine ⟨⟨us, by walk_at "mv"⟩, for_list (xs := us) (fun i σ H' => ∃ (y : Option V) (vs : List V), σ = [some (.ref a), some (.ref l), y] ∧ Same H H' ∧ H' l = some (.lst vs) ∧ PlsV H' vs (wayR (pl.take i)).reverse) ⟨none, [], rfl, Same.new hl, upd_same, ⟨rfl, fun i v p e => by simp at e⟩⟩ ?_ ?_ ?_⟩
 · rintro i σ H' _ ⟨y, vs, rfl, s1, h1, hv⟩
   exact s1.seq hS
 · rintro i x σ H' hx ⟨y, vs, rfl, s1, h1, hv⟩
   have hi : i < pl.length := by rw [← hP.len]; exact (List.getElem?_eq_some_iff.mp hx).1
   have hp : pl[i]? = some (g0 pl i) := g0_get hi
   have rx : RwV H x (g0 pl i).1 (g0 pl i).2 := hP.get i x _ hx hp
   have zp := hz _ (g0_mem hi)
   walk_at "rd"
   refine while_by (fun σ H'' => ∃ (vs : List V) (R : List Pl), σ = [some (.ref a), some (.ref l), some x] ∧ Same H H'' ∧ H'' l = some (.lst vs) ∧ PlsV H'' vs R.reverse ∧ popR (g0 pl i) R = popR (g0 pl i) (wayR (pl.take i)) ∧ (∀ q ∈ R, SzPl n q) ∧ R.length ≤ pl.length) (fun _ H'' => match H'' l with | some (.lst vs) => vs.length | _ => 0) ⟨vs, _, rfl, s1, h1, hv, rfl, fun q hq => hz q (List.mem_of_mem_take (wayR_mem q hq)), Nat.le_trans (wayR_length _) (List.length_take_le' _ _)⟩ ?_ ?_
   · rintro σ H2 ⟨ws, R, rfl, s2, h2, hw, hpop, hzR, hRl⟩
     have hwl : ws.length = R.length := by rw [hw.len, List.length_reverse]
     walk_at "rd"
     refine ite_dec (fun h0 => ?_) (fun h0 => ?_)
     · obtain ⟨b, R1, rfl⟩ : ∃ b R1, R = b :: R1 := by
         cases R with
         | nil => exfalso; simp at hwl; simp [hwl] at h0
         | cons b R1 => exact ⟨b, R1, rfl⟩
       obtain ⟨c, r, rfl⟩ : ∃ c r, R1 = c :: r := by
         cases R1 with
         | nil => exfalso; simp at hwl; simp [hwl] at h0
         | cons c r => exact ⟨c, r, rfl⟩
       have e1 : (b :: c :: r).reverse = r.reverse ++ [c, b] := by simp
       rw [e1] at hw
       have hrl : ws.length = r.length + 2 := by rw [hwl]; rfl
       obtain ⟨vb, eb, hvb⟩ := hw.at (i := ws.length - 1) (p := b) (by rw [List.getElem?_append_right (by simp; omega)]; simp [hrl])
       obtain ⟨vc, ec, hvc⟩ := hw.at (i := ws.length - 2) (p := c) (by rw [List.getElem?_append_right (by simp; omega)]; simp [hrl])
       walk_at "rd"
       refine ⟨l, _, _, _, rfl, rfl, SqL.of h2, atI_end2 _ _ ec (by omega), ?_⟩
       walk_at "rd"
       refine ⟨l, _, _, _, rfl, rfl, SqL.of h2, atI_last' _ _ eb (by omega), ?_⟩
       walk_at "rd"
       refine ⟨_, _, _, c, b, g0 pl i, n, rfl, ⟨vc, rfl, hvc⟩, ⟨vb, rfl, hvb⟩, rx.same s2, by omega, hzR c (by simp), hzR b (by simp), zp, ?_⟩
       walk_at "rd"
       refine ite_dec (fun h3 => ?_) (fun h3 => ?_)
       · walk_at "rd"
         refine ⟨.inl ⟨rfl, _, SqL.of h2⟩, ?_⟩
         walk_at "rd"
         refine ⟨l, _, _, rfl, rfl, h2, eb, ?_⟩
         have hl2 : ∀ b o, H b = some o → b ≠ l := fun b o e z => by rw [z, hl] at e; cases e
         refine ⟨⟨_, c :: r, rfl, fun b o e => ?_, upd_same, ?_, ?_, fun q hq => hzR q (List.mem_cons_of_mem _ hq), Nat.le_of_succ_le hRl⟩, ?_⟩
         · rw [upd_ne (hl2 b o e)]; exact s2 b o e
         · have := (hw.tup (Tup.lst h2 (o := .lst ws.dropLast))).dropLast
           rw [List.dropLast_append_of_ne_nil (by simp)] at this
           rw [List.reverse_cons]
           exact this
         · rw [← hpop]
           show _ = (if tr c b (g0 pl i) ≤ 0 then popR (g0 pl i) (c :: r) else _)
           rw [if_pos h3]
         · rw [upd_same, h2]
           simp only [List.length_dropLast]
           omega
       · have hway : wayR (pl.take (i + 1)) = g0 pl i :: b :: c :: r := by
           rw [List.take_succ, hp]
           show wayR (pl.take i ++ [g0 pl i]) = _
           rw [wayR_snoc, ← hpop]
           show g0 pl i :: (if tr c b (g0 pl i) ≤ 0 then popR (g0 pl i) (c :: r) else b :: c :: r) = _
           rw [if_neg h3]
         walk_at "rd"
         refine ⟨.inl ⟨rfl, _, SqL.of h2⟩, ?_⟩
         walk_at "rd"
         refine ⟨l, _, _, rfl, rfl, h2, small_line (by omega), ?_⟩
         have hl2 : ∀ b o, H b = some o → b ≠ l := fun b o e z => by rw [z, hl] at e; cases e
         refine ⟨_, _, rfl, fun b o e => ?_, upd_same, ?_⟩
         · rw [upd_ne (hl2 b o e)]; exact s2 b o e
         · rw [hway, List.reverse_cons, e1]
           exact (hw.tup (Tup.lst h2)).snoc ((rx.same s2).tup (Tup.lst h2))
     · have hR : popR (g0 pl i) R = R := by
         rcases R with _ | ⟨b, _ | ⟨c, r⟩⟩
         · rfl
         · rfl
         · exfalso; simp at hwl; omega
       have hway : wayR (pl.take (i + 1)) = g0 pl i :: R := by
         rw [List.take_succ, hp]
         show wayR (pl.take i ++ [g0 pl i]) = _
         rw [wayR_snoc, ← hpop, hR]
       refine ifF rfl ?_
       walk_at "rd"
       refine ⟨.inl ⟨rfl, _, SqL.of h2⟩, ?_⟩
       walk_at "rd"
       refine ⟨l, _, _, rfl, rfl, h2, small_line (by omega), ?_⟩
       have hl2 : ∀ b o, H b = some o → b ≠ l := fun b o e z => by rw [z, hl] at e; cases e
       refine ⟨_, _, rfl, fun b o e => ?_, upd_same, ?_⟩
       · rw [upd_ne (hl2 b o e)]; exact s2 b o e
       · rw [hway, List.reverse_cons]
         exact (hw.tup (Tup.lst h2)).snoc ((rx.same s2).tup (Tup.lst h2))
   · rintro σ H' Q Q' hq ⟨v1, e1, p, ys, e2, e3, i, j, e4, e5, c, e6, h⟩
     refine ⟨v1, e1, p, ys, e2, e3, i, j, e4, e5, c, e6, ?_⟩
     cases c with
     | false => exact hq _ _ h
     | true =>
       obtain ⟨v2, f1, i2, f2, p2, xs2, i3, w2, f3, f4, f5, f6, v3, g1, i4, g2, p3, xs3, i5, w3, g3, g4, g5, g6, v4, k1, u1, u2, u3, a1, b1, c1, n1, m1, m2, m3, m4, m5, m6, m7, m8, i6, j6, o1, o2, kk, o3, h⟩ := h
       exact ⟨v2, f1, i2, f2, p2, xs2, i3, w2, f3, f4, f5, f6, v3, g1, i4, g2, p3, xs3, i5, w3, g3, g4, g5, g6, v4, k1, u1, u2, u3, a1, b1, c1, n1, m1, m2, m3, m4, m5, m6, m7, m8, i6, j6, o1, o2, kk, o3, hq _ _ h⟩
 · rintro σ H' ⟨y, vs, rfl, s1, h1, hv⟩
   walk_at "rd"
   rw [List.take_of_length_le (by rw [hP.len]; exact Nat.le_refl _)] at hv
   exact k l vs H' s1 hl h1 hv
theorem ok_greatest_common (F : FunAt K mg "greatest_common" s_greatest_common ["one", "other"]) (B : Blt mg) : DefOk P w K mg base CX0 1 "greatest_common" ["one", "other"] spGcd := by
 refine def_okI F sc_greatest_common (fun vs H Q E h => ?_) (fun f cdv A outer s H vs Q E hr h => ?_)
 · obtain ⟨a, b, rfl, _⟩ := h; rfl
 obtain ⟨a, b, rfl, k⟩ := h
 have hu := hr.units
 refine ⟨_, (pss_consI (ps_whileI PassesOwn.never (pt_cmpRI op_ne (pvI 1) pe_intI (nomark _)) (pss_oneI (ps_parI (i := 0) (j := 1) rfl sc_greatest_common.nd rfl rfl (by decide) rfl rfl (pa_consI (pvI 1) (pa_consI (pe_opI op_modN (pvI 0) (pvI 1)) pa_nilI)) rfl))) (pss_oneI (ps_retI (pe_callBI call_abs (by rfl) B.abs PyProof.Rows.boot_abs (pa_consI (pvI 0) pa_nilI))))), ?_⟩
 refine while_by (fun σ H' => ∃ x y : Int, σ = [some (.int x), some (.int y)] ∧ H' = H ∧ Int.gcd x y = Int.gcd a b) (fun σ _ => match σ with | [_, some (.int y)] => y.natAbs | _ => 0) ⟨a, b, rfl, rfl, rfl⟩ ?_ ?_
 · rintro σ H' ⟨x, y, rfl, rfl, e⟩
   refine ⟨_, rfl, rfl, _, rfl, ?_⟩
   by_cases hy : y = 0
   · subst hy
     refine iteNS rfl ?_
     refine ⟨_, rfl, _, rfl, ?_⟩
     rw [gcd_zero, e]
     exact k
   · refine ifT (dec_int_ne hy) ?_
     refine ⟨_, rfl, _, rfl, _, rfl, _, _, rfl, rfl, hy, _, _, rfl, ⟨_, _, rfl, rfl, ?_⟩, ?_⟩
     · rw [gcd_step]; exact e
     · exact fmod_lt x y hy
 · rintro σ H' Q Q' hq ⟨v, h1, hs, k1, h2, h3⟩
   exact ⟨v, h1, hs, k1, h2, hq _ _ h3⟩
theorem ok_common_bottoms (F : FunAt K mg "common_bottoms" s_common_bottoms ["shares"]) (D_greatest_common : DefOk P w K mg base CX0 1 "greatest_common" ["one", "other"] spGcd) : DefOk P w K mg base CX0 2 "common_bottoms" ["shares"] (spCommon K) := by
 refine def_okI F sc_common_bottoms (fun vs H Q E h => ?_) (fun f cdv A outer s H vs Q E hr h => ?_)
 · obtain ⟨a, ws, qs, D, rfl, _⟩ := h; rfl
 obtain ⟨a, ws, qs, D, rfl, hS, hQ, hD, zD, hdv, h40, k⟩ := h
 have hu := hr.units
 refine ⟨_, (pss_consI (ps_setI (i := 1) sc_common_bottoms.nd rfl (Or.inl rfl) (pe_lstI pa_nilI)) (pss_consI (ps_setI (i := 2) sc_common_bottoms.nd rfl (Or.inl rfl) pe_intI) (pss_consI (ps_forI PassesOwn.never rfl (pi_listKI K (pvI 0)) (pg_nameI (i := 3) sc_common_bottoms.nd rfl (Or.inl rfl)) (pss_consI (ps_setI (i := 4) sc_common_bottoms.nd rfl (Or.inl rfl) (pe_opI op_fdivB (pe_ixI (ix_tupK K) (pvI 3) pe_intI (fun _ _ => rfl)) (pe_fnI D_greatest_common hr pass0 (pa_consI (pvI 2) (pa_consI (pe_ixI (ix_tupK K) (pvI 3) pe_intI (fun _ _ => rfl)) pa_nilI))))) (pss_oneI (ps_ifI (pt_cmpRI op_gt (pvI 4) pe_intI (nomark _)) (pss_consI (ps_exprI (show PEi _ _ (tBM K _ _ _ _) from (pe_bmI PySem.F.plainAttrs_list PySem.F.slot_list_append PySem.F.type_list_append mt_append (pvI 1) (pa_consI (pvI 4) pa_nilI)))) (pss_oneI (ps_setI (i := 2) sc_common_bottoms.nd rfl (Or.inl rfl) (pe_opI op_mulA (pvI 2) (pvI 4))))) pss_nilI)))) (pss_oneI (ps_retI (pvI 1)))))), ?_⟩
 walk_at "rd"
 intro l hl
 walk_at "rd"
 refine ⟨⟨ws, by walk_at "mv"⟩, for_list (xs := ws) (fun i σ H' => ∃ (y1 y2 : Option V) (W : Int) (bs : List Int), σ = [some (.ref a), some (.ref l), some (.int W), y1, y2] ∧ W = prodI bs ∧ Same H H' ∧ H' l = some (.lst (bs.map V.int)) ∧ (∀ b ∈ bs, 0 < b ∧ Sz 9000 b) ∧ W ∣ D ∧ (∀ j q, j < i → qs[j]? = some q → (q.den : Int) ∣ W) ∧ bs.length ≤ i)
   ⟨none, none, 1, [], rfl, rfl, Same.new hl, upd_same, (fun _ h => nomatch h), ⟨D, by rw [Int.one_mul]⟩, fun j q h => absurd h (Nat.not_lt_zero _), Nat.le_refl _⟩ ?_ ?_ ?_⟩
 · rintro i σ H' hi ⟨y1, y2, W, bs, rfl, eW, s1, h1, hb, hW, hq, hn⟩
   exact s1.seq hS
 · rintro i x σ H' hx ⟨y1, y2, W, bs, rfl, eW, s1, h1, hb, hW, hq, hn⟩
   have hi : i < ws.length := (List.getElem?_eq_some_iff.mp hx).1
   have hwl := hQ.len
   obtain ⟨q, eq, c, rfl, hc⟩ := (hQ.same s1).atV hx
   have hdq := hdv q (List.mem_of_getElem? eq)
   have hd0 : 0 < (q.den : Int) := by have := q.den_pos; omega
   obtain ⟨g1, g2, g3, g4, g5⟩ := lcm_step hd0 hW hdq
   have zq : Sz 9000 (q.den : Int) := sz_dvd (by omega) hdq zD
   have zg : Sz 9000 (Int.gcd W q.den : Int) := sz_dvd (by omega) g5 zq
   walk_at "rd"
   refine ⟨W, q.den, rfl, ?_⟩
   refine ⟨_, _, rfl, rfl, ⟨by omega, zg⟩, ?_⟩
   walk_at "rd"
   have zW : Sz 9000 W := sz_dvd (by omega) hW zD
   have zm : Sz 9000 ((q.den : Int).fdiv (Int.gcd W q.den)) := quo_sz hd0 g4 g5 zq
   refine ite_dec (fun hm => ?_) (fun hm => ?_)
   · walk_at "rd"
     refine ⟨.inl ⟨rfl, _, SqL.of h1⟩, ?_⟩
     walk_at "rd"
     refine ⟨l, _, _, rfl, rfl, h1, small_line (by rw [List.length_map]; omega), ?_⟩
     walk_at "rd"
     refine ⟨_, _, _, bs ++ [(q.den : Int).fdiv (Int.gcd W q.den)], rfl, by rw [prodI_snoc, eW], fun b o e => ?_, ?_, ?_, g2, ?_, ?_⟩
     · rw [upd_ne (ne_of_none e hl)]; exact s1 b o e
     · rw [upd_same, List.map_append]; rfl
     · intro b hb'
       rcases List.mem_append.mp hb' with h | h
       · exact hb b h
       · rw [List.mem_singleton.mp h]; exact ⟨g3, zm⟩
     · intro j r hj er
       by_cases hji : j = i
       · subst hji
         rw [eq] at er; cases er
         exact g1
       · exact Int.dvd_trans (hq j r (by omega) er) ⟨_, rfl⟩
     · rw [List.length_append]; show bs.length + 1 ≤ i + 1; omega
   · have e1 : (q.den : Int).fdiv (Int.gcd W q.den) = 1 := by omega
     rw [e1, Int.mul_one] at g1
     refine ⟨_, _, _, bs, rfl, eW, s1, h1, hb, hW, ?_, by omega⟩
     intro j r hj er
     by_cases hji : j = i
     · subst hji
       rw [eq] at er; cases er
       exact g1
     · exact hq j r (by omega) er
 · rintro σ H' ⟨y1, y2, W, bs, rfl, eW, s1, h1, hb, hW, hq, hn⟩
   have hwl := hQ.len
   refine ⟨_, rfl, k l bs H' s1 h1 hb (fun q hm => ?_) (eW ▸ hW) (by omega)⟩
   obtain ⟨j, hj, rfl⟩ := List.getElem_of_mem hm
   rw [← eW]
   exact hq j _ (by omega) (List.getElem?_eq_getElem hj)
theorem ok_product (F : FunAt K mg "product" s_product ["numbers"]) : DefOk P w K mg base CX0 1 "product" ["numbers"] (spProduct K) := by
 refine def_okI F sc_product (fun vs H Q E h => ?_) (fun f cdv A outer s H vs Q E hr h => ?_)
 · obtain ⟨a, bs, rfl, _⟩ := h; rfl
 obtain ⟨a, bs, rfl, hS, hb, hn, k⟩ := h
 have hu := hr.units
 refine ⟨_, (pss_consI (ps_setI (i := 1) sc_product.nd rfl (Or.inl rfl) pe_intI) (pss_consI (ps_forI PassesOwn.never rfl (pi_listKI K (pvI 0)) (pg_nameI (i := 2) sc_product.nd rfl (Or.inl rfl)) (pss_oneI (ps_setI (i := 1) sc_product.nd rfl (Or.inl rfl) (pe_opI op_mulA (pvI 1) (pvI 2))))) (pss_oneI (ps_retI (pvI 1))))), ?_⟩
 walk_at "rd"
 refine ⟨⟨_, hS⟩, for_list (xs := bs.map V.int) (fun i σ H' => ∃ (y : Option V) (W : Int), σ = [some (.ref a), some (.int W), y] ∧ W = prodI (bs.take i) ∧ H' = H) ⟨none, 1, rfl, rfl, rfl⟩ ?_ ?_ ?_⟩
 · rintro i σ H' hi ⟨y, W, rfl, eW, rfl⟩
   exact hS
 · rintro i x σ H' hx ⟨y, W, rfl, eW, rfl⟩
   obtain ⟨b, eb, rfl⟩ := ints_at hx
   have zW : Sz (9000 * 100 + 1) W := by
     rw [eW]
     exact (prod_sz fun c hc => hb c (List.mem_of_mem_take hc)).mono (by rw [List.length_take]; omega)
   walk_at "rd"
   refine ⟨mulB zW (hb b (List.mem_of_getElem? eb)).2, _, _, rfl, ?_, rfl⟩
   rw [take_snoc eb, prodI_snoc, eW]
 · rintro σ H' ⟨y, W, rfl, eW, rfl⟩
   refine ⟨_, rfl, ?_⟩
   rw [List.length_map, List.take_length] at eW
   rw [eW]; exact k
theorem ok_axis (F : FunAt K mg "axis" s_axis ["shares"]) (D_common_bottoms : DefOk P w K mg base CX0 2 "common_bottoms" ["shares"] (spCommon K)) (D_product : DefOk P w K mg base CX0 1 "product" ["numbers"] (spProduct K)) : DefOk P w K mg base CX0 3 "axis" ["shares"] (spAxis K) := by
 refine def_okI F sc_axis (fun vs H Q E h => ?_) (fun f cdv A outer s H vs Q E hr h => ?_)
 · obtain ⟨a, ws, qs, D, m, rfl, _⟩ := h; rfl
 obtain ⟨a, ws, qs, D, m, rfl, hS, hQ, hD, zD, hdv, hm, h40, k⟩ := h
 have hu := hr.units
 refine ⟨_, (pss_consI (ps_setI (i := 1) sc_axis.nd rfl (Or.inl rfl) (pe_fnI D_common_bottoms hr pass0 (pa_consI (pvI 0) pa_nilI))) (pss_consI (ps_setI (i := 2) sc_axis.nd rfl (Or.inr rfl) (pe_fnI D_product hr pass0 (pa_consI (pvI 1) pa_nilI))) (pss_oneI (ps_retI (pe_tupI (pa_consI (pe_compSI (os := ["one"]) (caps := [(2, "whole")]) ["shares", "bottoms", "whole"] (defScope s_axis) (pi_listKI K (pvI 0)) (fun _ _ _ _ _ => (pg_nameI (i := 0) (show List.Nodup (["one", "whole"] : List Str) from by decide +kernel) rfl (Or.inl rfl))) (fun _ _ _ _ _ => (pe_opI op_mulA (pe_ixI (ix_tupK K) (pvI 0) pe_intI (fun _ _ => rfl)) (pe_opI op_fdivB (pvI 1) (pe_ixI (ix_tupK K) (pvI 0) pe_intI (fun _ _ => rfl))))) (by decide +kernel)) (pa_consI (pvI 1) pa_nilI))))))), ?_⟩
 walk_at "rd"
 refine ⟨a, ws, qs, D, rfl, hS, hQ, hD, zD, fun q hq => (hdv q hq).1, h40, fun lb bs H1 s1 hlb hb hdb hbD hbl => ?_⟩
 have hW : 0 < prodI bs := prodI_pos fun b hb' => (hb b hb').1
 have zW : Sz 9000 (prodI bs) := sz_dvd (by omega) hbD zD
 have hwl := hQ.len
 walk_at "rd"
 refine ⟨lb, bs, rfl, SqL.of hlb, hb, by omega, ?_⟩
 walk_at "rd"
 refine ⟨⟨_, s1.seq hS⟩, comp1 (plain_list (s1.seq hS)) (by omega) (fun i v _ => ∀ q, qs[i]? = some q → v = .int (q.num * (prodI bs).fdiv q.den)) (fun _ _ _ _ _ h => h) (fun i H2 kk hi s2 hk => ?_) (fun E2 ys H2 hE s2 hE2 hl hr => ?_)⟩
 · have ew : ws[i]? = some ws[i] := List.getElem?_eq_getElem hi
   obtain ⟨q, eq, c, ec, hc⟩ := ((hQ.same s1).same s2).atV ew
   have ef : (ws[i]?).getD V.non = .ref c := by rw [ew]; exact ec
   obtain ⟨dq, bq⟩ := hdv q (List.mem_of_getElem? eq)
   have hd0 : 0 < (q.den : Int) := by have := q.den_pos; omega
   have zq : Sz 9000 (q.den : Int) := sz_dvd (by omega) dq zD
   have dW := hdb q (List.mem_of_getElem? eq)
   have zf : Sz 9000 ((prodI bs).fdiv q.den) := quo_sz hW hd0 dW zW
   rw [ef]
   walk_at "rd"
   refine ⟨⟨by omega, zq⟩, ?_⟩
   refine ⟨_, _, rfl, rfl, mulN bq.num zf (by omega), ?_⟩
   refine hk _ _ (L2.Same.refl _) fun q' e' => ?_
   rw [eq] at e'; cases e'
   rfl
 · walk_at "rd"
   intro p hp
   have ey := ints_of (by omega) hr
   refine k _ (qs.map fun q => q.num * (prodI bs).fdiv q.den) bs _ (by walk_at "sm") ⟨p, E2, lb, rfl, upd_same, ?_, ?_, ?_, hb, by omega, by rw [List.length_map]; omega⟩ (axR_tops hW hdb) hbl
   · rw [← ey]; exact upd_keep hp hE2
   · exact upd_keep hp (s2 _ _ hlb)
   · intro x hx
     obtain ⟨q, hq, rfl⟩ := List.mem_map.mp hx
     obtain ⟨dq, bq⟩ := hdv q hq
     exact (bq.num.mul (quo_sz hW (by have := q.den_pos; omega) (hdb q hq) zW)).mono (by omega)
theorem ok_axes (F : FunAt K mg "axes" s_axes ["points"]) (D_axis : DefOk P w K mg base CX0 3 "axis" ["shares"] (spAxis K)) : DefOk P w K mg base CX0 4 "axes" ["points"] (spAxes K) := by
 refine def_okI F sc_axes (fun vs H Q E h => ?_) (fun f cdv A outer s H vs Q E hr h => ?_)
 · obtain ⟨a, ws, ps, D, m, rfl, _⟩ := h; rfl
 obtain ⟨a, ws, ps, D, m, rfl, hS, hP, hD, zD, hdv, hm, h40, k⟩ := h
 have hu := hr.units
 refine ⟨_, (pss_oneI (ps_retI (pe_tupI (pa_consI (pe_fnI D_axis hr pass0 (pa_consI (pe_compSI (os := ["place"]) (caps := []) ["points"] (defScope s_axes) (pi_listKI K (pvI 0)) (fun _ _ _ _ _ => (pg_nameI (i := 0) (show List.Nodup (["place"] : List Str) from by decide +kernel) rfl (Or.inl rfl))) (fun _ _ _ _ _ => (pe_ixI (ix_tupK K) (pvI 0) pe_intI (fun _ _ => rfl))) (by decide +kernel)) pa_nilI)) (pa_consI (pe_fnI D_axis hr pass0 (pa_consI (pe_compSI (os := ["place"]) (caps := []) ["points"] (defScope s_axes) (pi_listKI K (pvI 0)) (fun _ _ _ _ _ => (pg_nameI (i := 0) (show List.Nodup (["place"] : List Str) from by decide +kernel) rfl (Or.inl rfl))) (fun _ _ _ _ _ => (pe_ixI (ix_tupK K) (pvI 0) pe_intI (fun _ _ => rfl))) (by decide +kernel)) pa_nilI)) pa_nilI))))), ?_⟩
 have hwl := hP.len
 walk_at "rd"
 refine ⟨⟨ws, by walk_at "mv"⟩, comp1 (plain_list (by walk_at "mv" : SqL K _ a ws)) (by omega) (fun i v H => ∀ p, ps[i]? = some p → ShV H v p.1) (fun _ _ _ _ t h p e => (h p e).tup t) (fun i H2 kk hi s2 hk => ?_) (fun E2 ys2 H2 hE2 s2 hE'2 hl2 hr2 => ?_)⟩
 · have ew : ws[i]? = some ws[i] := List.getElem?_eq_getElem hi
   obtain ⟨p, ep, c, vx, vy, ec, hc, hx, hy⟩ := (show PtsV H2 ws ps by walk_at "mv").atV ew
   have ef : (ws[i]?).getD V.non = .ref c := by rw [ew]; exact ec
   rw [ef]
   walk_at "rd"
   refine hk _ _ (L2.Same.refl _) fun p' e' => ?_
   rw [ep] at e'; cases e'
   assumption
 have hq2 : ShL H2 ys2 (ps.map (·.1)) := ShL.map (by omega) hr2
 clear hr2
 refine ⟨E2, ys2, ps.map (·.1), D, m, rfl, SqL.of hE'2, hq2, hD, zD, fun q hq => ?_, hm, by rw [List.length_map]; omega, fun v3 t3 b3 H3 s3 A3 e3 n3 => ?_⟩
 · obtain ⟨p, hp, rfl⟩ := List.mem_map.mp hq
   exact (hdv p hp).1
 rw [List.length_map] at n3
 walk_at "rd"
 refine ⟨⟨ws, by walk_at "mv"⟩, comp1 (plain_list (by walk_at "mv" : SqL K _ a ws)) (by omega) (fun i v H => ∀ p, ps[i]? = some p → ShV H v p.2) (fun _ _ _ _ t h p e => (h p e).tup t) (fun i H4 kk hi s4 hk => ?_) (fun E4 ys4 H4 hE4 s4 hE'4 hl4 hr4 => ?_)⟩
 · have ew : ws[i]? = some ws[i] := List.getElem?_eq_getElem hi
   obtain ⟨p, ep, c, vx, vy, ec, hc, hx, hy⟩ := (show PtsV H4 ws ps by walk_at "mv").atV ew
   have ef : (ws[i]?).getD V.non = .ref c := by rw [ew]; exact ec
   rw [ef]
   walk_at "rd"
   refine hk _ _ (L2.Same.refl _) fun p' e' => ?_
   rw [ep] at e'; cases e'
   assumption
 have hq4 : ShL H4 ys4 (ps.map (·.2)) := ShL.map (by omega) hr4
 clear hr4
 refine ⟨E4, ys4, ps.map (·.2), D, m, rfl, SqL.of hE'4, hq4, hD, zD, fun q hq => ?_, hm, by rw [List.length_map]; omega, fun v5 t5 b5 H5 s5 A5 e5 n5 => ?_⟩
 · obtain ⟨p, hp, rfl⟩ := List.mem_map.mp hq
   exact (hdv p hp).2
 rw [List.length_map] at n5
 walk_at "rd"
 intro c hc
 exact k c v3 v5 t3 b3 t5 b5 _ (by walk_at "sm") upd_same (by walk_at "mv") (by walk_at "mv") e3 e5 n3 n5
theorem ok_whole_places (F : FunAt K mg "whole_places" s_whole_places ["points"]) (B : Blt mg) (D_axes : DefOk P w K mg base CX0 4 "axes" ["points"] (spAxes K)) : DefOk P w K mg base CX0 5 "whole_places" ["points"] (spHWhole K) := by
 refine def_okI F sc_whole_places (fun vs H Q E h => ?_) (fun f cdv A outer s H vs Q E hr h => ?_)
 · obtain ⟨a, ws, ps, D, m, rfl, _⟩ := h; rfl
 obtain ⟨a, ws, ps, D, m, rfl, hS, hP, hD, zD, hdv, hm, h40, k⟩ := h
 have hu := hr.units
 refine ⟨_, (pss_consI (ps_asgI (pe_fnI D_axes hr pass0 (pa_consI (pvI 0) pa_nilI)) (pg_tupKI (n := 2) K rfl (pgs_consI (pg_nameI (i := 1) sc_whole_places.nd rfl (Or.inl rfl)) (pgs_consI (pg_nameI (i := 2) sc_whole_places.nd rfl (Or.inl rfl)) pgs_nilI)))) (pss_oneI (ps_retI (show PEi _ _ (tZipL K _) from (pe_listzipI rfl B.list rfl B.zip (pa_consI (pe_ixI (ix_tupK K) (pvI 1) pe_intI (fun _ _ => rfl)) (pa_consI (pe_ixI (ix_tupK K) (pvI 2) pe_intI (fun _ _ => rfl)) pa_nilI))))))), ?_⟩
 walk_at "rd"
 refine ⟨a, ws, ps, D, m, rfl, hS, hP, hD, zD, hdv, hm, h40, fun c x y t1 b1 t2 b2 H1 s1 hc A1 A2 e1 e2 n1 n2 => ?_⟩
 refine ⟨c, _, rfl, SqT.of hc, rfl, _, _, rfl, _, _, rfl, rfl, ?_⟩
 have P1 : 0 < prodI b1 := by obtain ⟨_, _, _, _, _, _, _, _, g, _⟩ := A1; exact prodI_pos fun b hb => (g b hb).1
 have P2 : 0 < prodI b2 := by obtain ⟨_, _, _, _, _, _, _, _, g, _⟩ := A2; exact prodI_pos fun b hb => (g b hb).1
 obtain ⟨a1, lt1, lb1, rfl, ha1, ht1, hb1, z1, g1, _, q1⟩ := A1
 obtain ⟨a2, lt2, lb2, rfl, ha2, ht2, hb2, z2, g2, _, q2⟩ := A2
 walk_at "rd"
 refine ⟨lt1, lt2, _, _, rfl, SqL.of ht1, SqL.of ht2, by rw [List.length_map]; omega, fun l us H2 hl0 s2 hl hlen hpr => ?_⟩
 rw [List.length_map, List.length_map] at hlen
 exact k l us (t1.zip t2) _ _ H2 (s1.trans s2) (s1.free hl0) hl (pls_pairs hlen hpr) P1 P2 (pts_ovr e1.symm e2.symm) (zip_szp z1 z2)
theorem ok_hull (F : FunAt K mg "hull" s_hull ["points"]) (B : Blt mg) (G : Cst K mg ) (D_left_way : DefOk P w K mg base CX0 2 "left_way" ["places"] (spLeftWay K)) (D_whole_places : DefOk P w K mg base CX0 5 "whole_places" ["points"] (spHWhole K)) : DefOk P w K mg base CX0 6 "hull" ["points"] (spHull2 K) := by
 refine def_okI F sc_hull (fun vs H Q E h => ?_) (fun f cdv A outer s H vs Q E hr h => ?_)
 · obtain ⟨a, ws, ps, D, m, rfl, _⟩ := h; rfl
 obtain ⟨a, ws, ps, D, m, rfl, hS, hP, hD, zD, hdv, hm, h1, h40, k⟩ := h
 have hu := hr.units
 refine ⟨_, (pss_consI (ps_setI (i := 1) sc_hull.nd rfl (Or.inr rfl) (show PEi _ _ (tZipD K _) from (pe_dictzipI (u8 hu) rfl G.dict rfl B.zip (pa_consI (pe_fnI D_whole_places hr pass0 (pa_consI (pvI 0) pa_nilI)) (pa_consI (pvI 0) pa_nilI))))) (pss_consI (ps_setI (i := 2) sc_hull.nd rfl (Or.inl rfl) (pe_callBI call_sortT (by rfl) B.sorted PyProof.Rows.boot_sorted (pa_consI (pvI 1) pa_nilI))) (pss_consI (ps_ifI (pt_cmpRI op_eq (pe_callBI (call_lenK K) (by rfl) B.len PySem.boot_len (pa_consI (pvI 2) pa_nilI)) pe_intI (nomark _)) (pss_oneI (ps_retI (pe_lstI (pa_consI (pe_ixI (ix_listK K) (pvI 0) pe_intI (fun _ _ => rfl)) pa_nilI)))) pss_nilI) (pss_consI (ps_setI (i := 3) sc_hull.nd rfl (Or.inl rfl) (pe_opI op_cat (pe_sliceI (sl_listK K) (pe_fnI D_left_way hr pass0 (pa_consI (pvI 2) pa_nilI)) po_noneI (po_someI (pe_unI un_neg pe_intI))) (pe_sliceI (sl_listK K) (pe_fnI D_left_way hr pass0 (pa_consI (pe_backwardI K (pvI 2) (po_someI (pe_unI un_neg pe_intI))) pa_nilI)) po_noneI (po_someI (pe_unI un_neg pe_intI))))) (pss_oneI (ps_retI (pe_compSI (os := ["place"]) (caps := [(1, "told")]) ["points", "told", "places", "around"] (defScope s_hull) (pi_listKI K (pvI 3)) (fun _ _ _ _ _ => (pg_nameI (i := 0) (show List.Nodup (["place", "told"] : List Str) from by decide +kernel) rfl (Or.inl rfl))) (fun _ _ _ _ _ => (pe_ixI (ix_dict P w K hu) (pvI 1) (pvI 0) (fun _ _ => rfl))) (by decide +kernel)))))))), ?_⟩
 have hpl := hP.len
 walk_at "rd"
 refine ⟨a, ws, ps, D, m, rfl, hS, hP, hD, zD, hdv, hm, h40, fun l us pl Px Py H1 s1 hl0 hl hU hx hy hps hz => ?_⟩
 have hul := hU.len
 have hl2 : ps.length = pl.length := by rw [hps, List.length_map]
 walk_at "rd"
 refine ⟨l, a, us, ws, pl, rfl, SqL.of hl, s1.seq hS, hU, by omega, fun d H2 hd0 s2 hd => ?_⟩
 have emin : min us.length ws.length = pl.length := by omega
 rw [emin] at hd
 obtain ⟨ks, e1, e2, e3⟩ := dz_keys pl ws pl.length (Nat.le_refl _)
 rw [List.take_length] at e2
 have ekl : (dz pl ws pl.length).length = ks.length := by have := congrArg List.length e1; rwa [List.length_map, List.length_map] at this
 walk_at "rd"
 refine ⟨d, _, ks, rfl, .inl hd, e1, by omega, fun l2 vs qs hl20 hperm hsort hV => ?_⟩
 have hvl := hV.len
 have hqm : ∀ p, p ∈ qs ↔ p ∈ pl := fun p => by rw [hperm.mem_iff]; exact e2 p
 have hql : qs.length ≤ pl.length := by rw [hperm.length_eq]; exact e3
 have hqz : ∀ p ∈ qs, SzPl (m + 9000) p := fun p hp => hz p ((hqm p).mp hp)
 have sA : Same H (upd H2 l2 (.lst vs)) := (s1.trans s2).trans (Same.new hl20)
 have hV3 := hV.same (Same.new (o := .lst vs) hl20)
 walk_at "rd"
 have e0 : ps[0]? = some (gq ps 0) := gq_get (by omega)
 obtain ⟨v0, ev0⟩ : ∃ v0, ws[0]? = some v0 := ⟨ws[0]'(by omega), List.getElem?_eq_getElem _⟩
 refine ifB (fun hone => ?_) (fun hone => ?_)
 · have hq1 : qs.length = 1 := by have := V.int.inj (of_decide_eq_true hone); omega
   obtain ⟨q, rfl⟩ : ∃ q, qs = [q] := by
     rcases qs with _ | ⟨q, _ | ⟨r, t⟩⟩
     · simp at hq1
     · exact ⟨q, rfl⟩
     · simp at hq1
   walk_at "rd"
   refine ⟨a, _, _, v0, rfl, rfl, sA.seq hS, atI_nat' (j := 0) rfl ev0, ?_⟩
   walk_at "rd"
   intro r hr
   have hall : ∀ p ∈ ps, p = gq ps 0 := fun p hp => by
     have hall2 : ∀ p ∈ ps, p = ovr Px Py q := fun p hp => by
       rw [hps] at hp
       obtain ⟨x, hx', rfl⟩ := List.mem_map.mp hp
       rw [List.mem_singleton.mp ((hqm x).mpr hx')]
     rw [hall2 p hp, hall2 _ (gq_mem (by omega))]
   refine k r [v0] [gq ps 0] _ (sA.trans (Same.new hr)) (sA.free hr) upd_same ⟨rfl, fun i v p w1 w2 => ?_⟩ (hulz1 hx hy hps hqm hall (by omega))
   cases i with
   | zero => cases w1; cases w2; exact (hP.get 0 _ _ ev0 e0).same (sA.trans (Same.new hr))
   | succ i => simp at w1
 have hqq : 2 ≤ qs.length := by
   have h0 : 0 < qs.length := by
     rcases qs with _ | ⟨q, t⟩
     · exfalso
       have := (hqm (g0 pl 0)).mpr (g0_mem (by omega))
       cases this
     · simp
   have : qs.length ≠ 1 := fun z => absurd (show V.int (vs.length : Int) = V.int 1 by rw [hvl, z]; rfl) (of_decide_eq_false hone)
   omega
 walk_at "rd"
 refine ⟨l2, vs, qs, m + 9000, rfl, SqL.of upd_same, hV3, hqz, by omega, by omega, fun w1 v1 H3 s3 hw10 hw1 hV1 => ?_⟩
 have hv1 : 1 ≤ v1.length := by rw [hV1.len, List.length_reverse]; exact wayR_pos (by omega)
 have hl23 : H3 l2 = some (.lst vs) := s3 _ _ upd_same
 have hV4 := hV3.same s3
 walk_at "rd"
 refine ⟨w1, _, rfl, SqL.of hw1, fun q1 hq1 => ?_⟩
 rw [cut_drop hv1]
 walk_at "rd"
 refine ⟨l2, vs, rfl, SqL.of (by walk_at "hf"), fun q2 hq2 => ?_⟩
 walk_at "rd"
 refine ⟨q2, _, qs.reverse, m + 9000, rfl, SqL.of upd_same, plsrev (hV4.same ((Same.new hq1).trans (Same.new hq2))), fun p hp => hqz p (List.mem_reverse.mp hp), by omega, by rw [List.length_reverse]; omega, fun w2 v2 H4 s4 hw20 hw2 hV2 => ?_⟩
 have hv2 : 1 ≤ v2.length := by rw [hV2.len, List.length_reverse]; exact wayR_pos (by rw [List.length_reverse]; omega)
 have hq14 : H4 q1 = some (.lst v1.dropLast) := s4 _ _ (upd_keep hq2 upd_same)
 walk_at "rd"
 refine ⟨w2, _, rfl, SqL.of hw2, fun q3 hq3 => ?_⟩
 rw [cut_drop hv2]
 have hv1l : v1.length ≤ 40 := by rw [hV1.len, List.length_reverse]; exact Nat.le_trans (wayR_length qs) (by omega)
 have hv2l : v2.length ≤ 40 := by rw [hV2.len, List.length_reverse]; exact Nat.le_trans (wayR_length qs.reverse) (by rw [List.length_reverse]; omega)
 walk_at "rd"
 refine ⟨q1, q3, _, _, rfl, rfl, upd_keep hq3 hq14, upd_same, ?_, fun q4 hq4 => ?_⟩
 · rw [List.length_dropLast, List.length_dropLast]; exact Nat.le_of_lt (small_line (by omega))
 have sB : Same H3 (upd (upd H4 q3 (.lst v2.dropLast)) q4 (.lst (v1.dropLast ++ v2.dropLast))) := (((Same.new hq1).trans (Same.new hq2)).trans s4).trans ((Same.new hq3).trans (Same.new hq4))
 have hA : PlsV (upd (upd H4 q3 (.lst v2.dropLast)) q4 (.lst (v1.dropLast ++ v2.dropLast))) (v1.dropLast ++ v2.dropLast) (crn qs) := plsapp (hV1.same sB).dropLast (hV2.same ((Same.new hq3).trans (Same.new hq4))).dropLast
 have hC := crn_ok hsort hqq
 have hdB : (upd (upd H4 q3 (.lst v2.dropLast)) q4 (.lst (v1.dropLast ++ v2.dropLast))) d = some (.dT (dz pl ws pl.length)) := sB _ _ (s3 _ _ (upd_keep hl20 hd))
 have sC : Same H (upd (upd H4 q3 (.lst v2.dropLast)) q4 (.lst (v1.dropLast ++ v2.dropLast))) := sA.trans (s3.trans sB)
 have hAl := hA.len
 have hCl := hC.len
 walk_at "rd"
 refine ⟨⟨_, SqL.of upd_same⟩, comp1 (plain_list (SqL.of upd_same)) (by omega) (fun i v H => PtV H v (ovr Px Py (g0 (crn qs) i)).1 (ovr Px Py (g0 (crn qs) i)).2) (fun _ _ _ _ t h => h.tup t) (fun i H5 kk hi s5 hk => ?_) (fun E ys H5 hE s5 hE' hl5 hr => ?_)⟩
 · have hi' : i < (crn qs).length := by omega
   obtain ⟨b, eb, hb⟩ := hA.at (g0_get hi')
   rw [eb]
   have hpm : g0 (crn qs) i ∈ pl := (hqm _).mp (hC.mem _ (g0_mem hi'))
   obtain ⟨j, v, j1, j2, j3⟩ := dz_val pl ws pl.length (Nat.le_refl _) (by omega) _ (by rw [List.take_length]; exact hpm)
   have g := DGet.t (k := pk (g0 (crn qs) i)) (s5 _ _ hdB) (s5 _ _ hb)
   rw [j3] at g
   have hpj : ps[j]? = some (ovr Px Py (g0 (crn qs) i)) := by rw [hps, List.getElem?_map, j1]; rfl
   walk_at "rd"
   exact ⟨d, v, rfl, .inl g, hk v H5 (L2.Same.refl _) ((hP.get j v _ j2 hpj).same (sC.trans s5))⟩
 · refine k E ys ((crn qs).map (ovr Px Py)) H5 (sC.trans s5) (sC.free hE) hE' ⟨by rw [hl5, List.length_map]; exact hAl, fun i v p w1 w2 => ?_⟩ ⟨Px, Py, qs, hx, hy, hsort, fun p => by rw [hps, List.mem_map, List.mem_map]; exact ⟨fun ⟨x, h1, h2⟩ => ⟨x, (hqm x).mpr h1, h2⟩, fun ⟨x, h1, h2⟩ => ⟨x, (hqm x).mp h1, h2⟩⟩, by rw [crn1_two hsort hqq], by omega, by rw [hps, List.length_map]; exact hql⟩
   rw [List.getElem?_map] at w2
   obtain ⟨c, ec, rfl⟩ := Option.map_eq_some_iff.mp w2
   have hi' := (List.getElem?_eq_some_iff.mp ec).1
   rw [g0_get hi'] at ec
   cases ec
   exact hr i v w1
theorem ok_law (F : FunAt K mg "law" s_law ["_law_script"]) (B : Blt mg) (D_l_good : DefOk P w K mg base CX0 2 "_law_good" ["_law_found", "_law_handed_here", "_law_places"] (spGoodH K)) (D_l_handed : DefOk P w K mg base CX0 2 "_law_handed" ["_law_places", "_law_bottom"] (spHanded K)) (D_l_points : DefOk P w K mg base CX0 3 "_law_points" ["_law_script", "_law_most"] (spLPoints K)) (D_hull : DefOk P w K mg base CX0 6 "hull" ["points"] (spHull2 K)) : DefOk P w K mg base CX0 7 "law" ["_law_script"] (spLaw K) := by
 refine def_okI F sc_law (fun vs H Q E h => ?_) (fun f cdv A outer s H vs Q E hr h => ?_)
 · obtain ⟨a, ns, rfl, _⟩ := h; rfl
 obtain ⟨a, ns, rfl, hS, hlen, k⟩ := h
 have hu := hr.units
 refine ⟨_, (pss_consI (ps_asgI (pe_fnI D_l_points hr pass0 (pa_consI (pvI 0) (pa_consI pe_intI pa_nilI))) (pg_tupKI (n := 2) K rfl (pgs_consI (pg_nameI (i := 1) sc_law.nd rfl (Or.inl rfl)) (pgs_consI (pg_nameI (i := 2) sc_law.nd rfl (Or.inl rfl)) pgs_nilI)))) (pss_consI (ps_setI (i := 3) sc_law.nd rfl (Or.inl rfl) (pe_fnI D_l_handed hr pass0 (pa_consI (pvI 2) (pa_consI (pvI 1) pa_nilI)))) (pss_consI (ps_setI (i := 4) sc_law.nd rfl (Or.inl rfl) (pe_callTyI (call_list_ofKH K) rfl B.list PyProof.Rows.boot_list (pa_consI (pvI 3) pa_nilI))) (pss_consI (ps_setI (i := 5) sc_law.nd rfl (Or.inl rfl) (pe_fnI D_hull hr pass0 (pa_consI (pvI 4) pa_nilI))) (pss_consI (ps_ifI (PW_ptI (pw_orI (pt_notI (pt_valI (pe_fnI D_l_good hr pass0 (pa_consI (pvI 5) (pa_consI (pvI 3) (pa_consI (pvI 2) pa_nilI)))))) (pw_or1I (pt_cmpRI (op_neDK K hu) (pvI 4) (pvI 3) (nomark _))))) (pss_oneI (ps_retI pe_blI)) pss_nilI) (pss_consI (ps_setI (i := 6) sc_law.nd rfl (Or.inl rfl) (pe_callTyI (call_list_ofKH K) rfl B.list PyProof.Rows.boot_list (pa_consI (pvI 5) pa_nilI))) (pss_consI (ps_exprI (show PEi _ _ (tBM K _ _ _ _) from (pe_bmI PySem.F.plainAttrs_list PySem.F.slot_list_append PySem.F.type_list_append mt_append (pvI 5) (pa_consI (pe_ixI (ix_listK K) (pvI 5) pe_intI (fun _ _ => rfl)) pa_nilI)))) (pss_oneI (ps_retI (pe_andI (pe_cmpRI (op_eqDK K hu) (pe_fnI D_hull hr pass0 (pa_consI (pvI 4) pa_nilI)) (pvI 6) (nomark _)) (pe_oneI (pe_cmpRI (op_eqDK K hu) (pe_fnI D_hull hr pass0 (pa_consI (pe_backwardI K (pvI 3) (po_someI (pe_unI un_neg pe_intI))) pa_nilI)) (pvI 6) (nomark _))))))))))))), ?_⟩
 walk_at "rd"
 refine ⟨a, ns, rfl, hS, fun c l ws pl BB H1 s1 hc hl hP h1 h40 B1 B2 hZ => ?_⟩
 refine ⟨c, _, rfl, SqT.of hc, rfl, _, _, rfl, _, _, rfl, rfl, ?_⟩
 have zB : Sz 31 BB := sz_of (b := 1000000007) (by omega) (by decide)
 have hov := ptsOf_ov (show 0 < BB by omega) hZ
 have hlen2 := ptsOf_len BB pl
 have hdv : ∀ p ∈ ptsOf BB pl, ((p.1.den : Int) ∣ BB ∧ Bd 110 p.1) ∧ (p.2.den : Int) ∣ BB ∧ Bd 110 p.2 := fun p hp => ⟨⟨den_dvd (hov p hp).1, (hov p hp).1.bd (by omega) zB⟩, den_dvd (hov p hp).2, (hov p hp).2.bd (by omega) zB⟩
 walk_at "rd"
 refine ⟨l, ws, pl, BB, rfl, SqL.of hl, hP, B1, zB.mono (by decide), by omega, fun lp us H2 s2 hp0 hp hU => ?_⟩
 walk_at "rd"
 intro lh hlh
 have e3 : Same H2 (upd H2 lh (.lst us)) := Same.new hlh
 walk_at "rd"
 refine ⟨lh, us, ptsOf BB pl, BB, 110, rfl, SqL.of upd_same, hU.same e3, by omega, zB.mono (by decide), hdv, by decide, by omega, by omega, fun lf uf cs H3 s3 hlf0 hlf hC hul => ?_⟩
 have hlh3 : H3 lh = some (.lst us) := s3 _ _ upd_same
 have nlh : lh ≠ lf := fun z => by rw [← z, upd_same] at hlf0; cases hlf0
 have nlp : lp ≠ lf := fun z => by have := e3 _ _ hp; rw [z, hlf0] at this; cases this
 have s23 : Same H2 H3 := e3.trans s3
 have s13 : Same H1 H3 := s2.trans s23
 have hul1 := hul.q
 walk_at "rd"
 refine ⟨lf, lp, l, uf, us, ws, cs, pl, BB, rfl, hlf, hC, s23 _ _ hp, hU.same s23, s13 _ _ hl, hP.same s13, by omega, hul, h40, fun p hp => ⟨(hZ p hp).1.mono (by decide), (hZ p hp).2.mono (by decide)⟩, fun H4 s4 => ⟨_, rfl, ifF rfl ?_⟩⟩
 have s24 := s23.trans s4
 have hU4 := hU.same s24
 have hp4 := s24 _ _ hp
 have hlh4 := s4 _ _ hlh3
 have hlf4 := s4 _ _ hlf
 have hC4 := hC.same s4
 clear s1 s2 s3 s4 s13 s23 s24 e3 hlh hlf hlh3 hC hU hp hP hl hc hZ hp0 hlf0 hS
 walk_at "rd"
 refine ⟨datPts (ptsOf BB pl), datPts (ptsOf BB pl), dnP hlh4 hU4, dnP hp4 hU4, datPts_ok _ 5, datPts_ok _ 5, fun b1 hb1 => ?_⟩
 obtain rfl := hb1.mpr rfl
 refine ⟨_, rfl, ifF rfl ?_⟩
 walk_at "rd"
 intro lk hlk
 have nlk : lk ≠ lf := fun z => by rw [z, hlf4] at hlk; cases hlk
 have e5 : Same H4 (upd H4 lk (.lst uf)) := Same.new hlk
 have hne := hul1.ne
 have hufl := hC4.len
 obtain ⟨v0, ev0⟩ : ∃ v0, uf[0]? = some v0 := ⟨uf[0]'(by omega), List.getElem?_eq_getElem _⟩
 have hk5 : (upd H4 lk (.lst uf)) lk = some (.lst uf) := upd_same
 have hlf5 := e5 _ _ hlf4
 have hlh5 := e5 _ _ hlh4
 have hlp5 := e5 _ _ hp4
 have hU5 := hU4.same e5
 have hC5 := hC4.same e5
 generalize upd H4 lk (.lst uf) = H5 at *
 clear e5 hlf4 hlh4 hp4 hU4 hC4 hlk
 have hcl : cs.length ≤ pl.length := by rw [← hlen2]; exact hul.nodup.length_le_of_subset fun c hc => hul1.mem c hc
 walk_at "rd"
 refine ⟨.inl ⟨rfl, _, SqL.of hlf5⟩, ?_⟩
 walk_at "rd"
 refine ⟨lf, _, _, _, rfl, rfl, SqL.of hlf5, atI_nat' (j := 0) rfl ev0, ?_⟩
 walk_at "rd"
 refine ⟨lf, _, _, rfl, rfl, hlf5, small_line (by omega), ?_⟩
 have t6 : Tup H5 (upd H5 lf (.lst (uf ++ [v0]))) := Tup.lst hlf5
 have hU6 : PtsV (upd H5 lf (.lst (uf ++ [v0]))) us (ptsOf BB pl) := hU5.tup t6
 have hC6 : PtsV (upd H5 lf (.lst (uf ++ [v0]))) uf cs := hC5.tup t6
 have hlh6 : (upd H5 lf (.lst (uf ++ [v0]))) lh = some (.lst us) := by rw [upd_ne nlh]; exact hlh5
 have hlp6 : (upd H5 lf (.lst (uf ++ [v0]))) lp = some (.lst us) := by rw [upd_ne nlp]; exact hlp5
 have hk6 : (upd H5 lf (.lst (uf ++ [v0]))) lk = some (.lst uf) := by rw [upd_ne nlk]; exact hk5
 generalize upd H5 lf (.lst (uf ++ [v0])) = H6 at *
 walk_at "rd"
 refine ⟨lh, us, ptsOf BB pl, BB, 110, rfl, SqL.of hlh6, hU6, by omega, zB.mono (by decide), hdv, by decide, by omega, by omega, fun lg ug cg H7 s7 hlg0 hlg hG hulg => ?_⟩
 obtain rfl : cg = cs := hulg.one hul fun p => Iff.rfl
 walk_at "rd"
 refine ⟨datPts cg, datPts cg, dnP hlg hG, dnP (s7 _ _ hk6) (hC6.same s7), datPts_ok _ 5, datPts_ok _ 5, fun b1 hb1 => ?_⟩
 obtain rfl := hb1.mpr rfl
 refine ⟨_, rfl, ?_⟩
 walk_at "rd"
 refine ⟨lp, us, rfl, SqL.of (s7 _ _ hlp6), fun lr hlr => ?_⟩
 have e8 : Same H7 (upd H7 lr (.lst us.reverse)) := Same.new hlr
 have hR : PtsV (upd H7 lr (.lst us.reverse)) us.reverse (ptsOf BB pl).reverse := pts_reverse (hU6.same (s7.trans e8))
 have hr8 : (upd H7 lr (.lst us.reverse)) lr = some (.lst us.reverse) := upd_same
 have hk8 := e8 _ _ (s7 _ _ hk6)
 have hC8 := hC6.same (s7.trans e8)
 generalize upd H7 lr (.lst us.reverse) = H8 at *
 walk_at "rd"
 dsimp only [tNil]
 refine ⟨lr, us.reverse, (ptsOf BB pl).reverse, BB, 110, rfl, SqL.of hr8, hR, by omega, zB.mono (by decide), fun p hp => hdv p (List.mem_reverse.mp hp), by decide, by rw [List.length_reverse]; omega, by rw [List.length_reverse]; omega, fun lz uz cz H9 s9 hlz0 hlz hZz hulz => ?_⟩
 obtain rfl : cz = cg := hulz.one hul fun p => List.mem_reverse
 walk_at "rd"
 refine ⟨datPts cz, datPts cz, dnP hlz hZz, dnP (s9 _ _ hk8) (hC8.same s9), datPts_ok _ 5, datPts_ok _ 5, fun b1 hb1 => ?_⟩
 obtain rfl := hb1.mpr rfl
 exact k _
end
theorem all_mk {w : World} {K : PySem.W.Frag} {h : Heap} {mg : Str → Option Value} {fa : Addr} (KX : K.In h) (GN : h.Ns mainGlobals mg) (hfa : mg "law" = some (.ref fa))
    {f0 : Addr} {od0 an0 : Option Addr} {sl0 : Array (Option Value)} {oc0 kV0 dc0 pm0 cd0 ct0 : Value}
    {f1 : Addr} {od1 an1 : Option Addr} {sl1 : Array (Option Value)} {oc1 kV1 dc1 pm1 cd1 ct1 : Value}
    {f2 : Addr} {od2 an2 : Option Addr} {sl2 : Array (Option Value)} {oc2 kV2 dc2 pm2 cd2 ct2 : Value}
    {f3 : Addr} {od3 an3 : Option Addr} {sl3 : Array (Option Value)} {oc3 kV3 dc3 pm3 cd3 ct3 : Value}
    {f4 : Addr} {od4 an4 : Option Addr} {sl4 : Array (Option Value)} {oc4 kV4 dc4 pm4 cd4 ct4 : Value}
    {f5 : Addr} {od5 an5 : Option Addr} {sl5 : Array (Option Value)} {oc5 kV5 dc5 pm5 cd5 ct5 : Value}
    {f6 : Addr} {od6 an6 : Option Addr} {sl6 : Array (Option Value)} {oc6 kV6 dc6 pm6 cd6 ct6 : Value}
    {f7 : Addr} {od7 an7 : Option Addr} {sl7 : Array (Option Value)} {oc7 kV7 dc7 pm7 cd7 ct7 : Value}
    {f8 : Addr} {od8 an8 : Option Addr} {sl8 : Array (Option Value)} {oc8 kV8 dc8 pm8 cd8 ct8 : Value}
    {f9 : Addr} {od9 an9 : Option Addr} {sl9 : Array (Option Value)} {oc9 kV9 dc9 pm9 cd9 ct9 : Value}
    {f10 : Addr} {od10 an10 : Option Addr} {sl10 : Array (Option Value)} {oc10 kV10 dc10 pm10 cd10 ct10 : Value}
    {f11 : Addr} {od11 an11 : Option Addr} {sl11 : Array (Option Value)} {oc11 kV11 dc11 pm11 cd11 ct11 : Value}
    {f12 : Addr} {od12 an12 : Option Addr} {sl12 : Array (Option Value)} {oc12 kV12 dc12 pm12 cd12 ct12 : Value}
    {f13 : Addr} {od13 an13 : Option Addr} {sl13 : Array (Option Value)} {oc13 kV13 dc13 pm13 cd13 ct13 : Value}
    {f14 : Addr} {od14 an14 : Option Addr} {sl14 : Array (Option Value)} {oc14 kV14 dc14 pm14 cd14 ct14 : Value}
    {f15 : Addr} {od15 an15 : Option Addr} {sl15 : Array (Option Value)} {oc15 kV15 dc15 pm15 cd15 ct15 : Value}
    {f16 : Addr} {od16 an16 : Option Addr} {sl16 : Array (Option Value)} {oc16 kV16 dc16 pm16 cd16 ct16 : Value}
    {f17 : Addr} {od17 an17 : Option Addr} {sl17 : Array (Option Value)} {oc17 kV17 dc17 pm17 cd17 ct17 : Value}
    {f18 : Addr} {od18 an18 : Option Addr} {sl18 : Array (Option Value)} {oc18 kV18 dc18 pm18 cd18 ct18 : Value}
    {f19 : Addr} {od19 an19 : Option Addr} {sl19 : Array (Option Value)} {oc19 kV19 dc19 pm19 cd19 ct19 : Value}
    (a0 : PySem.W.nsIn K mainGlobals "_law_cross" = some (some (.ref f0))) (l0 : K.lookup f0 = some ⟨oc0, od0, .func (PySem.W.fnOf "_law_cross" "_law_cross" (defArgs s_l_cross) (defBody s_l_cross) (defScope s_l_cross) .none kV0 dc0 pm0 an0 cd0 ct0), sl0⟩) (c0 : PySem.W.codeIn K cd0 "_law_cross" = true) (k0 : PySem.W.keepIn K (.ref f0) = true)
    (a1 : PySem.W.nsIn K mainGlobals "_law_known" = some (some (.ref f1))) (l1 : K.lookup f1 = some ⟨oc1, od1, .func (PySem.W.fnOf "_law_known" "_law_known" (defArgs s_l_known) (defBody s_l_known) (defScope s_l_known) .none kV1 dc1 pm1 an1 cd1 ct1), sl1⟩) (c1 : PySem.W.codeIn K cd1 "_law_known" = true) (k1 : PySem.W.keepIn K (.ref f1) = true)
    (a2 : PySem.W.nsIn K mainGlobals "_law_good" = some (some (.ref f2))) (l2 : K.lookup f2 = some ⟨oc2, od2, .func (PySem.W.fnOf "_law_good" "_law_good" (defArgs s_l_good) (defBody s_l_good) (defScope s_l_good) .none kV2 dc2 pm2 an2 cd2 ct2), sl2⟩) (c2 : PySem.W.codeIn K cd2 "_law_good" = true) (k2 : PySem.W.keepIn K (.ref f2) = true)
    (a3 : PySem.W.nsIn K mainGlobals "_law_share" = some (some (.ref f3))) (l3 : K.lookup f3 = some ⟨oc3, od3, .func (PySem.W.fnOf "_law_share" "_law_share" (defArgs s_l_share) (defBody s_l_share) (defScope s_l_share) .none kV3 dc3 pm3 an3 cd3 ct3), sl3⟩) (c3 : PySem.W.codeIn K cd3 "_law_share" = true) (k3 : PySem.W.keepIn K (.ref f3) = true)
    (a4 : PySem.W.nsIn K mainGlobals "_law_handed" = some (some (.ref f4))) (l4 : K.lookup f4 = some ⟨oc4, od4, .func (PySem.W.fnOf "_law_handed" "_law_handed" (defArgs s_l_handed) (defBody s_l_handed) (defScope s_l_handed) .none kV4 dc4 pm4 an4 cd4 ct4), sl4⟩) (c4 : PySem.W.codeIn K cd4 "_law_handed" = true) (k4 : PySem.W.keepIn K (.ref f4) = true)
    (a5 : PySem.W.nsIn K mainGlobals "_law_cell_at" = some (some (.ref f5))) (l5 : K.lookup f5 = some ⟨oc5, od5, .func (PySem.W.fnOf "_law_cell_at" "_law_cell_at" (defArgs s_l_cell_at) (defBody s_l_cell_at) (defScope s_l_cell_at) .none kV5 dc5 pm5 an5 cd5 ct5), sl5⟩) (c5 : PySem.W.codeIn K cd5 "_law_cell_at" = true) (k5 : PySem.W.keepIn K (.ref f5) = true)
    (a6 : PySem.W.nsIn K mainGlobals "_law_stream" = some (some (.ref f6))) (l6 : K.lookup f6 = some ⟨oc6, od6, .func (PySem.W.fnOf "_law_stream" "_law_stream" (defArgs s_l_stream) (defBody s_l_stream) (defScope s_l_stream) .none kV6 dc6 pm6 an6 cd6 ct6), sl6⟩) (c6 : PySem.W.codeIn K cd6 "_law_stream" = true) (k6 : PySem.W.keepIn K (.ref f6) = true)
    (a7 : PySem.W.nsIn K mainGlobals "_law_place" = some (some (.ref f7))) (l7 : K.lookup f7 = some ⟨oc7, od7, .func (PySem.W.fnOf "_law_place" "_law_place" (defArgs s_l_place) (defBody s_l_place) (defScope s_l_place) .none kV7 dc7 pm7 an7 cd7 ct7), sl7⟩) (c7 : PySem.W.codeIn K cd7 "_law_place" = true) (k7 : PySem.W.keepIn K (.ref f7) = true)
    (a8 : PySem.W.nsIn K mainGlobals "_law_way" = some (some (.ref f8))) (l8 : K.lookup f8 = some ⟨oc8, od8, .func (PySem.W.fnOf "_law_way" "_law_way" (defArgs s_l_way) (defBody s_l_way) (defScope s_l_way) .none kV8 dc8 pm8 an8 cd8 ct8), sl8⟩) (c8 : PySem.W.codeIn K cd8 "_law_way" = true) (k8 : PySem.W.keepIn K (.ref f8) = true)
    (a9 : PySem.W.nsIn K mainGlobals "_law_points" = some (some (.ref f9))) (l9 : K.lookup f9 = some ⟨oc9, od9, .func (PySem.W.fnOf "_law_points" "_law_points" (defArgs s_l_points) (defBody s_l_points) (defScope s_l_points) .none kV9 dc9 pm9 an9 cd9 ct9), sl9⟩) (c9 : PySem.W.codeIn K cd9 "_law_points" = true) (k9 : PySem.W.keepIn K (.ref f9) = true)
    (a10 : PySem.W.nsIn K mainGlobals "turn" = some (some (.ref f10))) (l10 : K.lookup f10 = some ⟨oc10, od10, .func (PySem.W.fnOf "turn" "turn" (defArgs s_turn) (defBody s_turn) (defScope s_turn) .none kV10 dc10 pm10 an10 cd10 ct10), sl10⟩) (c10 : PySem.W.codeIn K cd10 "turn" = true) (k10 : PySem.W.keepIn K (.ref f10) = true)
    (a11 : PySem.W.nsIn K mainGlobals "left_way" = some (some (.ref f11))) (l11 : K.lookup f11 = some ⟨oc11, od11, .func (PySem.W.fnOf "left_way" "left_way" (defArgs s_left_way) (defBody s_left_way) (defScope s_left_way) .none kV11 dc11 pm11 an11 cd11 ct11), sl11⟩) (c11 : PySem.W.codeIn K cd11 "left_way" = true) (k11 : PySem.W.keepIn K (.ref f11) = true)
    (a12 : PySem.W.nsIn K mainGlobals "greatest_common" = some (some (.ref f12))) (l12 : K.lookup f12 = some ⟨oc12, od12, .func (PySem.W.fnOf "greatest_common" "greatest_common" (defArgs s_greatest_common) (defBody s_greatest_common) (defScope s_greatest_common) .none kV12 dc12 pm12 an12 cd12 ct12), sl12⟩) (c12 : PySem.W.codeIn K cd12 "greatest_common" = true) (k12 : PySem.W.keepIn K (.ref f12) = true)
    (a13 : PySem.W.nsIn K mainGlobals "common_bottoms" = some (some (.ref f13))) (l13 : K.lookup f13 = some ⟨oc13, od13, .func (PySem.W.fnOf "common_bottoms" "common_bottoms" (defArgs s_common_bottoms) (defBody s_common_bottoms) (defScope s_common_bottoms) .none kV13 dc13 pm13 an13 cd13 ct13), sl13⟩) (c13 : PySem.W.codeIn K cd13 "common_bottoms" = true) (k13 : PySem.W.keepIn K (.ref f13) = true)
    (a14 : PySem.W.nsIn K mainGlobals "product" = some (some (.ref f14))) (l14 : K.lookup f14 = some ⟨oc14, od14, .func (PySem.W.fnOf "product" "product" (defArgs s_product) (defBody s_product) (defScope s_product) .none kV14 dc14 pm14 an14 cd14 ct14), sl14⟩) (c14 : PySem.W.codeIn K cd14 "product" = true) (k14 : PySem.W.keepIn K (.ref f14) = true)
    (a15 : PySem.W.nsIn K mainGlobals "axis" = some (some (.ref f15))) (l15 : K.lookup f15 = some ⟨oc15, od15, .func (PySem.W.fnOf "axis" "axis" (defArgs s_axis) (defBody s_axis) (defScope s_axis) .none kV15 dc15 pm15 an15 cd15 ct15), sl15⟩) (c15 : PySem.W.codeIn K cd15 "axis" = true) (k15 : PySem.W.keepIn K (.ref f15) = true)
    (a16 : PySem.W.nsIn K mainGlobals "axes" = some (some (.ref f16))) (l16 : K.lookup f16 = some ⟨oc16, od16, .func (PySem.W.fnOf "axes" "axes" (defArgs s_axes) (defBody s_axes) (defScope s_axes) .none kV16 dc16 pm16 an16 cd16 ct16), sl16⟩) (c16 : PySem.W.codeIn K cd16 "axes" = true) (k16 : PySem.W.keepIn K (.ref f16) = true)
    (a17 : PySem.W.nsIn K mainGlobals "whole_places" = some (some (.ref f17))) (l17 : K.lookup f17 = some ⟨oc17, od17, .func (PySem.W.fnOf "whole_places" "whole_places" (defArgs s_whole_places) (defBody s_whole_places) (defScope s_whole_places) .none kV17 dc17 pm17 an17 cd17 ct17), sl17⟩) (c17 : PySem.W.codeIn K cd17 "whole_places" = true) (k17 : PySem.W.keepIn K (.ref f17) = true)
    (a18 : PySem.W.nsIn K mainGlobals "hull" = some (some (.ref f18))) (l18 : K.lookup f18 = some ⟨oc18, od18, .func (PySem.W.fnOf "hull" "hull" (defArgs s_hull) (defBody s_hull) (defScope s_hull) .none kV18 dc18 pm18 an18 cd18 ct18), sl18⟩) (c18 : PySem.W.codeIn K cd18 "hull" = true) (k18 : PySem.W.keepIn K (.ref f18) = true)
    (a19 : PySem.W.nsIn K mainGlobals "law" = some (some (.ref f19))) (l19 : K.lookup f19 = some ⟨oc19, od19, .func (PySem.W.fnOf "law" "law" (defArgs s_law) (defBody s_law) (defScope s_law) .none kV19 dc19 pm19 an19 cd19 ct19), sl19⟩) (c19 : PySem.W.codeIn K cd19 "law" = true) (k19 : PySem.W.keepIn K (.ref f19) = true)
    (z_len : PySem.W.nsIn K mainGlobals "len" = some none)
    (z_abs : PySem.W.nsIn K mainGlobals "abs" = some none)
    (z_range : PySem.W.nsIn K mainGlobals "range" = some none)
    (z_max : PySem.W.nsIn K mainGlobals "max" = some none)
    (z_min : PySem.W.nsIn K mainGlobals "min" = some none)
    (z_any : PySem.W.nsIn K mainGlobals "any" = some none)
    (z_all : PySem.W.nsIn K mainGlobals "all" = some none)
    (z_sum : PySem.W.nsIn K mainGlobals "sum" = some none)
    (z_isinstance : PySem.W.nsIn K mainGlobals "isinstance" = some none)
    (z_int : PySem.W.nsIn K mainGlobals "int" = some none)
    (z_bool : PySem.W.nsIn K mainGlobals "bool" = some none)
    (z_tuple : PySem.W.nsIn K mainGlobals "tuple" = some none)
    (z_list : PySem.W.nsIn K mainGlobals "list" = some none)
    (z_str : PySem.W.nsIn K mainGlobals "str" = some none)
    (z_ValueError : PySem.W.nsIn K mainGlobals "ValueError" = some none)
    (z_zip : PySem.W.nsIn K mainGlobals "zip" = some none)
    (z_reversed : PySem.W.nsIn K mainGlobals "reversed" = some none)
    (z_enumerate : PySem.W.nsIn K mainGlobals "enumerate" = some none)
    (z_sorted : PySem.W.nsIn K mainGlobals "sorted" = some none)
    (z_dict : PySem.W.nsIn K mainGlobals "dict" = some none)
    (a_dict : PySem.W.nsIn K mainGlobals "dict" = some none)
    : ∃ fd : FuncData, (∀ (s : Shared) (v : Value), BindsTo s fd ⟨[v], []⟩ [("_law_script", v)]) ∧ ∀ (P : Program) (base : Heap), K.In base → base.Ns mainGlobals mg → FnOk P w K mg base CX0 7 fa fd ["_law_script"] ((spLaw K)) := by
  have e := hfa.symm.trans (PySem.W.mg_of KX GN a19)
  cases e
  have B : Blt mg := ⟨PySem.W.mg_none_of KX GN z_len, PySem.W.mg_none_of KX GN z_abs, PySem.W.mg_none_of KX GN z_range, PySem.W.mg_none_of KX GN z_max, PySem.W.mg_none_of KX GN z_min, PySem.W.mg_none_of KX GN z_any, PySem.W.mg_none_of KX GN z_all, PySem.W.mg_none_of KX GN z_sum, PySem.W.mg_none_of KX GN z_isinstance, PySem.W.mg_none_of KX GN z_int, PySem.W.mg_none_of KX GN z_bool, PySem.W.mg_none_of KX GN z_tuple, PySem.W.mg_none_of KX GN z_list, PySem.W.mg_none_of KX GN z_str, PySem.W.mg_none_of KX GN z_ValueError, PySem.W.mg_none_of KX GN z_zip, PySem.W.mg_none_of KX GN z_reversed, PySem.W.mg_none_of KX GN z_enumerate, PySem.W.mg_none_of KX GN z_sorted, PySem.W.mg_none_of KX GN z_dict⟩
  have G : Cst K mg  := ⟨PySem.W.mg_none_of KX GN a_dict⟩
  have F0 : FunAt K mg "_law_cross" s_l_cross ["_law_one", "_law_other", "_law_third"] := FunAt.mk' (PySem.W.mg_of KX GN a0) l0 c0 k0 fun _ _ _ _ _ _ us hl => uln3 (fun _ _ _ => rfl) us hl
  have F1 : FunAt K mg "_law_known" s_l_known ["_law_found", "_law_handed_here", "_law_places"] := FunAt.mk' (PySem.W.mg_of KX GN a1) l1 c1 k1 fun _ _ _ _ _ _ us hl => uln3 (fun _ _ _ => rfl) us hl
  have F2 : FunAt K mg "_law_good" s_l_good ["_law_found", "_law_handed_here", "_law_places"] := FunAt.mk' (PySem.W.mg_of KX GN a2) l2 c2 k2 fun _ _ _ _ _ _ us hl => uln3 (fun _ _ _ => rfl) us hl
  have F3 : FunAt K mg "_law_share" s_l_share ["_law_top", "_law_bottom"] := FunAt.mk' (PySem.W.mg_of KX GN a3) l3 c3 k3 fun _ _ _ _ _ _ us hl => uln2 (fun _ _ => rfl) us hl
  have F4 : FunAt K mg "_law_handed" s_l_handed ["_law_places", "_law_bottom"] := FunAt.mk' (PySem.W.mg_of KX GN a4) l4 c4 k4 fun _ _ _ _ _ _ us hl => uln2 (fun _ _ => rfl) us hl
  have F5 : FunAt K mg "_law_cell_at" s_l_cell_at ["_law_script", "_law_k"] := FunAt.mk' (PySem.W.mg_of KX GN a5) l5 c5 k5 fun _ _ _ _ _ _ us hl => uln2 (fun _ _ => rfl) us hl
  have F6 : FunAt K mg "_law_stream" s_l_stream ["_law_cell", "_law_many"] := FunAt.mk' (PySem.W.mg_of KX GN a6) l6 c6 k6 fun _ _ _ _ _ _ us hl => uln2 (fun _ _ => rfl) us hl
  have F7 : FunAt K mg "_law_place" s_l_place ["_law_cell", "_law_way_here"] := FunAt.mk' (PySem.W.mg_of KX GN a7) l7 c7 k7 fun _ _ _ _ _ _ us hl => uln2 (fun _ _ => rfl) us hl
  have F8 : FunAt K mg "_law_way" s_l_way ["_law_cell"] := FunAt.mk' (PySem.W.mg_of KX GN a8) l8 c8 k8 fun _ _ _ _ _ _ us hl => uln1 (fun _ => rfl) us hl
  have F9 : FunAt K mg "_law_points" s_l_points ["_law_script", "_law_most"] := FunAt.mk' (PySem.W.mg_of KX GN a9) l9 c9 k9 fun _ _ _ _ _ _ us hl => uln2 (fun _ _ => rfl) us hl
  have F10 : FunAt K mg "turn" s_turn ["one", "other", "third"] := FunAt.mk' (PySem.W.mg_of KX GN a10) l10 c10 k10 fun _ _ _ _ _ _ us hl => uln3 (fun _ _ _ => rfl) us hl
  have F11 : FunAt K mg "left_way" s_left_way ["places"] := FunAt.mk' (PySem.W.mg_of KX GN a11) l11 c11 k11 fun _ _ _ _ _ _ us hl => uln1 (fun _ => rfl) us hl
  have F12 : FunAt K mg "greatest_common" s_greatest_common ["one", "other"] := FunAt.mk' (PySem.W.mg_of KX GN a12) l12 c12 k12 fun _ _ _ _ _ _ us hl => uln2 (fun _ _ => rfl) us hl
  have F13 : FunAt K mg "common_bottoms" s_common_bottoms ["shares"] := FunAt.mk' (PySem.W.mg_of KX GN a13) l13 c13 k13 fun _ _ _ _ _ _ us hl => uln1 (fun _ => rfl) us hl
  have F14 : FunAt K mg "product" s_product ["numbers"] := FunAt.mk' (PySem.W.mg_of KX GN a14) l14 c14 k14 fun _ _ _ _ _ _ us hl => uln1 (fun _ => rfl) us hl
  have F15 : FunAt K mg "axis" s_axis ["shares"] := FunAt.mk' (PySem.W.mg_of KX GN a15) l15 c15 k15 fun _ _ _ _ _ _ us hl => uln1 (fun _ => rfl) us hl
  have F16 : FunAt K mg "axes" s_axes ["points"] := FunAt.mk' (PySem.W.mg_of KX GN a16) l16 c16 k16 fun _ _ _ _ _ _ us hl => uln1 (fun _ => rfl) us hl
  have F17 : FunAt K mg "whole_places" s_whole_places ["points"] := FunAt.mk' (PySem.W.mg_of KX GN a17) l17 c17 k17 fun _ _ _ _ _ _ us hl => uln1 (fun _ => rfl) us hl
  have F18 : FunAt K mg "hull" s_hull ["points"] := FunAt.mk' (PySem.W.mg_of KX GN a18) l18 c18 k18 fun _ _ _ _ _ _ us hl => uln1 (fun _ => rfl) us hl
  have F19 : FunAt K mg "law" s_law ["_law_script"] := FunAt.mk' (PySem.W.mg_of KX GN a19) l19 c19 k19 fun _ _ _ _ _ _ us hl => uln1 (fun _ => rfl) us hl
  refine ⟨PySem.W.fnOf "law" "law" (defArgs s_law) (defBody s_law) (defScope s_law) .none kV19 dc19 pm19 an19 cd19 ct19, fun s v => .of_eq rfl, fun P base _ _ => ?_⟩
  have D0 := ok_l_cross (P := P) (w := w) (base := base) F0
  have D1 := ok_l_known (P := P) (w := w) (base := base) F1 B
  have D2 := ok_l_good (P := P) (w := w) (base := base) F2 B D0 D1
  have D3 := ok_l_share (P := P) (w := w) (base := base) F3 B
  have D4 := ok_l_handed (P := P) (w := w) (base := base) F4 D3
  have D5 := ok_l_cell_at (P := P) (w := w) (base := base) F5 B
  have D6 := ok_l_stream (P := P) (w := w) (base := base) F6 B
  have D7 := ok_l_place (P := P) (w := w) (base := base) F7 D6
  have D8 := ok_l_way (P := P) (w := w) (base := base) F8 D6
  have D9 := ok_l_points (P := P) (w := w) (base := base) F9 D5 D6 D7 D8
  have D10 := ok_turn (P := P) (w := w) (base := base) F10
  have D11 := ok_left_way (P := P) (w := w) (base := base) F11 B D10
  have D12 := ok_greatest_common (P := P) (w := w) (base := base) F12 B
  have D13 := ok_common_bottoms (P := P) (w := w) (base := base) F13 D12
  have D14 := ok_product (P := P) (w := w) (base := base) F14
  have D15 := ok_axis (P := P) (w := w) (base := base) F15 D13 D14
  have D16 := ok_axes (P := P) (w := w) (base := base) F16 D15
  have D17 := ok_whole_places (P := P) (w := w) (base := base) F17 B D16
  have D18 := ok_hull (P := P) (w := w) (base := base) F18 B G D11 D17
  have D19 := ok_law (P := P) (w := w) (base := base) F19 B D2 D4 D9 D18
  exact D19.law l19 (PySem.W.mg_of KX GN a19)
end Cv
open PySem PySem.W PyProof.Rows
set_option maxHeartbeats 0 in
theorem PySem.Challenge.cw_curveseat_k40_corners_turn_left_holds : PySem.Challenge.rw_curveseat_k40_corners_turn_left.Holds := by
  w_on; o_law; k_head; (case hw => w_witness2)
  k_fill
  refine Cv.walk (l := PySem.Challenge.rw_curveseat_k40_corners_turn_left) (k := 7) (x := "_law_script") (CX := L2.CX0) (sp := fun K => (Cv.spLaw K)) rfl rfl ⟨rfl, by decide, by decide⟩ (fun w h Y => PySem.W.kIn_of Y) ?F (fun K H a ns h1 h2 h3 => ⟨a, ns, rfl, h3, h1, fun _ => rfl⟩) (fun _ _ _ _ z => z)
  case F =>
    intro w mg fa h KX G hmg
    refine' Cv.all_mk KX G hmg ?a0 ?l0 ?c0 ?k0 ?a1 ?l1 ?c1 ?k1 ?a2 ?l2 ?c2 ?k2 ?a3 ?l3 ?c3 ?k3 ?a4 ?l4 ?c4 ?k4 ?a5 ?l5 ?c5 ?k5 ?a6 ?l6 ?c6 ?k6 ?a7 ?l7 ?c7 ?k7 ?a8 ?l8 ?c8 ?k8 ?a9 ?l9 ?c9 ?k9 ?a10 ?l10 ?c10 ?k10 ?a11 ?l11 ?c11 ?k11 ?a12 ?l12 ?c12 ?k12 ?a13 ?l13 ?c13 ?k13 ?a14 ?l14 ?c14 ?k14 ?a15 ?l15 ?c15 ?k15 ?a16 ?l16 ?c16 ?k16 ?a17 ?l17 ?c17 ?k17 ?a18 ?l18 ?c18 ?k18 ?a19 ?l19 ?c19 ?k19 ?z_len ?z_abs ?z_range ?z_max ?z_min ?z_any ?z_all ?z_sum ?z_isinstance ?z_int ?z_bool ?z_tuple ?z_list ?z_str ?z_ValueError ?z_zip ?z_reversed ?z_enumerate ?z_sorted ?z_dict ?a_dict
    (case a0 => k_is)
    (case l0 => k_is)
    (case c0 => k_is)
    (case k0 => k_is)
    (case a1 => k_is)
    (case l1 => k_is)
    (case c1 => k_is)
    (case k1 => k_is)
    (case a2 => k_is)
    (case l2 => k_is)
    (case c2 => k_is)
    (case k2 => k_is)
    (case a3 => k_is)
    (case l3 => k_is)
    (case c3 => k_is)
    (case k3 => k_is)
    (case a4 => k_is)
    (case l4 => k_is)
    (case c4 => k_is)
    (case k4 => k_is)
    (case a5 => k_is)
    (case l5 => k_is)
    (case c5 => k_is)
    (case k5 => k_is)
    (case a6 => k_is)
    (case l6 => k_is)
    (case c6 => k_is)
    (case k6 => k_is)
    (case a7 => k_is)
    (case l7 => k_is)
    (case c7 => k_is)
    (case k7 => k_is)
    (case a8 => k_is)
    (case l8 => k_is)
    (case c8 => k_is)
    (case k8 => k_is)
    (case a9 => k_is)
    (case l9 => k_is)
    (case c9 => k_is)
    (case k9 => k_is)
    (case a10 => k_is)
    (case l10 => k_is)
    (case c10 => k_is)
    (case k10 => k_is)
    (case a11 => k_is)
    (case l11 => k_is)
    (case c11 => k_is)
    (case k11 => k_is)
    (case a12 => k_is)
    (case l12 => k_is)
    (case c12 => k_is)
    (case k12 => k_is)
    (case a13 => k_is)
    (case l13 => k_is)
    (case c13 => k_is)
    (case k13 => k_is)
    (case a14 => k_is)
    (case l14 => k_is)
    (case c14 => k_is)
    (case k14 => k_is)
    (case a15 => k_is)
    (case l15 => k_is)
    (case c15 => k_is)
    (case k15 => k_is)
    (case a16 => k_is)
    (case l16 => k_is)
    (case c16 => k_is)
    (case k16 => k_is)
    (case a17 => k_is)
    (case l17 => k_is)
    (case c17 => k_is)
    (case k17 => k_is)
    (case a18 => k_is)
    (case l18 => k_is)
    (case c18 => k_is)
    (case k18 => k_is)
    (case a19 => k_is)
    (case l19 => k_is)
    (case c19 => k_is)
    (case k19 => k_is)
    (case z_len => k_is)
    (case z_abs => k_is)
    (case z_range => k_is)
    (case z_max => k_is)
    (case z_min => k_is)
    (case z_any => k_is)
    (case z_all => k_is)
    (case z_sum => k_is)
    (case z_isinstance => k_is)
    (case z_int => k_is)
    (case z_bool => k_is)
    (case z_tuple => k_is)
    (case z_list => k_is)
    (case z_str => k_is)
    (case z_ValueError => k_is)
    (case z_zip => k_is)
    (case z_reversed => k_is)
    (case z_enumerate => k_is)
    (case z_sorted => k_is)
    (case z_dict => k_is)
    (case a_dict => k_is)
#print axioms PySem.Challenge.cw_curveseat_k40_corners_turn_left_holds
