import PyProof.Rows.All
import Wide.All
import OpenK.AllK
import Wide.FinOn
import Lean
import PyProof.EqAt
import PyProof.EqKinds
import PyProof.TupleCall
import PySem.Challenge.RW_curveseat_k32_lowered_or_not
set_option compiler.extract_closed false
set_option genSizeOfSpec false
noncomputable def PySem.W.Fast.tw17499727468462006719 : Unit := ()
set_option Elab.async false
set_option linter.all false
set_option maxRecDepth 100000
/-! THE HAND LAYER, for ints, bools, texts, own classes, LISTS and tuples (index, slices, in, append, pop ..), calls, loops. Paste it whole ahead of your own text; what your proof does not reach may be deleted. -/
namespace L2
open PySem PySem.Spec PyProof.Rows

/-- a key: an int or a str -/
noncomputable abbrev Key := Sum Int Str
noncomputable def keyIs : Key → Value → Bool
  | .inl k, v => Value.isInt k v
  | .inr x, v => Value.isStrOf x v
noncomputable def keyH (w : World) : Key → Int
  | .inl k => hashInt k
  | .inr x => hashStr w x
theorem keyIs_shape : ∀ {k : Key} {v : Value}, keyIs k v = true → (∃ i t, k = Sum.inl i ∧ v = Value.int i t) ∨ (∃ x t, k = Sum.inr x ∧ v = Value.str x t)
  | .inl i, v, h => by
    obtain ⟨t, e⟩ := Value.isInt_shape (k := i) (v := v) h
    exact .inl ⟨i, t, rfl, e⟩
  | .inr x, v, h => by
    obtain ⟨t, e⟩ := Value.isStrOf_shape (x := x) (v := v) h
    exact .inr ⟨x, t, rfl, e⟩
theorem key_ll (a b : Int) : decide ((Sum.inl a : Key) = Sum.inl b) = (a == b) := by
  by_cases e : a = b
  · subst e; simp
  · have h : ¬ (Sum.inl a : Key) = Sum.inl b := fun q => e (Sum.inl.inj q)
    rw [decide_eq_false h]
    exact (beq_eq_false_iff_ne.mpr e).symm
theorem key_rr (a b : Str) : decide ((Sum.inr a : Key) = Sum.inr b) = decide (a = b) := by
  by_cases e : a = b
  · subst e; simp
  · have h : ¬ (Sum.inr a : Key) = Sum.inr b := fun q => e (Sum.inr.inj q)
    rw [decide_eq_false h, decide_eq_false e]
theorem key_lr (a : Int) (b : Str) : decide ((Sum.inl a : Key) = Sum.inr b) = false := decide_eq_false (fun q => nomatch q)
theorem key_rl (a : Str) (b : Int) : decide ((Sum.inr a : Key) = Sum.inl b) = false := decide_eq_false (fun q => nomatch q)

noncomputable def mixKind (prog : Program) (w : World) : PySem.KeyKind prog w Key where
  is := keyIs
  hash := keyH w
  inj := fun v a b ha hb => by
    rcases keyIs_shape ha with ⟨i, t, rfl, rfl⟩ | ⟨x, t, rfl, rfl⟩
    · rcases keyIs_shape hb with ⟨j, u, rfl, e⟩ | ⟨y, u, rfl, e⟩
      · injection e with e1 _; rw [e1]
      · exact nomatch e
    · rcases keyIs_shape hb with ⟨j, u, rfl, e⟩ | ⟨y, u, rfl, e⟩
      · exact nomatch e
      · injection e with e1 _; rw [e1]
  byValue := fun k v h => by
    rcases keyIs_shape h with ⟨i, t, rfl, rfl⟩ | ⟨x, t, rfl, rfl⟩ <;> rfl
  pyHash := fun hv h => by
    rcases keyIs_shape hv with ⟨i, t, rfl, rfl⟩ | ⟨x, t, rfl, rfl⟩
    · exact wpAny_pyHash_int h
    · exact wpAny_pyHash_str h
  eqBool := fun hu hv h => by
    rcases keyIs_shape hu with ⟨i, t, rfl, rfl⟩ | ⟨x, t, rfl, rfl⟩
    · rcases keyIs_shape hv with ⟨j, u, rfl, rfl⟩ | ⟨y, u, rfl, rfl⟩
      · rw [key_ll] at h; exact wpAny_eqBool_int h
      · rw [key_lr] at h; exact SeqAt.EqAt.int_str i t y u _ _ _ _ h
    · rcases keyIs_shape hv with ⟨j, u, rfl, rfl⟩ | ⟨y, u, rfl, rfl⟩
      · rw [key_rl] at h; exact SeqAt.EqAt.str_int x t j u _ _ _ _ h
      · rw [key_rr] at h; exact wpAny_eqBool_str h
  «strs» := fun k x t v h => by
    rcases keyIs_shape h with ⟨i, u, rfl, e⟩ | ⟨y, u, rfl, e⟩
    · exact nomatch e
    · injection e with e1 _
      subst e1
      cases v <;> rfl

end L2

namespace L2
open PySem PySem.Spec PyProof.Rows

/-- a value, without the heap -/
inductive V where
  | non | bl (b : Bool) | int (i : Int) | str (x : Str) | byt (b : Array UInt8) | flt (b : UInt64) | ref (a : Addr) | ty (n : String)
  deriving DecidableEq

noncomputable def RelV : V → Value → Prop
  | .non, u => u = Value.none
  | .bl b, u => u = Value.bool b
  | .int i, u => ∃ t, u = Value.int i t
  | .str x, u => ∃ t, u = Value.str x t
  | .byt b, u => ∃ t, u = Value.bytes b t
  | .flt b, u => ∃ t, u = Value.float b t
  | .ref a, u => u = Value.ref a
  | .ty n, u => u = Value.type n

noncomputable abbrev Vals : List V → List Value → Prop := Paired RelV
theorem Vals.length {xs : List V} {us : List Value} (r : Vals xs us) : xs.length = us.length := Paired.length r
theorem Vals.get : ∀ {xs : List V} {us : List Value} {i : Nat} {x : V}, Vals xs us → xs[i]? = some x → ∃ u, us[i]? = some u ∧ RelV x u
  | _, _, _, _, .nil, e => by simp at e
  | _, _, 0, _, .cons r _, e => by simp at e; subst e; exact ⟨_, rfl, r⟩
  | _, _, i + 1, x, .cons _ t, e => by
    obtain ⟨u, h1, h2⟩ := Vals.get (i := i) (x := x) t (by simpa using e)
    exact ⟨u, by simpa using h1, h2⟩
theorem Vals.set {x : V} {u : Value} (r : RelV x u) : ∀ {xs : List V} {us : List Value} (i : Nat), Vals xs us → Vals (xs.set i x) (us.set i u)
  | _, _, _, .nil => .nil
  | _, _, 0, .cons _ t => .cons r t
  | _, _, i + 1, .cons q t => .cons q (Vals.set r i t)
theorem Vals.append : ∀ {xs ys : List V} {us ws : List Value}, Vals xs us → Vals ys ws → Vals (xs ++ ys) (us ++ ws)
  | _, _, _, _, .nil, s => s
  | _, _, _, _, .cons r t, s => .cons r (Vals.append t s)
theorem Vals.take : ∀ {xs : List V} {us : List Value} (n : Nat), Vals xs us → Vals (xs.take n) (us.take n)
  | _, _, 0, _ => .nil
  | _, _, _ + 1, .nil => .nil
  | _, _, n + 1, .cons r t => .cons r (Vals.take n t)
theorem Vals.drop : ∀ {xs : List V} {us : List Value} (n : Nat), Vals xs us → Vals (xs.drop n) (us.drop n)
  | _, _, 0, r => r
  | _, _, _ + 1, .nil => .nil
  | _, _, n + 1, .cons _ t => Vals.drop n t
theorem Vals.none_of : ∀ {xs : List V} {us : List Value} {i : Nat}, Vals xs us → xs[i]? = none → us[i]? = none := fun {xs us i} r e => by
  have h1 := r.length
  have h2 : xs.length ≤ i := List.getElem?_eq_none_iff.mp e
  exact List.getElem?_eq_none_iff.mpr (by omega)

noncomputable def RelO : Option V → Option Value → Prop
  | some v, some u => RelV v u
  | none, none => True
  | _, _ => False
noncomputable def KV {κ : Type} : List (κ × V) → List (κ × Value) → Prop := Paired fun (p : κ × V) (q : κ × Value) => p.1 = q.1 ∧ RelV p.2 q.2

/-- a key of a dict (00_mix): an int or a text -/
noncomputable def kV : Key → V
  | .inl i => .int i
  | .inr x => .str x

/-- what stands at a tracked address -/
inductive HO where
  /-- a list -/
  | lst (xs : List V)
  /-- a tuple (never changes) -/
  | tup (xs : List V)
  /-- a dict whose keys are ints and texts; one whose keys are tuples of ints and texts (the empty one is both) -/
  | dK (kvs : List (Key × V)) | dT (kvs : List (List Key × V))
  /-- a set of ints: its members, its size -/
  | set (S : Int → Bool) (n : Nat)
  /-- an instance of the class at C, its dict at dx, its attributes -/
  | ins (C dx : Addr) (fs : List (Str × V))
  /-- the dict of the instance at x -/
  | own (x : Addr)
  /-- the dict of an exception -/
  | xd (fs : List (Str × V))
  /-- a bound method, f of x -/
  | met (f x : Addr)
  /-- a range object lo, lo + 1, .. below hi -/
  | rng (lo hi : Int)
  /-- a thing that is known to the object (the script; a dict while a loop walks it): read, never written while it is so -/
  | frz (o : Obj) (u : HO)
  /-- a code object's table -/
  | tbl (ps : Array Value)
  /-- any other thing, by what is true of its one object (a def of one's own: SetO a S n := HO.ext fun h => ..) -/
  | ext (φ : Heap → Prop)

noncomputable abbrev Hp := Addr → Option HO
noncomputable def upd (H : Hp) (a : Addr) (o : HO) : Hp := fun b => if b = a then some o else H b
theorem upd_same {H : Hp} {a : Addr} {o : HO} : upd H a o a = some o := by unfold upd; rw [if_pos rfl]
theorem upd_ne {H : Hp} {a b : Addr} {o : HO} (h : b ≠ a) : upd H a o b = H b := by unfold upd; rw [if_neg h]
/-- two objects of different content stand apart -/
theorem ne_of_none {H : Hp} {a b : Addr} {o : HO} (h : H a = some o) (h' : H b = none) : a ≠ b := by
  intro e; subst e; rw [h] at h'; cases h'

section
variable (P : Program) (w : World)
noncomputable def ObjOk (H : Hp) (h : Heap) (a : Addr) : HO → Prop
  | .lst xs => xs.length ≤ sizeLine ∧ ∃ (its : List Value) (n : Nat), Vals xs its ∧ h.get? a = some { cls := .type "list", data := .seq its.toArray n }
  | .tup xs => xs.length ≤ sizeLine ∧ ∃ its : List Value, Vals xs its ∧ IsTup h a its.toArray
  | .dK kvs => kvs.length ≤ sizeLine ∧ (a == sysModules) = false ∧ ∃ vs, KV kvs vs ∧ h.DictOf (mixKind P w) a vs
  | .dT kvs => kvs.length ≤ sizeLine ∧ (a == sysModules) = false ∧ ∃ xs : List (List Key × Addr × Value),
      Paired (fun (p : List Key × V) (q : List Key × Addr × Value) => p.1 = q.1 ∧ H q.2.1 = some (.tup (p.1.map kV)) ∧ RelV p.2 q.2.2) kvs xs ∧
      ∃ o es ep, h.get? a = some o ∧ o.ExactDict ∧ o.data = .dict es ep ∧ es.toList = xs.map (entryOfKey (tupleKind (mixKind P w))) ∧ (xs.map (·.1)).Nodup
  | .set S n => h.SetOf (intKind P w) a S n
  | .ins C dx fs => H dx = some (.own a) ∧ fs.length ≤ 1000 ∧ dx ≠ a ∧ h.get? a = some (PySem.W.instObj C dx) ∧
      ∃ mA, h.Ns1 dx mA ∧ (∀ f, RelO (fs.lookup f) (mA f)) ∧ PySem.Within mA (fs.map (·.1))
  | .own _ => ∃ o, h.get? a = some o
  | .xd fs => ∃ mA, h.Ns1 a mA ∧ ∀ f, RelO (fs.lookup f) (mA f)
  | .rng lo hi => ∃ t u v, h.get? a = some { cls := .type "range", data := .fields #[.int lo t, .int hi u, .int 1 v] }
  | .frz o u => h.get? a = some o ∧ ObjOk H h a u
  | .tbl ps => h.get? a = some { cls := .none, data := .fields ps }
  | .met f x => h.get? a = some (PySem.W.methodObj (.ref f) (.ref x))
  | .ext φ => φ h ∧ (∃ o, h.get? a = some o) ∧ ∀ h1 h2 : Heap, φ h1 → (∀ o, h1.get? a = some o → h2.get? a = some o) → φ h2
/-- the abstract heap is held -/
noncomputable def HOk (H : Hp) (h : Heap) : Prop := ∀ a o, H a = some o → ObjOk P w H h a o
end

section
variable {P : Program} {w : World} {H H' : Hp} {h h' : Heap} {a : Addr} {o : HO}
theorem ObjOk.lt (x : ObjOk P w H h a o) : a < h.objs.size := by
  cases o with
  | lst xs => obtain ⟨_, _, _, _, e⟩ := x; exact Heap.lt_size e
  | tup xs => obtain ⟨_, _, _, p⟩ := x; exact p.lt
  | dK kvs => obtain ⟨_, _, _, _, o, _, _, e, _⟩ := x; exact Heap.lt_size e
  | dT kvs => obtain ⟨_, _, _, _, o, _, _, e, _⟩ := x; exact Heap.lt_size e
  | set S n => obtain ⟨o, _, _, _, e, _⟩ := x; exact Heap.lt_size e
  | ins C dx fs => obtain ⟨_, _, _, e, _⟩ := x; exact Heap.lt_size e
  | own y => obtain ⟨_, e⟩ := x; exact Heap.lt_size e
  | xd fs => obtain ⟨_, ⟨_, _, _, e, _⟩, _⟩ := x; exact Heap.lt_size e
  | rng lo hi => obtain ⟨_, _, _, e⟩ := x; exact Heap.lt_size e
  | frz ob u => obtain ⟨e, _⟩ := x; exact Heap.lt_size e
  | tbl ps => exact Heap.lt_size (show h.get? a = some _ from x)
  | met f y => exact Heap.lt_size (show h.get? a = some _ from x)
  | ext φ => obtain ⟨_, ⟨_, e⟩, _⟩ := x; exact Heap.lt_size e
theorem Paired.mapP {α β : Type} {F G : α → β → Prop} : ∀ {l₁ : List α} {l₂ : List β}, Paired F l₁ l₂ → (∀ a b, F a b → G a b) → Paired G l₁ l₂
  | _, _, .nil, _ => .nil
  | _, _, .cons r t, f => .cons (f _ _ r) (Paired.mapP t f)
/-- what an object's description leans on: its own object, its own dict, the tuples -/
theorem ObjOk.stay (x : ObjOk P w H h a o) (k : ∀ b u, (b = a ∨ H b = some (.own a)) → h.get? b = some u → h'.get? b = some u)
    (ho : ∀ b, H b = some (.own a) → H' b = some (.own a)) (ht : ∀ b xs, H b = some (.tup xs) → H' b = some (.tup xs)) : ObjOk P w H' h' a o := by
  induction o with
  | lst xs => obtain ⟨z, its, n, r, e⟩ := x; exact ⟨z, its, n, r, k _ _ (.inl rfl) e⟩
  | tup xs => obtain ⟨z, its, r, ob, e, c⟩ := x; exact ⟨z, its, r, ob, k _ _ (.inl rfl) e, c⟩
  | dK kvs => obtain ⟨z, y, vs, r, ob, es, ep, e, c⟩ := x; exact ⟨z, y, vs, r, ob, es, ep, k _ _ (.inl rfl) e, c⟩
  | dT kvs =>
    obtain ⟨z, y, xs, r, ob, es, ep, e, c⟩ := x
    exact ⟨z, y, xs, Paired.mapP r fun p q z => ⟨z.1, ht _ _ z.2.1, z.2.2⟩, ob, es, ep, k _ _ (.inl rfl) e, c⟩
  | set S n => obtain ⟨ob, es, ep, t, e, c⟩ := x; exact ⟨ob, es, ep, t, k _ _ (.inl rfl) e, c⟩
  | ins C dx fs =>
    obtain ⟨d, z, ne, e, mA, ⟨od, es, ep, e2, c⟩, r⟩ := x
    exact ⟨ho _ d, z, ne, k _ _ (.inl rfl) e, mA, ⟨od, es, ep, k _ _ (.inr d) e2, c⟩, r⟩
  | own y => obtain ⟨ob, e⟩ := x; exact ⟨ob, k _ _ (.inl rfl) e⟩
  | xd fs => obtain ⟨mA, ⟨od, es, ep, e, c⟩, r⟩ := x; exact ⟨mA, ⟨od, es, ep, k _ _ (.inl rfl) e, c⟩, r⟩
  | rng lo hi => obtain ⟨t, u, v, e⟩ := x; exact ⟨t, u, v, k _ _ (.inl rfl) e⟩
  | frz ob u ih => obtain ⟨e, q⟩ := x; exact ⟨k _ _ (.inl rfl) e, ih q⟩
  | tbl ps =>
    have e : h.get? a = some { cls := .none, data := .fields ps } := x
    show h'.get? a = some { cls := .none, data := .fields ps }
    exact k a _ (.inl rfl) e
  | met f y =>
    have e : h.get? a = some (PySem.W.methodObj (.ref f) (.ref y)) := x
    show h'.get? a = some (PySem.W.methodObj (.ref f) (.ref y))
    exact k a _ (.inl rfl) e
  | ext φ => obtain ⟨p, ⟨o, e⟩, st⟩ := x; exact ⟨st _ _ p fun o q => k _ _ (.inl rfl) q, ⟨o, k _ _ (.inl rfl) e⟩, st⟩
theorem HOk.lt (x : HOk P w H h) (e : H a = some o) : a < h.objs.size := (x a o e).lt
theorem HOk.fresh (x : HOk P w H h) (e : h.objs.size ≤ a) : H a = none := by
  cases q : H a with
  | none => rfl
  | some u => exact absurd (Nat.lt_of_lt_of_le (x.lt q) e) (Nat.lt_irrefl _)
/-- every object of the heap is kept -/
theorem HOk.kept (x : HOk P w H h) (k : ∀ b u, h.get? b = some u → h'.get? b = some u) : HOk P w H h' := fun a o e =>
  (x a o e).stay (fun b u _ q => k b u q) (fun _ q => q) fun _ _ q => q
/-- a new object is laid and tracked -/
theorem HOk.laid (x : HOk P w H h) (k : ∀ b u, h.get? b = some u → h'.get? b = some u) (hp : h.objs.size ≤ a) (new : ObjOk P w (upd H a o) h' a o) : HOk P w (upd H a o) h' := fun b u e => by
  have hn := x.fresh hp
  by_cases hb : b = a
  · subst hb; rw [upd_same] at e; cases e; exact new
  · rw [upd_ne hb] at e
    exact (x b u e).stay (fun c v _ q => k c v q) (fun c q => by rw [upd_ne (ne_of_none q hn)]; exact q) fun c xs q => by rw [upd_ne (ne_of_none q hn)]; exact q
end

/-- what may be read as u: it is u, or a known u -/
noncomputable def Rd (H : Hp) (a : Addr) (u : HO) : Prop := H a = some u ∨ ∃ o, H a = some (.frz o u)
theorem Rd.of {H : Hp} {a : Addr} {u : HO} (h : H a = some u) : Rd H a u := .inl h
theorem Rd.ok {P : Program} {w : World} {H : Hp} {h : Heap} {a : Addr} {u : HO} (r : Rd H a u) (x : HOk P w H h) : ObjOk P w H h a u := by
  rcases r with r | ⟨o, r⟩
  · exact x a u r
  · obtain ⟨_, q⟩ := x a _ r
    exact q
/-- what may be written -/
noncomputable def Mut : Option HO → Prop
  | some (.lst _) => True
  | some (.dK _) => True
  | some (.dT _) => True
  | some (.set _ _) => True
  | some (.ins _ _ _) => True
  | some (.ext _) => True
  | _ => False
section
variable {P : Program} {w : World} {H : Hp} {h h' : Heap} {x e : Addr} {o' : HO}
/-- the object at e is changed: x itself, or the dict of the instance x -/
theorem HOk.write (ok : HOk P w H h) (mu : Mut (H x)) (he : e = x ∨ H e = some (.own x)) (k : ∀ b u, b ≠ e → h.get? b = some u → h'.get? b = some u) (heo : ∃ u, h'.get? e = some u)
    (new : ObjOk P w (upd H x o') h' x o') : HOk P w (upd H x o') h' := fun b u q => by
  have nown : ∀ c y, H c = some (.own y) → c ≠ x := fun c y r z => by subst z; rw [r] at mu; exact mu
  have ntup : ∀ c xs, H c = some (.tup xs) → c ≠ x := fun c xs r z => by subst z; rw [r] at mu; exact mu
  by_cases hb : b = x
  · subst hb; rw [upd_same] at q; cases q; exact new
  · rw [upd_ne hb] at q
    by_cases hbe : b = e
    · have q' : H b = some (.own x) := by
        rcases he with z | z
        · exact absurd (hbe.trans z) hb
        · rw [hbe]; exact z
      rw [q] at q'; cases q'
      obtain ⟨v, hv⟩ := heo
      exact ⟨v, by rw [hbe]; exact hv⟩
    · refine (ok b u q).stay (fun c v hc r => k c v ?_ r) (fun c r => by rw [upd_ne (nown c b r)]; exact r) fun c xs r => by rw [upd_ne (ntup c xs r)]; exact r
      rcases hc with rfl | hc
      · exact hbe
      · rintro rfl
        rcases he with z | z
        · exact nown c b hc z
        · rw [hc] at z; cases z; exact hb rfl
end

/-! ### kept unless tracked; of the frames at fs (the callers') the slots may change (an exception that passes writes there); of the records at ex (iterators) nothing is said -/
structure Un (fs ex : List Addr) (H H' : Hp) (h h' : Heap) : Prop where
  keep : ∀ b o, h.get? b = some o → H b = none → b ∉ fs → b ∉ ex → h'.get? b = some o
  slot : ∀ b o, h.get? b = some o → H b = none → b ∈ fs → b ∉ ex → ∃ sl, h'.get? b = some { o with slots := sl }
  free : ∀ b o, h.get? b = some o → H b = none → b ∉ ex → H' b = none
  there : ∀ b o, h.get? b = some o → b ∉ ex → ∃ o', h'.get? b = some o'
  tups : ∀ b xs, H b = some (.tup xs) → H' b = some (.tup xs)
  frzs : ∀ b o u, H b = some (.frz o u) → H' b = some (.frz o u)
  tbls : ∀ b ps, H b = some (.tbl ps) → ∃ more, H' b = some (.tbl (ps ++ more))
section
variable {fs fs' ex ex' : List Addr} {H H1 H2 : Hp} {h h1 h2 h' : Heap} {a x e : Addr} {o : HO}
theorem Un.any (u : Un fs ex H H1 h h1) {b : Addr} {ob : Obj} (q : h.get? b = some ob) (n : H b = none) (hx : b ∉ ex) : ∃ sl, h1.get? b = some { ob with slots := sl } := by
  by_cases hb : b ∈ fs
  · exact u.slot b ob q n hb hx
  · exact ⟨ob.slots, u.keep b ob q n hb hx⟩
theorem Un.trans (a : Un fs ex H H1 h h1) (b : Un fs ex H1 H2 h1 h2) : Un fs ex H H2 h h2 where
  keep := fun c ob q n hc hx => b.keep c ob (a.keep c ob q n hc hx) (a.free c ob q n hx) hc hx
  slot := fun c ob q n hc hx => by
    obtain ⟨sl, e1⟩ := a.slot c ob q n hc hx
    obtain ⟨sl', e2⟩ := b.slot c _ e1 (a.free c ob q n hx) hc hx
    exact ⟨sl', e2⟩
  free := fun c ob q n hx => by
    obtain ⟨o', e1⟩ := a.there c ob q hx
    exact b.free c o' e1 (a.free c ob q n hx) hx
  there := fun c ob q hx => by
    obtain ⟨o', e1⟩ := a.there c ob q hx
    exact b.there c o' e1 hx
  tups := fun c xs q => b.tups c xs (a.tups c xs q)
  frzs := fun c ob xs q => b.frzs c ob xs (a.frzs c ob xs q)
  tbls := fun c ps q => by
    obtain ⟨m1, e1⟩ := a.tbls c ps q
    obtain ⟨m2, e2⟩ := b.tbls c _ e1
    exact ⟨m1 ++ m2, by rw [e2, Array.append_assoc]⟩
theorem Un.kept (k : ∀ b u, h.get? b = some u → h'.get? b = some u) : Un fs ex H H h h' :=
  ⟨fun b ob q _ _ _ => k b ob q, fun b ob q _ _ _ => ⟨ob.slots, k b ob q⟩, fun _ _ _ n _ => n, fun b ob q _ => ⟨ob, k b ob q⟩, fun _ _ q => q, fun _ _ _ q => q, fun _ ps q => ⟨#[], by rw [q]; simp⟩⟩
theorem Un.refl : Un fs ex H H h h := Un.kept fun _ _ q => q
theorem Un.laid (k : ∀ b u, h.get? b = some u → h'.get? b = some u) (hp : h.objs.size ≤ a) (hn : H a = none) : Un fs ex H (upd H a o) h h' where
  keep := fun b u q _ _ _ => k b u q
  slot := fun b u q _ _ _ => ⟨u.slots, k b u q⟩
  free := fun b u q n _ => by rw [upd_ne (Nat.ne_of_lt (Nat.lt_of_lt_of_le (Heap.lt_size q) hp))]; exact n
  there := fun b u q _ => ⟨u, k b u q⟩
  tups := fun b xs q => by rw [upd_ne (ne_of_none q hn)]; exact q
  frzs := fun b u xs q => by rw [upd_ne (ne_of_none q hn)]; exact q
  tbls := fun b ps q => ⟨#[], by rw [upd_ne (ne_of_none q hn), q]; simp⟩
theorem Un.write (mu : Mut (H x)) (he : e = x ∨ H e = some (.own x)) (k : ∀ b u, b ≠ e → h.get? b = some u → h'.get? b = some u) (heo : ∃ u, h'.get? e = some u) : Un fs ex H (upd H x o) h h' := by
  have hx : ∀ b, H b = none → b ≠ x := fun b n z => by subst z; rw [n] at mu; exact mu
  have hb : ∀ b, H b = none → b ≠ e := fun b n z => by
    subst z
    rcases he with r | r
    · exact hx b n r
    · rw [n] at r; cases r
  have hm : ∀ b u, H b = some u → ¬ Mut (some u) → b ≠ x := fun b u q nm z => by subst z; rw [q] at mu; exact nm mu
  refine ⟨fun b u q n _ _ => k b u (hb b n) q, fun b u q n _ _ => ⟨u.slots, k b u (hb b n) q⟩, fun b u q n _ => by rw [upd_ne (hx b n)]; exact n, fun b u q _ => ?_,
    fun b xs q => by rw [upd_ne (hm b _ q fun z => z)]; exact q, fun b u xs q => by rw [upd_ne (hm b _ q fun z => z)]; exact q, fun b ps q => ⟨#[], by rw [upd_ne (hm b _ q fun z => z), q]; simp⟩⟩
  by_cases hbe : b = e
  · subst hbe; exact heo
  · exact ⟨u, k b u hbe q⟩
theorem Un.mono (u : Un fs ex H H1 h h1) (hs : ∀ b ∈ fs, b ∈ fs') (hx : ∀ b ∈ ex, b ∈ ex') : Un fs' ex' H H1 h h1 :=
  ⟨fun b ob q n hb he => u.keep b ob q n (fun z => hb (hs b z)) fun z => he (hx b z), fun _ _ q n _ he => u.any q n fun z => he (hx _ z), fun b ob q n he => u.free b ob q n fun z => he (hx b z), fun b ob q he => u.there b ob q fun z => he (hx b z), u.tups, u.frzs, u.tbls⟩
end

/-! ### the heap without what is tracked -/
noncomputable def trk (h : Heap) (H : Hp) : List Addr := (List.range h.objs.size).filter fun a => (H a).isSome
noncomputable def hidT (h : Heap) (H : Hp) : Heap := PySem.W.hideAll h (trk h H)
theorem hidT_size (h : Heap) (H : Hp) : (hidT h H).objs.size = h.objs.size := PySem.W.hideAll_size _ _
theorem hidT_get {h : Heap} {H : Hp} {b : Addr} {o : Obj} (e : h.get? b = some o) (n : H b = none) : (hidT h H).get? b = some o :=
  PySem.W.hideAll_get _ e fun hm => by
    have q : (H b).isSome = true := (List.mem_filter.mp hm).2
    rw [n] at q; simp at q
theorem of_hidT {h : Heap} {H : Hp} {b : Addr} {o : Obj} (e : (hidT h H).get? b = some o) : h.get? b = some o ∧ H b = none := by
  have e' : h.get? b = some o := PySem.W.of_hideAll (trk h H) e
  refine ⟨e', ?_⟩
  cases q : H b with
  | none => rfl
  | some x =>
    have hm : b ∈ trk h H := List.mem_filter.mpr ⟨List.mem_range.mpr (Heap.lt_size e'), by simp [q]⟩
    have z : (hidT h H).get? b = none := PySem.W.hideAll_none (trk h H) hm
    rw [z] at e; cases e

/-! ### OpenK's ledger, filled with every new object but one -/
noncomputable def allNews (g h : Heap) (L : Addr) : List (Addr × Obj) := (List.range h.objs.size).filterMap fun a => if a = L ∨ (g.get? a).isSome = true then none else (h.get? a).map fun o => (a, o)
noncomputable def rest (g h : Heap) (L d : Addr) : List (Addr × Obj) := (allNews g h L).filter fun p => decide (p.1 ≠ d)
end L2

namespace L2
open PySem PySem.Spec PyProof.Rows

/-- the module's facts, over the base: the heap at the law's entry without what is tracked there -/
structure Mod (K : PySem.W.Frag) (mg : Str → Option Value) (base : Heap) : Prop where
  kin : K.In base
  glob : base.Ns mainGlobals mg
  blt : ∃ mb, base.Ns builtinsNs mb ∧ ∀ x : Str, x ≠ "__name__" → mb x = bootBuiltins x
  nolimit : base.NoLimit

/-- the context: a def's body (or a comprehension's block) running. base: fixed through the whole law; s₀, H₀: the entry; outer: the frames whose slots others may change (a def's callers); stack: all frames that run;
   ex: iterators that were made ahead of the entry and are walked here (a comprehension's); fn: the names whose cells were made at the entry (a def: all; a comprehension's block: its own); calm: not within an except suite; pn: pins that every state bears; xe: what is wanted of an exception that leaves the code -/
structure Cx where
  prog : Program
  w : World
  K : PySem.W.Frag
  mg : Str → Option Value
  base : Heap
  A : Around
  N : List Str
  s₀ : Shared
  H₀ : Hp
  env : Env
  outer : List Env
  stack : List Env
  ex : List Addr
  fn : Str → Bool
  calm : Bool
  pn : List (Addr × Obj)
  xe : Value → Shared → Prop
/-- the callers' frames -/
noncomputable def frs (l : List Env) : List Addr := l.filterMap (·.frame)
noncomputable abbrev Cx.fs (X : Cx) : List Addr := frs X.outer

noncomputable def Vis (sc : Scope) (x : Str) : Prop := sc.names.lookup x = some .local ∨ sc.names.lookup x = some .cell ∨ sc.names.lookup x = some .free
noncomputable def Loc (sc : Scope) (x : Str) : Prop := sc.names.lookup x = some .local ∨ sc.names.lookup x = some .cell
noncomputable def Look (env : Env) (h : Heap) (m : Str → Option Value) (x : Str) (u : Value) : Prop :=
  (env.kindOf x = some .local ∧ m x = some u) ∨ ((env.kindOf x = some .cell ∨ env.kindOf x = some .free) ∧ ∃ c, env.cells.lookup x = some c ∧ h.IsCell c (some u))

structure Cx.Ok (X : Cx) : Prop where
  mod : Mod X.K X.mg X.base
  kind : X.env.scope.kind = .function
  glob : X.env.globals = mainGlobals
  blt : X.env.builtins = builtinsNs
  above : X.s₀.heap.objs.size ≤ X.env.locals
  inj : ∀ x y c, X.env.cells.lookup x = some c → X.env.cells.lookup y = some c → x = y
  has : ∀ x, (X.env.kindOf x = some .cell ∨ X.env.kindOf x = some .free) → ∃ c, X.env.cells.lookup x = some c
  cab : ∀ x c, X.fn x = true → X.env.cells.lookup x = some c → X.s₀.heap.objs.size ≤ c
  hd : X.calm = true → X.A.handled = none
  frames : X.A.frames = some X.stack
  stk : X.stack = X.outer ∨ (X.stack = X.env :: X.outer ∧ X.env.frame = some X.env.locals)
  exf : ∀ b ∈ X.ex, b ≠ X.env.locals ∧ ∀ x c, X.env.cells.lookup x = some c → c ≠ b
  bs : ∀ b o, X.base.get? b = some o → X.s₀.heap.get? b = some o ∧ X.H₀ b = none
  bsz : X.base.objs.size ≤ X.s₀.heap.objs.size
  noex : ∀ b o, X.base.get? b = some o → b ∉ X.ex
  exfs : ∀ b ∈ X.ex, b ∉ X.fs
  funs : X.s₀.heap.FunFrames X.base X.outer
  frf : ∀ b ∈ X.fs, X.H₀ b = none

structure Inv (X : Cx) (pins : List (Addr × Obj)) (σ : List (Option V)) (H : Hp) (s : Shared) : Prop where
  ok : X.Ok
  os : s.os = X.s₀.os
  bare : AllBare s.gens
  base : Un X.fs X.ex X.H₀ H X.s₀.heap s.heap
  loc : ∃ m, s.heap.Ns X.env.locals m ∧ ∀ (i : Nat) (x : Str) (v : V), X.N[i]? = some x → σ[i]? = some (some v) → Vis X.env.scope x → ∃ u, RelV v u ∧ Look X.env s.heap m x u
  cell : ∀ x c, X.env.cells.lookup x = some c → ∃ v, s.heap.IsCell c v
  free : H X.env.locals = none
  freeC : ∀ x c, X.env.cells.lookup x = some c → H c = none
  pin : ∀ p ∈ X.pn ++ pins, s.heap.get? p.1 = some p.2 ∧ H p.1 = none ∧ p.1 ≠ X.env.locals ∧ p.1 ∉ X.fs ∧ ∀ v, p.2.data ≠ .cell v
  hok : HOk X.prog X.w H s.heap
  len : σ.length = X.N.length

section
variable {X : Cx} {pins : List (Addr × Obj)} {σ : List (Option V)} {H H' : Hp} {s : Shared} {h' : Heap}

theorem Cx.Ok.nofr (ok : X.Ok) {b : Addr} {o : Obj} (e : X.base.get? b = some o) : b ∉ X.fs := fun hb => by
  have := (ok.funs.mem hb).1
  rw [e] at this; cases this
theorem Inv.bs (I : Inv X pins σ H s) : ∀ b o, X.base.get? b = some o → s.heap.get? b = some o ∧ H b = none := fun b o e =>
  ⟨I.base.keep b o (I.ok.bs b o e).1 (I.ok.bs b o e).2 (I.ok.nofr e) (I.ok.noex b o e), I.base.free b o (I.ok.bs b o e).1 (I.ok.bs b o e).2 (I.ok.noex b o e)⟩
theorem Inv.bk (I : Inv X pins σ H s) : ∀ b o, X.base.get? b = some o → s.heap.get? b = some o := fun b o e => (I.bs b o e).1
theorem Inv.mod (I : Inv X pins σ H s) : Mod X.K X.mg X.base := I.ok.mod
theorem Inv.kIn (I : Inv X pins σ H s) : X.K.In s.heap := I.ok.mod.kin.keeps I.bk
/-- the frame over the base: for OpenK's rules (K.In X.base is I.mod.kin) -/
theorem Inv.fr (I : Inv X pins σ H s) : ∃ m, Fr X.base X.env.locals s.heap m :=
  let ⟨m, hn, _⟩ := I.loc
  ⟨m, hn, I.bk, Nat.le_trans I.ok.bsz I.ok.above⟩
theorem Inv.lt (I : Inv X pins σ H s) : X.env.locals < s.heap.objs.size := let ⟨_, hn, _⟩ := I.loc; hn.lt
theorem Inv.sz (I : Inv X pins σ H s) : X.s₀.heap.objs.size ≤ s.heap.objs.size := Nat.le_trans I.ok.above (Nat.le_of_lt I.lt)
theorem Inv.nofs (I : Inv X pins σ H s) {a : Addr} (h : s.heap.objs.size ≤ a) : a ∉ X.fs := fun hb => by
  obtain ⟨_, o, ho, _⟩ := I.ok.funs.mem hb
  exact absurd (Nat.lt_of_lt_of_le (Heap.lt_size ho) (Nat.le_trans I.sz h)) (Nat.lt_irrefl _)
theorem Inv.cne (I : Inv X pins σ H s) : ∀ x c, X.env.cells.lookup x = some c → c ≠ X.env.locals := fun x c e z => by
  obtain ⟨v, o, ho, hd⟩ := I.cell x c e
  obtain ⟨m, ⟨o', es, ep, ho', hd', _⟩, _⟩ := I.loc
  rw [z, ho'] at ho; cases ho; rw [hd'] at hd; cases hd
theorem Inv.funs (I : Inv X pins σ H s) : s.heap.FunFrames X.base X.outer := by
  have all : ∀ (l : List Env), (∀ b ∈ frs l, b ∈ X.fs) → X.s₀.heap.FunFrames X.base l → s.heap.FunFrames X.base l := by
    intro l
    induction l with
    | nil => intro _ _; trivial
    | cons env r ih =>
      intro hs hl
      obtain ⟨hk, ⟨L, o, hf, hn, ho, hd⟩, hr⟩ := hl
      have hL : L ∈ X.fs := hs L (by unfold frs; rw [List.filterMap_cons, hf]; exact List.mem_cons_self)
      obtain ⟨sl, e⟩ := I.base.slot L o ho (I.ok.frf L hL) hL fun z => I.ok.exfs L z hL
      exact ⟨hk, ⟨L, _, hf, hn, e, hd⟩, ih (fun b hb => hs b (by unfold frs; rw [List.filterMap_cons, hf]; exact List.mem_cons_of_mem _ hb)) hr⟩
  exact all X.outer (fun _ hb => hb) I.ok.funs

/-- the frames that run, for a call -/
theorem Inv.stack (I : Inv X pins σ H s) : s.heap.FunFrames X.base X.stack := by
  rcases I.ok.stk with e | ⟨e, hf⟩
  · rw [e]; exact I.funs
  · rw [e]
    obtain ⟨m, hn, _⟩ := I.loc
    refine .cons (by rw [I.ok.kind]; decide) hf hn ?_ I.funs
    exact Heap.get?_none_of_le (Nat.le_trans I.ok.bsz I.ok.above)
theorem Inv.stkSub (I : Inv X pins σ H s) : ∀ b ∈ frs X.stack, b ∈ X.env.locals :: X.fs := fun b hb => by
  rcases I.ok.stk with e | ⟨e, hf⟩
  · rw [e] at hb; exact List.mem_cons_of_mem _ hb
  · rw [e] at hb
    unfold frs at hb
    rw [List.filterMap_cons, hf] at hb
    exact hb
theorem Inv.stkFree (I : Inv X pins σ H s) : ∀ b ∈ frs X.stack, H b = none := fun b hb => by
  rcases List.mem_cons.mp (I.stkSub b hb) with e | hb
  · rw [e]; exact I.free
  · obtain ⟨_, o, ho, _⟩ := I.ok.funs.mem hb
    exact I.base.free b o ho (I.ok.frf b hb) fun z => I.ok.exfs b z hb

/-- THE STEP: the untracked objects but the frame and the records at ch are kept (the callers' frames up to slots), the frame's map is kept, the new abstract heap is held -/
theorem Inv.step {g' : Array GenState} {t' : Nat} {d' : Drawn} {ch : List Addr} (I : Inv X pins σ H s)
    (hch : ∀ b ∈ ch, (b ∈ X.ex ∨ X.s₀.heap.objs.size ≤ b) ∧ b ≠ X.env.locals ∧ (∀ x c, X.env.cells.lookup x = some c → c ≠ b) ∧ ∀ p ∈ X.pn ++ pins, p.1 ≠ b)
    (keep : ∀ b o, b ≠ X.env.locals → b ∉ X.fs → b ∉ ch → s.heap.get? b = some o → H b = none → h'.get? b = some o)
    (slot : ∀ b o, b ≠ X.env.locals → b ∈ X.fs → b ∉ ch → s.heap.get? b = some o → H b = none → ∃ sl, h'.get? b = some { o with slots := sl }) (free : ∀ b o, b ∉ ch → s.heap.get? b = some o → H b = none → H' b = none)
    (there : ∀ b o, b ∉ ch → s.heap.get? b = some o → ∃ o', h'.get? b = some o')
    (tups : ∀ b xs, H b = some (.tup xs) → H' b = some (.tup xs)) (frzs : ∀ b o u, H b = some (.frz o u) → H' b = some (.frz o u)) (tbls : ∀ b ps, H b = some (.tbl ps) → ∃ more, H' b = some (.tbl (ps ++ more)))
    (ns : ∀ m, s.heap.Ns X.env.locals m → h'.Ns X.env.locals m) (hok : HOk X.prog X.w H' h') (hg : AllBare g') :
    Inv X pins σ H' { s with heap := h', gens := g', drawn := d', toks := t' } := by
  have neL : ∀ b o, X.s₀.heap.get? b = some o → b ≠ X.env.locals := fun b o e => Nat.ne_of_lt (Nat.lt_of_lt_of_le (Heap.lt_size e) I.ok.above)
  have neC : ∀ b o, X.s₀.heap.get? b = some o → b ∉ X.ex → b ∉ ch := fun b o e hx hb => by
    rcases (hch b hb).1 with z | z
    · exact hx z
    · exact absurd (Nat.lt_of_lt_of_le (Heap.lt_size e) z) (Nat.lt_irrefl _)
  have cellK : ∀ x c, X.env.cells.lookup x = some c → ∀ v, s.heap.IsCell c v → h'.IsCell c v := fun x c e v ⟨o, ho, hd⟩ => by
    have nch : c ∉ ch := fun z => (hch c z).2.2.1 x c e rfl
    by_cases hc : c ∈ X.fs
    · obtain ⟨sl, q⟩ := slot c o (I.cne x c e) hc nch ho (I.freeC x c e)
      exact ⟨_, q, hd⟩
    · exact ⟨o, keep c o (I.cne x c e) hc nch ho (I.freeC x c e), hd⟩
  refine ⟨I.ok, I.os, hg, ⟨fun b o e n hb hx => ?_, fun b o e n hb hx => ?_, fun b o e n hx => ?_, fun b o e hx => ?_, fun b xs e => tups b xs (I.base.tups b xs e), fun b o xs e => frzs b o xs (I.base.frzs b o xs e), fun b ps e => ?_⟩, ?_, fun x c e => ?_, ?_, fun x c e => ?_, fun p hp => ?_, hok, I.len⟩
  · exact keep b o (neL b o e) hb (neC b o e hx) (I.base.keep b o e n hb hx) (I.base.free b o e n hx)
  · obtain ⟨sl, e1⟩ := I.base.slot b o e n hb hx
    obtain ⟨sl', e2⟩ := slot b _ (neL b o e) hb (neC b o e hx) e1 (I.base.free b o e n hx)
    exact ⟨sl', e2⟩
  · obtain ⟨o', e1⟩ := I.base.there b o e hx
    exact free b o' (neC b o e hx) e1 (I.base.free b o e n hx)
  · obtain ⟨o', e1⟩ := I.base.there b o e hx
    exact there b o' (neC b o e hx) e1
  · obtain ⟨m1, e1⟩ := I.base.tbls b ps e
    obtain ⟨m2, e2⟩ := tbls b _ e1
    exact ⟨m1 ++ m2, by rw [e2, Array.append_assoc]⟩
  · obtain ⟨m, hn, hl⟩ := I.loc
    refine ⟨m, ns m hn, fun i x v e1 e2 e3 => ?_⟩
    obtain ⟨u, r, l⟩ := hl i x v e1 e2 e3
    refine ⟨u, r, ?_⟩
    rcases l with l | ⟨k, c, e, z⟩
    · exact .inl l
    · exact .inr ⟨k, c, e, cellK x c e _ z⟩
  · obtain ⟨v, z⟩ := I.cell x c e
    exact ⟨v, cellK x c e v z⟩
  · obtain ⟨m, ⟨o, _, _, ho, _⟩, _⟩ := I.loc
    exact free _ o (fun z => (hch _ z).2.1 rfl) ho I.free
  · obtain ⟨v, o, ho, hd⟩ := I.cell x c e
    exact free c o (fun z => (hch c z).2.2.1 x c e rfl) ho (I.freeC x c e)
  · obtain ⟨e, n, ne, nf, d⟩ := I.pin p hp
    have nch : p.1 ∉ ch := fun z => (hch p.1 z).2.2.2 p hp rfl
    exact ⟨keep p.1 p.2 ne nf nch e n, free p.1 p.2 nch e n, ne, nf, d⟩
/-- .. where the frame's own object is kept too -/
theorem Inv.un {t' : Nat} (I : Inv X pins σ H s) (u : Un X.fs [] H H' s.heap h') (hok : HOk X.prog X.w H' h') : Inv X pins σ H' { s with heap := h', toks := t' } := by
  obtain ⟨m, ⟨o, es, ep, ho, r⟩, _⟩ := id I.loc
  obtain ⟨sl, hL⟩ := u.any ho I.free (by simp)
  exact I.step (g' := s.gens) (d' := s.drawn) (ch := []) (fun _ z => nomatch z) (fun b o _ hb _ e n => u.keep b o e n hb (by simp)) (fun b o _ hb _ e n => u.slot b o e n hb (by simp)) (fun b o _ e n => u.free b o e n (by simp)) (fun b o _ e => u.there b o e (by simp)) u.tups u.frzs u.tbls (fun m' hm => by
    obtain ⟨o', es', ep', ho', r'⟩ := hm
    rw [ho] at ho'; cases ho'
    exact ⟨_, es', ep', hL, r'⟩) hok I.bare
/-- behind a call (or a comprehension's block): the slots of this frame may have changed too, the records at ch may have turned -/
theorem Inv.call {g' : Array GenState} {t' : Nat} {d' : Drawn} {ch : List Addr} (I : Inv X pins σ H s) (u : Un (frs X.stack) ch H H' s.heap h') (hok : HOk X.prog X.w H' h') (hg : AllBare g')
    (hch : ∀ b ∈ ch, (b ∈ X.ex ∨ X.s₀.heap.objs.size ≤ b) ∧ b ≠ X.env.locals ∧ (∀ x c, X.env.cells.lookup x = some c → c ≠ b) ∧ ∀ p ∈ X.pn ++ pins, p.1 ≠ b) :
    Inv X pins σ H' { s with heap := h', gens := g', drawn := d', toks := t' } := by
  obtain ⟨m, ⟨o, es, ep, ho, r⟩, _⟩ := id I.loc
  obtain ⟨sl, hL⟩ := u.any ho I.free fun z => (hch _ z).2.1 rfl
  exact I.step (ch := ch) hch (fun b o hL hb hc e n => u.keep b o e n (fun z => (List.mem_cons.mp (I.stkSub b z)).elim hL hb) hc) (fun b o _ _ hc e n => u.any e n hc) (fun b o hc e n => u.free b o e n hc) (fun b o hc e => u.there b o e hc) u.tups u.frzs u.tbls (fun m' hm => by
    obtain ⟨o', es', ep', ho', r'⟩ := hm
    rw [ho] at ho'; cases ho'
    exact ⟨_, es', ep', hL, r'⟩) hok hg
/-- an untracked record of ours (an iterator) has turned -/
theorem Inv.turned {t' : Nat} {it : Addr} (I : Inv X pins σ H s) (k : ∀ b o, b ≠ it → s.heap.get? b = some o → h'.get? b = some o) (hn : H it = none) (hL : it ≠ X.env.locals)
    (h1 : it ∈ X.ex ∨ X.s₀.heap.objs.size ≤ it) (h2 : ∀ x c, X.env.cells.lookup x = some c → c ≠ it) (h3 : ∀ p ∈ X.pn ++ pins, p.1 ≠ it) : Inv X pins σ H { s with heap := h', toks := t' } := by
  have nit : ∀ b u, H b = some u → b ≠ it := fun b u e z => by rw [z, hn] at e; cases e
  refine I.step (g' := s.gens) (d' := s.drawn) (ch := [it]) (fun b hb => ?_) (fun b o _ _ hc e _ => k b o (fun z => hc (by simp [z])) e) (fun b o _ _ hc e _ => ⟨o.slots, k b o (fun z => hc (by simp [z])) e⟩) (fun _ _ _ _ n => n)
    (fun b o hc e => ⟨o, k b o (fun z => hc (by simp [z])) e⟩) (fun _ _ e => e) (fun _ _ _ e => e) (fun b ps e => ⟨#[], by rw [e]; simp⟩) (fun m hm => ?_) (fun b u e => ?_) I.bare
  · have e : b = it := by simpa using hb
    subst e
    exact ⟨h1, hL, h2, h3⟩
  · obtain ⟨o, es, ep, ho, r⟩ := hm
    exact ⟨o, es, ep, k _ o (Ne.symm hL) ho, r⟩
  · refine (I.hok b u e).stay (fun c v hc q => k c v ?_ q) (fun _ q => q) fun _ _ q => q
    rcases hc with z | z
    · rw [z]; exact nit b u e
    · exact nit c _ z
theorem Inv.tok (I : Inv X pins σ H s) (t : Nat) : Inv X pins σ H { s with toks := t } := I.un (h' := s.heap) (t' := t) Un.refl I.hok
/-- all objects kept -/
theorem Inv.kept {t' : Nat} (I : Inv X pins σ H s) (k : ∀ b u, s.heap.get? b = some u → h'.get? b = some u) : Inv X pins σ H { s with heap := h', toks := t' } := I.un (Un.kept k) (I.hok.kept k)
/-- a new object laid and tracked -/
theorem Inv.laid {a : Addr} {o : HO} {t' : Nat} (I : Inv X pins σ H s) (k : ∀ b u, s.heap.get? b = some u → h'.get? b = some u) (hp : s.heap.objs.size ≤ a) (new : ObjOk X.prog X.w (upd H a o) h' a o) :
    Inv X pins σ (upd H a o) { s with heap := h', toks := t' } := I.un (Un.laid k hp (I.hok.fresh hp)) (I.hok.laid k hp new)
/-- an object written -/
theorem Inv.write {x e : Addr} {o : HO} {t' : Nat} (I : Inv X pins σ H s) (mu : Mut (H x)) (he : e = x ∨ H e = some (.own x)) (k : ∀ b u, b ≠ e → s.heap.get? b = some u → h'.get? b = some u) (heo : ∃ u, h'.get? e = some u)
    (new : ObjOk X.prog X.w (upd H x o) h' x o) : Inv X pins σ (upd H x o) { s with heap := h', toks := t' } := I.un (Un.write mu he k heo) (I.hok.write mu he k heo new)
/-- forgetting slots, pins -/
theorem Inv.pins_of {pins' : List (Addr × Obj)} (I : Inv X pins σ H s) (h : ∀ p ∈ pins', s.heap.get? p.1 = some p.2 ∧ H p.1 = none ∧ p.1 ≠ X.env.locals ∧ p.1 ∉ X.fs ∧ ∀ v, p.2.data ≠ .cell v) : Inv X pins' σ H s :=
  ⟨I.ok, I.os, I.bare, I.base, I.loc, I.cell, I.free, I.freeC, fun p hp => (List.mem_append.mp hp).elim (fun z => I.pin p (List.mem_append_left _ z)) (h p), I.hok, I.len⟩

theorem nodup_ix {N : List Str} (hN : N.Nodup) {i j : Nat} {x : Str} (a : N[i]? = some x) (b : N[j]? = some x) : i = j := by
  obtain ⟨h1, e1⟩ := List.getElem?_eq_some_iff.mp a
  obtain ⟨h2, e2⟩ := List.getElem?_eq_some_iff.mp b
  exact (List.getElem_inj hN).mp (e1.trans e2.symm)

/-- a name is stored; what changed -/
theorem store_ok2 {M : Model} {A : Around} {E : Value → Shared → Prop} {i : Nat} {x : Str} {v : V} {u : Value} {Q : Unit → Shared → Prop} (I : Inv X pins σ H s) (hN : X.N.Nodup) (hi : X.N[i]? = some x) (hx : Loc X.env.scope x) (r : RelV v u)
    (h : ∀ s', Inv X pins (σ.set i (some v)) H s' → (∃ a, Heap.SameBut a s.heap s'.heap ∧ (a = X.env.locals ∨ X.env.cells.lookup x = some a)) → Q () s') (hf : X.fn x = true ∨ X.env.scope.names.lookup x = some .local := by first | exact .inl rfl | exact .inr rfl | assumption) : wpAny M A (storeName X.env x u) Q E s := by
  obtain ⟨m, hn, hl⟩ := id I.loc
  have hcls : (X.env.scope.kind == .class || (X.env.scope.kind == .module && X.env.locals != X.env.globals)) = false := by rw [I.ok.kind]; rfl
  have hiσ : i < σ.length := by rw [I.len]; exact (List.getElem?_eq_some_iff.mp hi).1
  have cne := I.cne
  have tracked : ∀ {a : Addr} {h' : Heap}, (∃ o, s.heap.get? a = some o ∧ H a = none) → Heap.SameBut a s.heap h' → HOk X.prog X.w H h' := fun {a h'} ha hs b ob e => by
    obtain ⟨_, _, hfree⟩ := ha
    refine (I.hok b ob e).stay (fun c w' hc q => (hs.2 c ?_).trans q) (fun _ q => q) fun _ _ q => q
    rintro rfl
    rcases hc with rfl | hc
    · rw [hfree] at e; cases e
    · rw [hfree] at hc; cases hc
  rcases hx with hk | hk
  · refine wpAny_storeName_local hk hn (fun h' hn' hs => ?_) hcls
    obtain ⟨oL, _, _, hoL, _⟩ := id hn
    refine h _ ⟨I.ok, I.os, I.bare, ⟨fun b o e n hb hx => ?_, fun b o e n hb hx => ?_, I.base.free, fun b o e hx => ?_, I.base.tups, I.base.frzs, I.base.tbls⟩, ⟨_, hn', fun j y v' e1 e2 e3 => ?_⟩, fun y c e => ?_, I.free, I.freeC, fun p hp => ?_, tracked ⟨oL, hoL, I.free⟩ hs, by simpa using I.len⟩ ⟨_, hs, .inl rfl⟩
    · exact (hs.2 b (Nat.ne_of_lt (Nat.lt_of_lt_of_le (Heap.lt_size e) I.ok.above))).trans (I.base.keep b o e n hb hx)
    · obtain ⟨sl, e1⟩ := I.base.slot b o e n hb hx
      exact ⟨sl, (hs.2 b (Nat.ne_of_lt (Nat.lt_of_lt_of_le (Heap.lt_size e) I.ok.above))).trans e1⟩
    · obtain ⟨o', e1⟩ := I.base.there b o e hx
      exact ⟨o', (hs.2 b (Nat.ne_of_lt (Nat.lt_of_lt_of_le (Heap.lt_size e) I.ok.above))).trans e1⟩
    · by_cases hj : j = i
      · subst hj
        rw [hi] at e1; cases e1
        rw [List.getElem?_set_self hiσ] at e2
        cases e2
        exact ⟨u, r, .inl ⟨hk, by simp⟩⟩
      · rw [List.getElem?_set_ne (Ne.symm hj)] at e2
        obtain ⟨u', r', q⟩ := hl j y v' e1 e2 e3
        refine ⟨u', r', ?_⟩
        rcases q with ⟨k, e⟩ | ⟨k, c, e, z⟩
        · refine .inl ⟨k, ?_⟩
          have : y ≠ x := fun e => hj (nodup_ix hN e1 (e ▸ hi))
          simp [this, e]
        · exact .inr ⟨k, c, e, z.sameBut hs (cne y c e)⟩
    · obtain ⟨w', z⟩ := I.cell y c e
      exact ⟨w', z.sameBut hs (cne y c e)⟩
    · obtain ⟨e, n, ne, nf, d⟩ := I.pin p hp
      exact ⟨(hs.2 p.1 ne).trans e, n, ne, nf, d⟩
  · have hfn : X.fn x = true := by
      rcases hf with z | z
      · exact z
      · rw [z] at hk; cases hk
    obtain ⟨c, hc⟩ := I.ok.has x (.inl hk)
    obtain ⟨w', z⟩ := I.cell x c hc
    refine wpAny_storeName_cell I.ok.kind hk hc z (fun h' hc' hs => ?_)
    obtain ⟨oc, hoc, hocd⟩ := id z
    refine h { s with heap := h' } ⟨I.ok, I.os, I.bare, ⟨fun b o e n hb hx => ?_, fun b o e n hb hx => ?_, I.base.free, fun b o e hx => ?_, I.base.tups, I.base.frzs, I.base.tbls⟩, ⟨m, hn.sameBut hs (Ne.symm (cne x c hc)), fun j y v' e1 e2 e3 => ?_⟩, fun y c' e => ?_, I.free, I.freeC, fun p hp => ?_, tracked ⟨oc, hoc, I.freeC x c hc⟩ hs, by simpa using I.len⟩ ⟨c, hs, .inr hc⟩
    · exact (hs.2 b (Nat.ne_of_lt (Nat.lt_of_lt_of_le (Heap.lt_size e) (I.ok.cab x c hfn hc)))).trans (I.base.keep b o e n hb hx)
    · obtain ⟨sl, e1⟩ := I.base.slot b o e n hb hx
      exact ⟨sl, (hs.2 b (Nat.ne_of_lt (Nat.lt_of_lt_of_le (Heap.lt_size e) (I.ok.cab x c hfn hc)))).trans e1⟩
    · obtain ⟨o', e1⟩ := I.base.there b o e hx
      exact ⟨o', (hs.2 b (Nat.ne_of_lt (Nat.lt_of_lt_of_le (Heap.lt_size e) (I.ok.cab x c hfn hc)))).trans e1⟩
    · by_cases hj : j = i
      · subst hj
        rw [hi] at e1; cases e1
        rw [List.getElem?_set_self hiσ] at e2
        cases e2
        exact ⟨u, r, .inr ⟨.inl hk, c, hc, hc'⟩⟩
      · rw [List.getElem?_set_ne (Ne.symm hj)] at e2
        obtain ⟨u', r', q⟩ := hl j y v' e1 e2 e3
        refine ⟨u', r', ?_⟩
        rcases q with q | ⟨k, c', e, z'⟩
        · exact .inl q
        · refine .inr ⟨k, c', e, z'.sameBut hs ?_⟩
          rintro rfl
          exact hj (nodup_ix hN e1 (I.ok.inj _ _ _ e hc ▸ hi))
    · by_cases hcc : c' = c
      · subst hcc; exact ⟨_, hc'⟩
      · obtain ⟨w2, z2⟩ := I.cell y c' e
        exact ⟨w2, z2.sameBut hs hcc⟩
    · obtain ⟨e, n, ne, nf, d⟩ := I.pin p hp
      refine ⟨(hs.2 p.1 ?_).trans e, n, ne, nf, d⟩
      intro q
      rw [q, hoc] at e
      have q' : oc = p.2 := Option.some.inj e
      exact d w' (by rw [← q']; exact hocd)
theorem store_ok {M : Model} {A : Around} {E : Value → Shared → Prop} {i : Nat} {x : Str} {v : V} {u : Value} {Q : Unit → Shared → Prop} (I : Inv X pins σ H s) (hN : X.N.Nodup) (hi : X.N[i]? = some x) (hx : Loc X.env.scope x) (r : RelV v u)
    (h : ∀ s', Inv X pins (σ.set i (some v)) H s' → Q () s') (hf : X.fn x = true ∨ X.env.scope.names.lookup x = some .local := by first | exact .inl rfl | exact .inr rfl | assumption) : wpAny M A (storeName X.env x u) Q E s :=
  store_ok2 I hN hi hx r (fun s' I' _ => h s' I') hf
/-- behind a call or a block, the state as it is -/
theorem Inv.call' {s' : Shared} {ch : List Addr} (I : Inv X pins σ H s) (ho : s'.os = s.os) (u : Un (frs X.stack) ch H H' s.heap s'.heap) (hok : HOk X.prog X.w H' s'.heap) (hg : AllBare s'.gens)
    (hch : ∀ b ∈ ch, (b ∈ X.ex ∨ X.s₀.heap.objs.size ≤ b) ∧ b ≠ X.env.locals ∧ (∀ x c, X.env.cells.lookup x = some c → c ≠ b) ∧ ∀ p ∈ X.pn ++ pins, p.1 ≠ b) : Inv X pins σ H' s' := by
  obtain ⟨h', g', d', t', o'⟩ := s'
  have e : o' = s.os := ho
  subst e
  exact I.call (g' := g') (t' := t') (d' := d') u hok hg hch
end

/-! ### the judgements -/
/-- an exception: its class, its own dict's address (where it has one), the abstract heap behind it -/
noncomputable abbrev XK := Value → Option Addr → Hp → Prop
noncomputable abbrev St := List (Option V)
noncomputable abbrev VK := V → Hp → Prop
/-- an expression's reading; a test's; an argument list's -/
noncomputable abbrev TE := St → Hp → VK → Prop
noncomputable abbrev TT := St → Hp → (Bool → Hp → Prop) → Prop
noncomputable abbrev TA := St → Hp → (List V → Hp → Prop) → Prop
/-- what is wanted behind a statement -/
structure Ends where
  nx : St → Hp → Prop
  rt : VK
  bk : St → Hp → Prop := fun _ _ => False
  ct : St → Hp → Prop := fun _ _ => False
noncomputable abbrev TS := Ends → St → Hp → Prop

noncomputable def EP (X : Cx) (pins : List (Addr × Obj)) (σ : St) (Q : VK) (u : Value) (s' : Shared) : Prop := ∃ v H', Inv X pins σ H' s' ∧ RelV v u ∧ Q v H'
noncomputable def TP (X : Cx) (pins : List (Addr × Obj)) (σ : St) (Q : Bool → Hp → Prop) (b : Bool) (s' : Shared) : Prop := ∃ H', Inv X pins σ H' s' ∧ Q b H'
noncomputable def AP (X : Cx) (pins : List (Addr × Obj)) (σ : St) (Q : List V → Hp → Prop) (us : List Value) (s' : Shared) : Prop := ∃ vs H', Inv X pins σ H' s' ∧ Vals vs us ∧ Q vs H'
noncomputable def SP (X : Cx) (pins : List (Addr × Obj)) (D : Ends) (f : Flow) (s' : Shared) : Prop :=
  match f with
  | .next => ∃ σ' H', Inv X pins σ' H' s' ∧ D.nx σ' H'
  | .brk => ∃ σ' H', Inv X pins σ' H' s' ∧ D.bk σ' H'
  | .cont => ∃ σ' H', Inv X pins σ' H' s' ∧ D.ct σ' H'
  | .ret u => ∃ v σ' H', Inv X pins σ' H' s' ∧ RelV v u ∧ D.rt v H'

noncomputable def PE (X : Cx) (e : Expr) (t : TE) : Prop :=
  ∀ (pins : List (Addr × Obj)) (s : Shared) (σ : St) (H : Hp) (Q : VK), Inv X pins σ H s → t σ H Q → wpAny (model X.prog X.w) X.A (eval e X.env) (EP X pins σ Q) X.xe s
noncomputable def PT (X : Cx) (e : Expr) (t : TT) : Prop :=
  ∀ (pins : List (Addr × Obj)) (s : Shared) (σ : St) (H : Hp) (Q : Bool → Hp → Prop), Inv X pins σ H s → t σ H Q → wpAny (model X.prog X.w) X.A (isTrue e X.env (eval e X.env)) (TP X pins σ Q) X.xe s
/-- a test whatever its 'whole' is (and, or) -/
noncomputable def PW (X : Cx) (e : Expr) (t : TT) : Prop :=
  ∀ (whole : Sem Value) (pins : List (Addr × Obj)) (s : Shared) (σ : St) (H : Hp) (Q : Bool → Hp → Prop), Inv X pins σ H s → t σ H Q → wpAny (model X.prog X.w) X.A (isTrue e X.env whole) (TP X pins σ Q) X.xe s
theorem PW.pt {X : Cx} {e : Expr} {t : TT} (h : PW X e t) : PT X e t := h _
/-- an argument list (no star), from the left -/
noncomputable def PA (X : Cx) (es : List Expr) (t : TA) : Prop :=
  ∀ (pos : Pos) (pins : List (Addr × Obj)) (s : Shared) (σ : St) (H : Hp) (Q : List V → Hp → Prop), Inv X pins σ H s → t σ H Q → wpAny (model X.prog X.w) X.A (spliced (backTo pos (starEach es X.env))) (AP X pins σ Q) X.xe s
noncomputable def PS (X : Cx) (st : Stmt) (t : TS) : Prop :=
  ∀ (pins : List (Addr × Obj)) (s : Shared) (σ : St) (H : Hp) (D : Ends), Inv X pins σ H s → t D σ H → wpAny (model X.prog X.w) X.A (exec st X.env) (SP X pins D) X.xe s
noncomputable def PSs (X : Cx) (st : List Stmt) (t : TS) : Prop :=
  ∀ (pins : List (Addr × Obj)) (s : Shared) (σ : St) (H : Hp) (D : Ends), Inv X pins σ H s → t D σ H → wpAny (model X.prog X.w) X.A (execs st X.env) (SP X pins D) X.xe s
/-- weaken the end -/
theorem thn {α : Type} {t : Sem α} {Q Q' : α → Shared → Prop} {M : Model} {A : Around} {E : Value → Shared → Prop} {s : Shared} (h : wpAny M A t Q E s) (hQ : ∀ a s, Q a s → Q' a s) : wpAny M A t Q' E s := wpAny_mono h hQ fun _ _ x => x
end L2

namespace L2
open PySem PySem.Spec PyProof.Rows
section
variable {X : Cx}

/-! ### names and constants -/
noncomputable def tVar (i : Nat) : TE := fun σ H Q => ∃ v, σ[i]? = some (some v) ∧ Q v H
noncomputable def tC (v : V) : TE := fun _ H Q => Q v H
theorem pe_var {i : Nat} {x : Str} {pos : Pos} (hN : X.N[i]? = some x) (hv : Vis X.env.scope x) (hd : (x == ("__debug__" : Str)) = false := by decide) (hcd : (x == ("__classdict__" : Str)) = false := by decide) : PE X (.Name x pos) (tVar i) := by
  intro pins s σ H Q I h
  obtain ⟨v, e, h⟩ := h
  obtain ⟨m, hn, hl⟩ := I.loc
  obtain ⟨u, r, l⟩ := hl i x v hN e hv
  have fin : EP X pins σ Q u s := ⟨v, H, I, r, h⟩
  rcases l with ⟨hk, hm⟩ | ⟨hk, c, hc, hcell⟩
  · exact wpAny_Name (wpAny_loadName_local I.ok.kind hk hn hm fin) hd
  · rcases hk with hk | hk
    · exact wpAny_Name (wpAny_loadName_cell I.ok.kind hk hc hcell fin) hd
    · exact wpAny_Name (wpAny_loadName_free I.ok.kind hk hc hcell fin hcd) hd
theorem pe_int {i j pos} : PE X (.Constant (.int i) j pos) (tC (.int i)) := fun _ _ _ H _ I h => wpAny_Constant_int ⟨.int i, H, I.tok _, ⟨_, rfl⟩, h⟩
theorem pe_bl {b j pos} : PE X (.Constant (.bool b) j pos) (tC (.bl b)) := fun _ _ _ H _ I h => Constant_bool ⟨.bl b, H, I, rfl, h⟩
theorem pe_non {j pos} : PE X (.Constant .none j pos) (tC .non) := fun _ _ _ H _ I h => Constant_none ⟨.non, H, I, rfl, h⟩
theorem pe_str {x j pos} : PE X (.Constant (.str x) j pos) (tC (.str x)) := fun _ _ _ H _ I h => Calls.Constant_str ⟨.str x, H, I.tok _, ⟨_, rfl⟩, h⟩

/-- a global name of the def -/
noncomputable def Gl (X : Cx) (x : Str) : Prop := X.env.kindOf x = some .globalImplicit
theorem ld_glob {E : Value → Shared → Prop} {pins : List (Addr × Obj)} {s : Shared} {σ : St} {H : Hp} {x : Str} {u : Value} {pos : Pos} {Q : Value → Shared → Prop} (I : Inv X pins σ H s) (hg : Gl X x) (hm : X.mg x = some u) (h : Q u s)
    (hd : (x == ("__debug__" : Str)) = false := by decide) : wpAny (model X.prog X.w) X.A (eval (.Name x pos) X.env) Q E s :=
  Calls.Name_function_global I.ok.kind hg (Calls.loadGlobal_global (by rw [I.ok.glob]; exact I.mod.glob.keeps I.bk) hm h) hd
theorem ld_blt {E : Value → Shared → Prop} {pins : List (Addr × Obj)} {s : Shared} {σ : St} {H : Hp} {x : Str} {u : Value} {pos : Pos} {Q : Value → Shared → Prop} (I : Inv X pins σ H s) (hg : Gl X x) (hm : X.mg x = none) (hv : bootBuiltins x = some u) (h : Q u s)
    (hn : x ≠ "__name__" := by decide) (hd : (x == ("__debug__" : Str)) = false := by decide) : wpAny (model X.prog X.w) X.A (eval (.Name x pos) X.env) Q E s := by
  obtain ⟨mb, h1, h2⟩ := I.mod.blt
  exact Calls.Name_function_global I.ok.kind hg (Calls.loadGlobal_builtin (by rw [I.ok.glob]; exact I.mod.glob.keeps I.bk) hm (by rw [I.ok.blt]; exact h1.keeps I.bk) ((h2 x hn).trans hv) h) hd
/-- a module's constant, a class, a function, as a value -/
theorem pe_glob {x : Str} {v : V} {u : Value} {pos : Pos} (hg : Gl X x) (hm : X.mg x = some u) (r : RelV v u) (hd : (x == ("__debug__" : Str)) = false := by decide) : PE X (.Name x pos) (tC v) :=
  fun _ _ _ H _ I h => ld_glob I hg hm ⟨v, H, I, r, h⟩ hd
theorem pe_bltn {x : Str} {v : V} {u : Value} {pos : Pos} (hg : Gl X x) (hm : X.mg x = none) (hv : bootBuiltins x = some u) (r : RelV v u) (hn : x ≠ "__name__" := by decide) (hd : (x == ("__debug__" : Str)) = false := by decide) : PE X (.Name x pos) (tC v) :=
  fun _ _ _ H _ I h => ld_blt I hg hm hv ⟨v, H, I, r, h⟩ hn hd

/-! ### arithmetic -/
variable {a b : Expr} {ta tb : TE} {pos : Pos}
/-! ### comparisons -/
/-- a comparison as a value, as a test -/
noncomputable def tB (t : TE) : TT := fun σ H Q => t σ H fun x H1 => ∃ c, x = .bl c ∧ Q c H1
/-- an expression whose value is a bool, as a test -/
theorem pt_val {e : Expr} {t : TE} (h : PE X e t) (he : ∀ whole, isTrue e X.env whole = (do let v ← whole; standAt e.pos; holding [v] (truthy v)) := by intro _; rfl) : PT X e (tB t) := by
  intro pins s σ H Q I hw
  refine isTrue_plain (thn (h pins s σ H _ I hw) fun v s1 ⟨x, H1, I1, r1, q1⟩ => ?_) (he _)
  obtain ⟨d, rfl, q⟩ := q1
  cases r1
  exact wpAny_truthy_bool ⟨H1, I1, q⟩

/-! ### and, or, not -/
variable {tA tB' : TT} {rest : List Expr}
noncomputable def tAnd (t u : TT) : TT := fun σ H Q => t σ H fun c H1 => if c = true then u σ H1 Q else Q false H1
noncomputable def tOr (t u : TT) : TT := fun σ H Q => t σ H fun c H1 => if c = true then Q true H1 else u σ H1 Q
noncomputable def tNot (t : TT) : TT := fun σ H Q => t σ H fun c H1 => Q (!c) H1
theorem pw_and1 (ha : PT X a tA) : PW X (.BoolOp .And [a] pos) tA := by
  intro wh pins s σ H Q I h
  refine isTrue_and (thn (ha pins s σ H Q I h) fun c s1 e => ?_)
  cases c with
  | true => exact isTrue_and_nil e
  | false => exact e
theorem pw_or1 (ha : PT X a tA) : PW X (.BoolOp .Or [a] pos) tA := by
  intro wh pins s σ H Q I h
  refine isTrue_or (thn (ha pins s σ H Q I h) fun c s1 e => ?_)
  cases c with
  | false => exact isTrue_or_nil e
  | true => exact e
theorem pw_and (ha : PT X a tA) (hb : PW X (.BoolOp .And (b :: rest) pos) tB') : PW X (.BoolOp .And (a :: b :: rest) pos) (tAnd tA tB') := by
  intro wh pins s σ H Q I h
  refine isTrue_and (thn (ha pins s σ H _ I h) fun c s1 ⟨H1, I1, q1⟩ => ?_)
  cases c with
  | true => exact hb wh pins s1 σ H1 Q I1 q1
  | false => exact ⟨H1, I1, q1⟩
theorem pw_or (ha : PT X a tA) (hb : PW X (.BoolOp .Or (b :: rest) pos) tB') : PW X (.BoolOp .Or (a :: b :: rest) pos) (tOr tA tB') := by
  intro wh pins s σ H Q I h
  refine isTrue_or (thn (ha pins s σ H _ I h) fun c s1 ⟨H1, I1, q1⟩ => ?_)
  cases c with
  | true => exact ⟨H1, I1, q1⟩
  | false => exact hb wh pins s1 σ H1 Q I1 q1
theorem pt_not (ha : PT X a tA) : PT X (.UnaryOp .Not a pos) (tNot tA) := by
  intro pins s σ H Q I h
  exact isTrue_not (ha pins s σ H (fun c H1 => Q (!c) H1) I h)
/-- .. as values (bools) -/
noncomputable def tAndV (ta tb : TE) : TE := fun σ H Q => ta σ H fun x H1 => ∃ c, x = .bl c ∧ if c = true then tb σ H1 Q else Q (.bl false) H1
noncomputable def tNotV (ta : TE) : TE := fun σ H Q => ta σ H fun x H1 => ∃ c, x = .bl c ∧ Q (.bl (!c)) H1
theorem pe_one {op} {t : TE} (h : PE X a t) : PE X (.BoolOp op [a] pos) t := fun pins s σ H Q I hw => BoolOp_one (h pins s σ H Q I hw)
theorem pe_and (ha : PE X a ta) (hb : PE X (.BoolOp .And (b :: rest) pos) tb) : PE X (.BoolOp .And (a :: b :: rest) pos) (tAndV ta tb) := by
  intro pins s σ H Q I h
  refine BoolOp_and (thn (ha pins s σ H _ I h) fun v s1 ⟨x, H1, I1, r1, q1⟩ => ?_)
  obtain ⟨c, rfl, q1⟩ := q1
  cases r1
  refine wpAny_truthy_bool ?_
  cases c with
  | true => exact hb pins s1 σ H1 Q I1 q1
  | false => exact ⟨.bl false, H1, I1, rfl, q1⟩
theorem pe_not (ha : PE X a ta) : PE X (.UnaryOp .Not a pos) (tNotV ta) := by
  intro pins s σ H Q I h
  refine UnaryOp_ (thn (ha pins s σ H _ I h) fun v s1 ⟨x, H1, I1, r1, q1⟩ => ?_)
  obtain ⟨c, rfl, q1⟩ := q1
  cases r1
  exact not_of (wpAny_truthy_bool ⟨.bl (!c), H1, I1, rfl, q1⟩)
end
end L2

namespace L2
open PySem PySem.Spec PyProof.Rows

/-! ### a list, a tuple that is read: tracked, frozen, or an object of the module -/
noncomputable def SqL (K : PySem.W.Frag) (H : Hp) (a : Addr) (xs : List V) : Prop :=
  Rd H a (.lst xs) ∨
    ∃ (o : Obj) (its : Array Value) (n : Nat), K.lookup a = some o ∧ o.cls = .type "list" ∧ o.dict = none ∧ o.data = .seq its n ∧ its.size ≤ sizeLine ∧ Vals xs its.toList
noncomputable def SqT (K : PySem.W.Frag) (H : Hp) (a : Addr) (xs : List V) : Prop :=
  Rd H a (.tup xs) ∨
    ∃ (o : Obj) (its : Array Value) (n : Nat), K.lookup a = some o ∧ o.cls = .type "tuple" ∧ o.data = .seq its n ∧ its.size ≤ sizeLine ∧ Vals xs its.toList
noncomputable def absV : Value → Option V
  | .none => some .non
  | .bool b => some (.bl b)
  | .int i _ => some (.int i)
  | .str x _ => some (.str x)
  | .bytes b _ => some (.byt b)
  | .float b _ => some (.flt b)
  | .ref a => some (.ref a)
  | .type n => some (.ty n)
  | _ => none
theorem RelV.abs {x : V} {u : Value} (r : RelV x u) : absV u = some x := by
  cases x with
  | non => cases r; rfl
  | bl _ => cases r; rfl
  | int _ => obtain ⟨t, rfl⟩ := r; rfl
  | str _ => obtain ⟨t, rfl⟩ := r; rfl
  | byt _ => obtain ⟨t, rfl⟩ := r; rfl
  | flt _ => obtain ⟨t, rfl⟩ := r; rfl
  | ref _ => cases r; rfl
  | ty _ => cases r; rfl
theorem RelV.inj {x y : V} {u : Value} (r : RelV x u) (q : RelV y u) : x = y := Option.some.inj (r.abs.symm.trans q.abs)
theorem Vals.inj : ∀ {xs ys : List V} {us : List Value}, Vals xs us → Vals ys us → xs = ys
  | _, _, _, .nil, .nil => rfl
  | _, _, _, .cons r t, .cons r' t' => by rw [r.inj r', Vals.inj t t']
section
variable {X : Cx} {pins : List (Addr × Obj)} {σ : St} {H : Hp} {s : Shared} {a : Addr} {xs ys : List V}
theorem SqL.of {K : PySem.W.Frag} (h : H a = some (.lst xs)) : SqL K H a xs := .inl (.inl h)
theorem SqT.of {K : PySem.W.Frag} (h : H a = some (.tup xs)) : SqT K H a xs := .inl (.inl h)
theorem Inv.list (I : Inv X pins σ H s) (h : SqL X.K H a xs) : ∃ its : List Value, Vals xs its ∧ PlainL s.heap a its.toArray ∧ xs.length ≤ sizeLine := by
  rcases h with h | ⟨o, its, n, hk, hc, hd, hs, hz, r⟩
  · obtain ⟨z, its, n, r, e⟩ := h.ok I.hok
    exact ⟨its, r, ⟨_, n, e, rfl, rfl, rfl⟩, z⟩
  · refine ⟨its.toList, r, ⟨o, n, I.kIn a o hk, hc, hd, by simpa using hs⟩, ?_⟩
    have e := r.length
    simp only [Array.length_toList] at e
    omega
theorem Inv.tuple (I : Inv X pins σ H s) (h : SqT X.K H a xs) : ∃ its : List Value, Vals xs its ∧ IsTup s.heap a its.toArray ∧ xs.length ≤ sizeLine := by
  rcases h with h | ⟨o, its, n, hk, hc, hs, hz, r⟩
  · obtain ⟨z, its, r, p⟩ := h.ok I.hok
    exact ⟨its, r, p, z⟩
  · refine ⟨its.toList, r, ⟨o, I.kIn a o hk, hc, n, by simpa using hs⟩, ?_⟩
    have e := r.length
    simp only [Array.length_toList] at e
    omega
theorem Inv.list_inj (I : Inv X pins σ H s) (h : SqL X.K H a xs) (h' : SqL X.K H a ys) : xs = ys := by
  obtain ⟨its, r, ⟨o, n, e, _, _, d⟩, _⟩ := I.list h
  obtain ⟨its', r', ⟨o', n', e', _, _, d'⟩, _⟩ := I.list h'
  rw [e] at e'; cases e'
  rw [d] at d'
  injection d' with d1 _
  have : its = its' := by simpa using congrArg Array.toList d1
  subst this
  exact r.inj r'
theorem Inv.tuple_inj (I : Inv X pins σ H s) (h : SqT X.K H a xs) (h' : SqT X.K H a ys) : xs = ys := by
  obtain ⟨its, r, ⟨o, e, _, n, d⟩, _⟩ := I.tuple h
  obtain ⟨its', r', ⟨o', e', _, n', d'⟩, _⟩ := I.tuple h'
  rw [e] at e'; cases e'
  rw [d] at d'
  injection d' with d1 _
  have : its = its' := by simpa using congrArg Array.toList d1
  subst this
  exact r.inj r'
end

/-! ### another wish about exceptions -/
noncomputable abbrev Cx.wish (X : Cx) (E : Value → Shared → Prop) : Cx := { X with xe := E }
/-- no exception leaves -/
noncomputable abbrev Cx.nox (X : Cx) : Cx := X.wish fun _ _ => False
theorem Cx.Ok.wish {X : Cx} (ok : X.Ok) (E : Value → Shared → Prop) : (X.wish E).Ok :=
  ⟨ok.mod, ok.kind, ok.glob, ok.blt, ok.above, ok.inj, ok.has, ok.cab, ok.hd, ok.frames, ok.stk, ok.exf, ok.bs, ok.bsz, ok.noex, ok.exfs, ok.funs, ok.frf⟩
theorem Cx.Ok.unwish {X : Cx} {E : Value → Shared → Prop} (ok : (X.wish E).Ok) : X.Ok :=
  ⟨ok.mod, ok.kind, ok.glob, ok.blt, ok.above, ok.inj, ok.has, ok.cab, ok.hd, ok.frames, ok.stk, ok.exf, ok.bs, ok.bsz, ok.noex, ok.exfs, ok.funs, ok.frf⟩
section
variable {X : Cx} {pins : List (Addr × Obj)} {σ : St} {H : Hp} {s : Shared} {E : Value → Shared → Prop}
theorem Inv.wish (I : Inv X pins σ H s) (E : Value → Shared → Prop) : Inv (X.wish E) pins σ H s := ⟨I.ok.wish E, I.os, I.bare, I.base, I.loc, I.cell, I.free, I.freeC, I.pin, I.hok, I.len⟩
theorem Inv.unwish (I : Inv (X.wish E) pins σ H s) : Inv X pins σ H s := ⟨I.ok.unwish, I.os, I.bare, I.base, I.loc, I.cell, I.free, I.freeC, I.pin, I.hok, I.len⟩
theorem SP.unwish {D : Ends} {f : Flow} {s' : Shared} (h : SP (X.wish E) pins D f s') : SP X pins D f s' := by
  cases f with
  | next => obtain ⟨σ', H', I, q⟩ := h; exact ⟨σ', H', I.unwish, q⟩
  | brk => obtain ⟨σ', H', I, q⟩ := h; exact ⟨σ', H', I.unwish, q⟩
  | cont => obtain ⟨σ', H', I, q⟩ := h; exact ⟨σ', H', I.unwish, q⟩
  | ret u => obtain ⟨v, σ', H', I, r, q⟩ := h; exact ⟨v, σ', H', I.unwish, r, q⟩
theorem PSs.nox {st : List Stmt} {t : TS} (h : PSs X.nox st t) : PSs X st t := fun pins s σ H D I hw =>
  wpAny_mono (h pins s σ H D (I.wish _) hw) (fun _ _ q => q.unwish) fun _ _ z => False.elim z
end

/-! ### blocks and small statements -/
section
variable {X : Cx} {st : Stmt} {rest : List Stmt} {t u : TS} {e : Expr} {te : TE} {pos : Pos}
noncomputable def tNext : TS := fun D σ H => D.nx σ H
noncomputable def tSeq (t u : TS) : TS := fun D σ H => t { D with nx := u D } σ H
theorem pss_nil : PSs X [] tNext := fun _ _ σ H _ I h => wpAny_execs_nil ⟨σ, H, I, h⟩
theorem pss_cons (h1 : PS X st t) (h2 : PSs X rest u) : PSs X (st :: rest) (tSeq t u) := by
  intro pins s σ H D I h
  refine wpAny_execs_cons (thn (h1 pins s σ H { D with nx := u D } I h) fun f s1 q => ?_)
  cases f with
  | next =>
    obtain ⟨σ', H', I', q⟩ := q
    exact h2 pins s1 σ' H' D I' q
  | ret v => exact q
  | brk => exact q
  | cont => exact q
theorem pss_one (h1 : PS X st t) : PSs X [st] t := by
  intro pins s σ H D I h
  refine wpAny_execs_cons (thn (h1 pins s σ H D I h) fun f s1 q => ?_)
  cases f with
  | next => exact wpAny_execs_nil q
  | ret v => exact q
  | brk => exact q
  | cont => exact q
/-- in a def's body nothing is shown -/
theorem Inv.quiet {pins : List (Addr × Obj)} {σ : St} {H : Hp} {s : Shared} (I : Inv X pins σ H s) : interactive X.env = false := by simp [interactive, I.ok.kind]
/-- an expression whose value is dropped -/
noncomputable def tDrop (te : TE) : TS := fun D σ H => te σ H fun _ H1 => D.nx σ H1
theorem ps_expr (he : PE X e te) (hs : swapsWith e none pos.line X.env = pure false := by rfl) : PS X (.Expr e pos) (tDrop te) := by
  intro pins s σ H D I h
  exact wpAny_Expr_any (thn (he pins s σ H _ I h) fun v s1 ⟨x, H1, I1, r1, q1⟩ => ⟨σ, H1, I1, q1⟩) I.quiet hs
noncomputable def tRet (te : TE) : TS := fun D σ H => te σ H D.rt
theorem ps_ret (he : PE X e te) : PS X (.Return (some e) pos) (tRet te) := by
  intro pins s σ H D I h
  exact wpAny_Return_some (thn (he pins s σ H _ I h) fun v s1 ⟨x, H1, I1, r1, q1⟩ => ⟨x, σ, H1, I1, r1, q1⟩)
noncomputable def tIfS (c : TT) (t u : TS) : TS := fun D σ H => c σ H fun b H1 => if b = true then t D σ H1 else u D σ H1
theorem ps_if {c : Expr} {a b : List Stmt} {tc : TT} (hc : PT X c tc) (ha : PSs X a t) (hb : PSs X b u) : PS X (.If c a b pos) (tIfS tc t u) := by
  intro pins s σ H D I h
  refine wpAny_If (thn (hc pins s σ H _ I h) fun d s1 ⟨H1, I1, q1⟩ => ?_)
  cases d with
  | true => exact ha pins s1 σ H1 D I1 q1
  | false => exact hb pins s1 σ H1 D I1 q1
end

/-! ### targets -/
noncomputable abbrev TG := V → St → Hp → (St → Hp → Prop) → Prop
noncomputable abbrev TGs := List V → St → Hp → (St → Hp → Prop) → Prop
noncomputable def PG (X : Cx) (target : Expr) (t : TG) : Prop :=
  ∀ (pins : List (Addr × Obj)) (s : Shared) (σ : St) (H : Hp) (v : V) (u : Value) (Q : St → Hp → Prop), Inv X pins σ H s → RelV v u → t v σ H Q →
    wpAny (model X.prog X.w) X.A (assign target X.env u) (fun _ s' => ∃ σ' H', Inv X pins σ' H' s' ∧ Q σ' H') X.xe s
/-- several targets, one after another -/
noncomputable def PGs (X : Cx) (ts : List Expr) (t : TGs) : Prop :=
  ∀ (pins : List (Addr × Obj)) (s : Shared) (σ : St) (H : Hp) (vs : List V) (us : List Value) (Q : St → Hp → Prop), Inv X pins σ H s → Vals vs us → t vs σ H Q →
    wpAny (model X.prog X.w) X.A (assignInOrder ((assignEach ts X.env).map (·.2)) us) (fun _ s' => ∃ σ' H', Inv X pins σ' H' s' ∧ Q σ' H') X.xe s
/-- o[i] = v, by values -/
noncomputable abbrev TSet := V → V → V → Hp → (Hp → Prop) → Prop
noncomputable def PSet (X : Cx) (t : TSet) : Prop :=
  ∀ (pins : List (Addr × Obj)) (s : Shared) (σ : St) (H : Hp) (o i v : V) (ov iv u : Value) (Q : Hp → Prop), Inv X pins σ H s → RelV o ov → RelV i iv → RelV v u → t o i v H Q →
    wpAny (model X.prog X.w) X.A (setItem ov iv u) (fun _ s' => ∃ H', Inv X pins σ H' s' ∧ Q H') X.xe s
section
variable {X : Cx} {pos : Pos}
noncomputable def gName (i : Nat) : TG := fun v σ H Q => Q (σ.set i (some v)) H
theorem pg_name {i : Nat} {x : Str} (hN : X.N.Nodup) (hi : X.N[i]? = some x) (hx : Loc X.env.scope x) (hf : X.fn x = true ∨ X.env.scope.names.lookup x = some .local := by first | exact .inl rfl | exact .inr rfl | assumption) : PG X (.Name x pos) (gName i) := by
  intro pins s σ H v u Q I r h
  exact wpAny_assign_Name (store_ok I hN hi hx r (fun s' I' => ⟨_, H, I', h⟩) hf)
noncomputable def gNil : TGs := fun vs σ H Q => vs = [] ∧ Q σ H
noncomputable def gCons (t : TG) (u : TGs) : TGs := fun vs σ H Q => ∃ v r, vs = v :: r ∧ t v σ H fun σ' H' => u r σ' H' Q
theorem pgs_nil : PGs X [] gNil := by
  intro pins s σ H vs us Q I r h
  obtain ⟨e, h⟩ := h
  subst e
  cases r
  exact assignInOrder_nil ⟨σ, H, I, h⟩
theorem pgs_cons {e : Expr} {es : List Expr} {t : TG} {u : TGs} (h1 : PG X e t) (h2 : PGs X es u)
    (hs : (assignEach (e :: es) X.env).map (·.2) = assign e X.env :: (assignEach es X.env).map (·.2) := by rfl) : PGs X (e :: es) (gCons t u) := by
  intro pins s σ H vs us Q I r h
  obtain ⟨v, vr, e1, h⟩ := h
  subst e1
  cases r with
  | cons r rr =>
    rw [hs]
    refine assignInOrder_cons (thn (h1 pins s σ H _ _ _ I r h) fun _ s1 ⟨σ1, H1, I1, q1⟩ => ?_)
    exact h2 pins s1 σ1 H1 _ _ Q I1 rr q1
/-- (a, b, ..) = a tuple of that length -/
noncomputable def gTup (K : PySem.W.Frag) (n : Nat) (t : TGs) : TG := fun v σ H Q => ∃ a xs, v = .ref a ∧ SqT K H a xs ∧ xs.length = n ∧ t xs σ H Q
theorem pg_tup {es : List Expr} {k : Nat} {t : TGs} {n : Nat} (hc : X.calm = true) (h : PGs X es t)
    (hn : (assignEach es X.env).length = n := by rfl) (hst : (assignEach es X.env).findIdx? (·.1) = none := by rfl) : PG X (.Tuple es k pos) (gTup X.K n t) := by
  intro pins s σ H v u Q I r hw
  obtain ⟨a, xs, e1, hq, hl, hw⟩ := hw
  subst e1
  cases r
  obtain ⟨its, rv, ht, hz⟩ := I.tuple hq
  refine assign_Tuple_tuple (I.ok.hd hc) ht (by simp [hn, ← hl, rv.length]) hst fun h' hx => ?_
  have I1 : Inv X pins σ H { s with heap := h' } := I.kept (t' := s.toks) fun b o e => hx b o (Nat.ne_of_lt (Heap.lt_size e)) e
  exact h pins _ σ H xs _ Q I1 (by simpa using rv) hw
/-- o[i] = .. -/
noncomputable def gSub (to ti : TE) (t : TSet) : TG := fun v σ H Q => to σ H fun o H1 => ti σ H1 fun i H2 => t o i v H2 fun H3 => Q σ H3
theorem pg_sub {o i : Expr} {to ti : TE} {t : TSet} (ho : PE X o to) (hi : PE X i ti) (hs : PSet X t)
    (ha : ∀ v, assign (.Subscript o i pos) X.env v = (do
      let ov ← holding [v] (eval o X.env)
      let iv ← holding [v, ov] (eval i X.env)
      standAt pos
      holding [v, ov, iv] (setItem ov iv v)
      release [v, ov, iv] []) := by intro _; rfl) : PG X (.Subscript o i pos) (gSub to ti t) := by
  intro pins s σ H v u Q I r h
  rw [ha]
  refine wpAny_bind (wpAny_holding (thn (ho pins s σ H _ I h) fun ov s1 ⟨x, H1, I1, r1, q1⟩ => ?_))
  refine wpAny_bind (wpAny_holding (thn (hi pins s1 σ H1 _ I1 q1) fun iv s2 ⟨y, H2, I2, r2, q2⟩ => ?_))
  refine wpAny_bind (wpAny_standAt (wpAny_bind (wpAny_holding (thn (hs pins s2 σ H2 x y v ov iv u _ I2 r1 r2 r q2) fun _ s3 ⟨H3, I3, q3⟩ => ?_))))
  exact wpAny_release ⟨σ, H3, I3, q3⟩
/-- target = value -/
noncomputable def tAsg (te : TE) (g : TG) : TS := fun D σ H => te σ H fun x H1 => g x σ H1 D.nx
theorem ps_asg {tg e : Expr} {te : TE} {g : TG} (he : PE X e te) (hg : PG X tg g) (hs : swapsWithSole [tg] e pos.line X.env = pure false := by rfl) (hw : swappedStores [tg] e X.env = pure none := by rfl)
    (h1 : (assignEach [tg] X.env).map (·.2) = [assign tg X.env] := by rfl) : PS X (.Assign [tg] e pos) (tAsg te g) := by
  intro pins s σ H D I h
  refine wpAny_Assign_stores (thn (he pins s σ H _ I h) fun v s1 ⟨x, H1, I1, r1, q1⟩ => ?_) hs hw
  rw [h1]
  exact thn (hg pins s1 σ H1 x v _ I1 r1 q1) fun _ s2 q => q
/-- name = value -/
theorem ps_set {i : Nat} {x : Str} {e : Expr} {te : TE} {pos' : Pos} (hN : X.N.Nodup) (hi : X.N[i]? = some x) (hx : Loc X.env.scope x) (he : PE X e te) (hs : swapsWith e (some (.Name x pos')) pos.line X.env = pure false := by rfl) (hf : X.fn x = true ∨ X.env.scope.names.lookup x = some .local := by first | exact .inl rfl | exact .inr rfl | assumption) :
    PS X (.Assign [.Name x pos'] e pos) (tAsg te (gName i)) := by
  intro pins s σ H D I h
  refine wpAny_Assign_Name (thn (he pins s σ H _ I h) fun v s1 ⟨y, H1, I1, r1, q1⟩ => ?_) hs
  exact store_ok I1 hN hi hx r1 (fun s2 I2 => ⟨_, H1, I2, q1⟩) hf
/-- a, b = x, y with plain local names: stored from the right; the pair itself is not tracked (the opening rows as in PyProof/Rows/TupAssign.lean:23) -/
noncomputable def tPar (i j : Nat) (ta : TA) : TS := fun D σ H => ta σ H fun vs H1 => ∃ v w, vs = [v, w] ∧ D.nx ((σ.set i (some v)).set j (some w)) H1
theorem ps_par {i j : Nat} {x y : Str} {a b : Expr} {ta : TA} {px py pt : Pos} {kt k2 pt2} (hc : X.calm = true) (hN : X.N.Nodup) (hi : X.N[i]? = some x) (hj : X.N[j]? = some y) (hij : i ≠ j)
    (hx : X.env.scope.names.lookup x = some .local) (hy : X.env.scope.names.lookup y = some .local) (ha : PA X [a, b] ta)
    (hw : swappedStores [.Tuple [.Name x px, .Name y py] kt pt] (.Tuple [a, b] k2 pt2) X.env = pure (some [x, y]))
    (hs : swapsWithSole [.Tuple [.Name x px, .Name y py] kt pt] (.Tuple [a, b] k2 pt2) pos.line X.env = pure false := by rfl) :
    PS X (.Assign [.Tuple [.Name x px, .Name y py] kt pt] (.Tuple [a, b] k2 pt2) pos) (tPar i j ta) := by
  intro pins s σ H D I h
  rw [exec_Assign_arm]
  refine wpAny_bind (wpAny_standAt ?_)
  rw [hs]
  refine wpAny_bind (wpAny_pure ?_)
  rw [if_neg (by decide)]
  refine wpAny_bind (Tuple_ (thn (ha _ pins s σ H _ I h) fun us s1 ⟨vs, H1, I1, r1, q1⟩ => ?_))
  obtain ⟨v, w, e1, q1⟩ := q1
  subst e1
  obtain ⟨u1, u2, rfl, rv, rw'⟩ : ∃ u1 u2, us = [u1, u2] ∧ RelV v u1 ∧ RelV w u2 := by
    cases r1 with
    | cons p q =>
      cases q with
      | cons p' q' =>
        cases q'
        exact ⟨_, _, rfl, p, p'⟩
  refine wpAny_newObj_type ?_ (by show 2 ≤ sizeLine; decide)
  have I2 : Inv X pins σ H1 { s1 with heap := s1.heap.push { cls := .type "tuple", data := .seq [u1, u2].toArray } } := I1.kept (t' := s1.toks) fun b o e => Heap.get?_push_of_some _ e
  rw [hw]
  refine wpAny_bind (wpAny_pure ?_)
  show wpAny (model X.prog X.w) X.A (do rule "assign.swapped-stores"; let items ← unpackItems (.ref s1.heap.objs.size) 2 none; assignInOrder [fun v => bindName X.env y v, fun v => bindName X.env x v] items.reverse; pure Flow.next) _ _ _
  refine wpAny_bind (wpAny_rule (wpAny_bind (unpackItems_tuple (items := #[u1, u2]) (I.ok.hd hc) (IsTup.new s1.heap _) fun h' hx' => ?_)))
  have I3 := I2.kept (h' := h') (t' := s1.toks) fun b o e => hx' b o (Nat.ne_of_lt (Heap.lt_size e)) e
  show wpAny _ _ (assignInOrder [fun v => bindName X.env y v, fun v => bindName X.env x v] [u2, u1] >>= fun _ => pure Flow.next) _ _ _
  refine wpAny_bind (assignInOrder_cons (wpAny_bindName (store_ok I3 hN hj (.inl hy) rw' (fun s2 I4 => ?_) (.inr hy))))
  refine assignInOrder_cons (wpAny_bindName (store_ok I4 hN hi (.inl hx) rv (fun s3 I5 => assignInOrder_nil (wpAny_pure ?_)) (.inr hx)))
  rw [List.set_comm _ _ (Ne.symm hij)] at I5
  exact ⟨_, H1, I5, q1⟩
end

/-! ### while -/
section
variable {X : Cx} {pos : Pos}
/-- the invariant W with its measure -/
noncomputable def tWhile (c : TT) (tb : TS) : TS := fun D σ H => ∃ W : Nat → St → Hp → Prop, (∃ m, W m σ H) ∧ ∀ m σ H, W m σ H →
  c σ H fun b H1 => if b = true then ∃ N : St → Hp → Prop, (∀ σ' H', N σ' H' → ∃ m', m' < m ∧ W m' σ' H') ∧ tb { D with nx := N, ct := N, bk := D.nx } σ H1 else D.nx σ H1
theorem ps_while {c : Expr} {body : List Stmt} {tc : TT} {tb : TS} (hp : PassesOwn (model X.prog X.w) X.A X.env X.xe) (hc : PT X c tc) (hb : PSs X body tb) : PS X (.While c body [] pos) (tWhile tc tb) := by
  intro pins s σ H D I h
  obtain ⟨W, ⟨m0, w0⟩, turn⟩ := h
  refine wpAny_While (codeAny_whileLoop (fun n s' => ∃ σ' H', Inv X pins σ' H' s' ∧ W n σ' H') ?_ m0 ⟨σ, H, I, w0⟩)
  rintro n s1 ⟨σ1, H1, I1, w1⟩
  refine wpAny_passesOwn hp (thn (hc pins s1 σ1 H1 _ I1 (turn n σ1 H1 w1)) fun b s2 ⟨H2, I2, q2⟩ => ?_)
  cases b with
  | true =>
    obtain ⟨N, hN, q2⟩ := q2
    rw [if_pos rfl]
    refine wpAny_passesOwn hp (thn (hb pins s2 σ1 H2 _ I2 q2) fun f s3 q3 => ?_)
    cases f with
    | next =>
      obtain ⟨σ3, H3, I3, n3⟩ := q3
      obtain ⟨m', hm, w3⟩ := hN σ3 H3 n3
      exact ⟨m', hm, σ3, H3, I3, w3⟩
    | cont =>
      obtain ⟨σ3, H3, I3, n3⟩ := q3
      obtain ⟨m', hm, w3⟩ := hN σ3 H3 n3
      exact ⟨m', hm, σ3, H3, I3, w3⟩
    | brk => exact q3
    | ret v => exact q3
  | false =>
    rw [if_neg Bool.false_ne_true]
    exact wpAny_execs_nil ⟨σ1, H2, I2, q2⟩
end

/-! ### what a loop or a comprehension walks -/
/-- at turn i: it yields x (the heap may grow), or it stops -/
structure It where
  go : Nat → Hp → Prop
  yld : Nat → Hp → V → Hp → Prop
  stop : Nat → Hp → Prop
/-- the iterator's own objects may turn: they are not the frame's, not pinned, younger than the entry (or a comprehension's own) -/
noncomputable def FpOk (X : Cx) (pins : List (Addr × Obj)) (H : Hp) (b : Addr) : Prop :=
  H b = none ∧ b ≠ X.env.locals ∧ b ∉ X.fs ∧ (b ∈ X.ex ∨ X.s₀.heap.objs.size ≤ b) ∧ (∀ x c, X.env.cells.lookup x = some c → c ≠ b) ∧ ∀ p ∈ X.pn ++ pins, p.1 ≠ b
theorem Inv.fpOk {X : Cx} {pins : List (Addr × Obj)} {σ : St} {H H' : Hp} {s : Shared} {b : Addr} (I : Inv X pins σ H s) (hb : s.heap.objs.size ≤ b) (hn : H' b = none) : FpOk X pins H' b := by
  refine ⟨hn, Nat.ne_of_gt (Nat.lt_of_lt_of_le I.lt hb), I.nofs hb, .inr (Nat.le_trans I.sz hb), fun x c e z => ?_, fun p hp z => ?_⟩
  · obtain ⟨v, q⟩ := I.cell x c e
    exact absurd (Nat.lt_of_lt_of_le q.lt (by rw [z]; exact hb)) (Nat.lt_irrefl _)
  · exact absurd (Nat.lt_of_lt_of_le (Heap.lt_size (I.pin p hp).1) (by rw [z]; exact hb)) (Nat.lt_irrefl _)
structure Turn (P : Program) (w : World) (K : PySem.W.Frag) (tg : Expr) (J : It) (fp : List Addr) (it : Addr) (tn : Nat → Heap → Prop) : Prop where
  mem : it ∈ fp
  obj : ∀ i h, tn i h → ∀ b ∈ fp, ∃ o, h.get? b = some o ∧ ∀ v, o.data ≠ .cell v
  keep : ∀ i h h', tn i h → (∀ b ∈ fp, ∀ o, h.get? b = some o → h'.get? b = some o) → tn i h'
  item : ∀ (X : Cx), X.prog = P → X.w = w → X.K = K → X.calm = true → ∀ (i : Nat) (pins : List (Addr × Obj)) (s : Shared) (σ : St) (H : Hp) (E : Value → Shared → Prop), Inv X pins σ H s → (∀ b ∈ fp, FpOk X pins H b) → tn i s.heap → J.go i H →
    wpAny (model P w) X.A (pyNext (.ref it)) (fun r s1 => ∃ u, r = some u ∧
      wpAny (model P w) X.A (letOwnedTupleGo tg (.ref it) u) (fun _ s2 => ∃ x H', Inv X pins σ H' s2 ∧ RelV x u ∧ J.yld i H x H' ∧ tn (i + 1) s2.heap ∧ ∀ b ∈ fp, H' b = none) E s1) E s
  done : ∀ (X : Cx), X.prog = P → X.w = w → X.K = K → X.calm = true → ∀ (i : Nat) (pins : List (Addr × Obj)) (s : Shared) (σ : St) (H : Hp) (E : Value → Shared → Prop), Inv X pins σ H s → (∀ b ∈ fp, FpOk X pins H b) → tn i s.heap → J.stop i H →
    wpAny (model P w) X.A (pyNext (.ref it)) (fun r s1 => r = none ∧ Inv X pins σ H s1) E s
  self : ∀ (A : Around) (i : Nat) (s : Shared) (Q : Value → Shared → Prop) (E : Value → Shared → Prop), tn i s.heap → Q (.ref it) s → wpAny (model P w) A (pyIter (.ref it)) Q E s
noncomputable abbrev TI := St → Hp → (It → Hp → Prop) → Prop
/-- an iterator has come -/
noncomputable def PIE (X : Cx) (pins : List (Addr × Obj)) (σ : St) (tg : Expr) (R : It → Hp → Prop) (itv : Value) (s2 : Shared) : Prop :=
  ∃ (it : Addr) (fp : List Addr) (tn : Nat → Heap → Prop) (J : It) (H' : Hp), itv = .ref it ∧ Inv X pins σ H' s2 ∧ Turn X.prog X.w X.K tg J fp it tn ∧ tn 0 s2.heap ∧ (∀ b ∈ fp, FpOk X pins H' b) ∧ R J H'
noncomputable def PI (X : Cx) (tg iter : Expr) (wi : TI) : Prop :=
  ∀ (pins : List (Addr × Obj)) (s : Shared) (σ : St) (H : Hp) (R : It → Hp → Prop), Inv X pins σ H s → wi σ H R →
    wpAny (model X.prog X.w) X.A (eval iter X.env) (fun v s1 => wpAny (model X.prog X.w) X.A (pyIter v) (PIE X pins σ tg R) X.xe s1) X.xe s

/-- the step ahead of the store is nothing for an iterator that keeps no tuple -/
theorem go_of {M : Model} {A : Around} {E : Value → Shared → Prop} {s : Shared} {tg : Expr} {it : Addr} {u : Value} {o : Obj} {n : String} {vs : Array Value} {Q : Unit → Shared → Prop} (ho : s.heap.get? it = some o) (hc : o.cls = .type n) (hd : o.data = .fields vs)
    (hn : ["enumerate", "zip", "dict_itemiterator", "dict_reverseitemiterator", "odict_iterator", "itertools.zip_longest", "itertools.pairwise"].contains n = false) (hQ : Q () s) : wpAny M A (letOwnedTupleGo tg (.ref it) u) Q E s := by
  unfold letOwnedTupleGo
  cases tg <;> first
    | exact wpAny_pure hQ
    | (cases u <;> first
        | exact wpAny_pure hQ
        | (refine wpAny_bind (wpAny_load ho ?_)
           rw [hc, hd]
           show wpAny M A (if (["enumerate", "zip", "dict_itemiterator", "dict_reverseitemiterator", "odict_iterator", "itertools.zip_longest", "itertools.pairwise"].contains n && vs[0]? == some (rawInt _)) = true then _ else _) Q E s
           rw [if_neg (by intro h; rw [hn, Bool.false_and] at h; cases h)]
           exact wpAny_pure hQ))

/-- the list at a, as it stands at each turn (a loop may append to it) -/
noncomputable def Itl (K : PySem.W.Frag) (a : Addr) : It :=
  ⟨fun i H => ∃ xs x, SqL K H a xs ∧ xs[i]? = some x, fun i H x H' => H' = H ∧ ∀ xs, SqL K H a xs → xs[i]? = some x, fun i H => ∃ xs, SqL K H a xs ∧ xs.length ≤ i⟩
noncomputable def Itt (K : PySem.W.Frag) (a : Addr) : It :=
  ⟨fun i H => ∃ xs x, SqT K H a xs ∧ xs[i]? = some x, fun i H x H' => H' = H ∧ ∀ xs, SqT K H a xs → xs[i]? = some x, fun i H => ∃ xs, SqT K H a xs ∧ xs.length ≤ i⟩
/-- lo, lo + 1, .. (n of them) -/
noncomputable def Itr (lo : Int) (n : Nat) : It := ⟨fun i _ => i < n, fun i H x H' => H' = H ∧ x = .int (lo + i), fun i _ => n ≤ i⟩
theorem turn_list {P : Program} {w : World} {K : PySem.W.Frag} {tg : Expr} (a it : Addr) : Turn P w K tg (Itl K a) [it] it (fun i h => h.IsListIter it a i) where
  mem := by simp
  obj := fun i h st b hb => by
    have e : b = it := by simpa using hb
    subst e
    obtain ⟨o, e, c, d⟩ := st
    exact ⟨o, e, fun v z => by rw [d] at z; cases z⟩
  keep := fun i h h' st k => st.at fun o e => k it (by simp) o e
  item := by
    intro X hP hw hK hc i pins s σ H E I hf st hg
    subst hP hw hK
    obtain ⟨xs, x, hq, hx⟩ := hg
    obtain ⟨its, rv, p, hz⟩ := I.list hq
    obtain ⟨u, hu, ru⟩ := rv.get hx
    obtain ⟨f0, f1, f2, f3, f4, f5⟩ := hf it (by simp)
    refine wpAny_pyNext_list_item st p.isList (x := u) (by simpa using hu) fun h' st' sb => ?_
    have I1 : Inv X pins σ H { s with heap := h' } := I.turned (t' := s.toks) (fun b o hb e => (sb.2 b hb).trans e) f0 f1 f3 f4 f5
    obtain ⟨o, e, c, d⟩ := id st'
    exact ⟨u, rfl, go_of (s := { s with heap := h' }) e c d (by decide) ⟨x, H, I1, ru, ⟨rfl, fun ys hy => by rw [I.list_inj hy hq]; exact hx⟩, st', fun b hb => (hf b hb).1⟩⟩
  done := by
    intro X hP hw hK hc i pins s σ H E I hf st hg
    subst hP hw hK
    obtain ⟨xs, hq, hx⟩ := hg
    obtain ⟨its, rv, p, hz⟩ := I.list hq
    obtain ⟨f0, f1, f2, f3, f4, f5⟩ := hf it (by simp)
    have hl := rv.length
    exact wpAny_pyNext_list_end (I.ok.hd hc) st p.isList (by simp; omega) fun h' eb => ⟨rfl, I.turned (t' := s.toks) (fun b o hb e => eb b o hb e) f0 f1 f3 f4 f5⟩
  self := fun _ _ _ _ _ st h => wpAny_pyIter_listiter st h
theorem turn_tuple {P : Program} {w : World} {K : PySem.W.Frag} {tg : Expr} (a it : Addr) : Turn P w K tg (Itt K a) [it] it (fun i h => h.IsTupleIter it a i) where
  mem := by simp
  obj := fun i h st b hb => by
    have e : b = it := by simpa using hb
    subst e
    obtain ⟨o, e, c, d⟩ := st
    exact ⟨o, e, fun v z => by rw [d] at z; cases z⟩
  keep := fun i h h' st k => st.at fun o e => k it (by simp) o e
  item := by
    intro X hP hw hK hc i pins s σ H E I hf st hg
    subst hP hw hK
    obtain ⟨xs, x, hq, hx⟩ := hg
    obtain ⟨its, rv, p, hz⟩ := I.tuple hq
    obtain ⟨u, hu, ru⟩ := rv.get hx
    obtain ⟨f0, f1, f2, f3, f4, f5⟩ := hf it (by simp)
    refine wpAny_pyNext_tuple_item st (show s.heap.IsTuple a its.toArray from p) (x := u) (by simpa using hu) fun h' st' sb => ?_
    have I1 : Inv X pins σ H { s with heap := h' } := I.turned (t' := s.toks) (fun b o hb e => (sb.2 b hb).trans e) f0 f1 f3 f4 f5
    obtain ⟨o, e, c, d⟩ := id st'
    exact ⟨u, rfl, go_of (s := { s with heap := h' }) e c d (by decide) ⟨x, H, I1, ru, ⟨rfl, fun ys hy => by rw [I.tuple_inj hy hq]; exact hx⟩, st', fun b hb => (hf b hb).1⟩⟩
  done := by
    intro X hP hw hK hc i pins s σ H E I hf st hg
    subst hP hw hK
    obtain ⟨xs, hq, hx⟩ := hg
    obtain ⟨its, rv, p, hz⟩ := I.tuple hq
    obtain ⟨f0, f1, f2, f3, f4, f5⟩ := hf it (by simp)
    have hl := rv.length
    exact wpAny_pyNext_tuple_end (I.ok.hd hc) st (show s.heap.IsTuple a its.toArray from p) (by simp; omega) fun h' eb => ⟨rfl, I.turned (t' := s.toks) (fun b o hb e => eb b o hb e) f0 f1 f3 f4 f5⟩
  self := fun _ _ _ _ _ st h => wpAny_pyIter_tupleiter st h
theorem turn_range {P : Program} {w : World} {K : PySem.W.Frag} {tg : Expr} (it : Addr) (lo : Int) (n : Nat) : Turn P w K tg (Itr lo n) [it] it (fun i h => IsRangeIter h it (lo + (i : Nat) * 1) ((n : Int) - (i : Nat)) 1) where
  mem := by simp
  obj := fun i h st b hb => by
    have e : b = it := by simpa using hb
    subst e
    exact ⟨_, st, fun v z => by
      have z' : Data.fields _ = Data.cell v := z
      cases z'⟩
  keep := fun i h h' st k => k it (by simp) _ st
  item := by
    intro X hP hw hK hc i pins s σ H E I hf st hg
    subst hP hw hK
    obtain ⟨f0, f1, f2, f3, f4, f5⟩ := hf it (by simp)
    have W := Walks.range (prog := X.prog) (w := X.w) (I.ok.hd hc) it lo 1 n
    refine W.item i s _ _ hg st fun v h' tk hv st' kk => ?_
    obtain ⟨t, rfl⟩ := hv
    have I1 : Inv X pins σ H { s with heap := h', toks := tk } := I.turned (fun b o hb e => kk b o (by simpa using hb) e) f0 f1 f3 f4 f5
    refine ⟨_, rfl, go_of (s := { s with heap := h', toks := tk }) (n := "range_iterator") st' rfl rfl (by decide) ⟨.int (lo + i), H, I1, ⟨t, ?_⟩, ⟨rfl, rfl⟩, st', fun b hb => (hf b hb).1⟩⟩
    rw [Int.mul_one]
  done := by
    intro X hP hw hK hc i pins s σ H E I hf st hg
    subst hP hw hK
    obtain ⟨f0, f1, f2, f3, f4, f5⟩ := hf it (by simp)
    exact wpAny_pyNext_range_end (I.ok.hd hc) st (by have : n ≤ i := hg; omega) fun h' eb => ⟨rfl, I.turned (t' := s.toks) (fun b o hb e => eb b o hb e) f0 f1 f3 f4 f5⟩
  self := fun _ _ _ _ _ st h => wpAny_pyIter_rangeiter st h
end L2

namespace L2
open PySem PySem.Spec PyProof.Rows
section
variable {X : Cx} {tg : Expr}
noncomputable def iList (K : PySem.W.Frag) (tl : TE) : TI := fun σ H R => tl σ H fun x H1 => ∃ a, x = .ref a ∧ (∃ xs, SqL K H1 a xs) ∧ R (Itl K a) H1
noncomputable def iTup (K : PySem.W.Frag) (tl : TE) : TI := fun σ H R => tl σ H fun x H1 => ∃ a, x = .ref a ∧ (∃ xs, SqT K H1 a xs) ∧ R (Itt K a) H1
theorem pi_list {l : Expr} {tl : TE} (hl : PE X l tl) : PI X tg l (iList X.K tl) := by
  intro pins s σ H R I h
  refine thn (hl pins s σ H _ I h) fun v s1 ⟨x, H1, I1, r1, q1⟩ => ?_
  obtain ⟨a, e, ⟨xs, hq⟩, q⟩ := q1
  subst e
  cases r1
  obtain ⟨its, rv, p, hz⟩ := I1.list hq
  refine wpAny_pyIter_list p.isList ?_
  refine ⟨s1.heap.objs.size, [s1.heap.objs.size], _, _, H1, rfl, I1.kept (t' := s1.toks) fun b o e => Heap.get?_push_of_some _ e, turn_list a _, ⟨_, Heap.get?_push_size _ rfl, rfl, rfl⟩, fun b hb => ?_, q⟩
  have e : b = s1.heap.objs.size := by simpa using hb
  subst e
  exact I1.fpOk (Nat.le_refl _) (I1.hok.fresh (Nat.le_refl _))
theorem pi_tup {l : Expr} {tl : TE} (hl : PE X l tl) : PI X tg l (iTup X.K tl) := by
  intro pins s σ H R I h
  refine thn (hl pins s σ H _ I h) fun v s1 ⟨x, H1, I1, r1, q1⟩ => ?_
  obtain ⟨a, e, ⟨xs, hq⟩, q⟩ := q1
  subst e
  cases r1
  obtain ⟨its, rv, p, hz⟩ := I1.tuple hq
  refine wpAny_pyIter_tuple (show s1.heap.IsTuple a its.toArray from p) ?_
  refine ⟨s1.heap.objs.size, [s1.heap.objs.size], _, _, H1, rfl, I1.kept (t' := s1.toks) fun b o e => Heap.get?_push_of_some _ e, turn_tuple a _, ⟨_, Heap.get?_push_size _ rfl, rfl, rfl⟩, fun b hb => ?_, q⟩
  have e : b = s1.heap.objs.size := by simpa using hb
  subst e
  exact I1.fpOk (Nat.le_refl _) (I1.hok.fresh (Nat.le_refl _))
/-- a range object just made, walked -/
theorem range_it {pins : List (Addr × Obj)} {σ : St} {H : Hp} {s : Shared} {R : It → Hp → Prop} {E : Value → Shared → Prop} {lo hi : Int} {t u v : Tok} {tk : Nat} (I : Inv X pins σ H s) (h1 : -(2 ^ 62) ≤ lo) (h2 : lo < 2 ^ 62) (h3 : -(2 ^ 62) ≤ hi) (h4 : hi < 2 ^ 62)
    (q : R (Itr lo (hi - lo).toNat) H) : wpAny (model X.prog X.w) X.A (pyIter (.ref s.heap.objs.size)) (PIE X pins σ tg R) E { s with heap := s.heap.push { cls := .type "range", data := .fields #[.int lo t, .int hi u, .int 1 v] }, toks := tk } := by
  refine wpAny_pyIter_range (IsRange.new ..) (small_one h1 h2 h3 h4) ?_
  have I1 : Inv X pins σ H { s with heap := s.heap.push { cls := .type "range", data := .fields #[.int lo t, .int hi u, .int 1 v] }, toks := tk } := I.kept fun b o e => Heap.get?_push_of_some _ e
  refine ⟨(s.heap.push { cls := .type "range", data := .fields #[.int lo t, .int hi u, .int 1 v] }).objs.size, [(s.heap.push { cls := .type "range", data := .fields #[.int lo t, .int hi u, .int 1 v] }).objs.size], _, _, H, rfl,
    I1.kept (t' := tk) fun b o e => Heap.get?_push_of_some _ e, turn_range _ lo (hi - lo).toNat, ?_, fun b hb => ?_, q⟩
  · have e1 : lo + ((0 : Nat) : Int) * 1 = lo := by simp
    have e2 : (((hi - lo).toNat : Nat) : Int) - ((0 : Nat) : Int) = Builtin.Range.rangeSize lo hi 1 := by rw [rangeSize_one]; split <;> omega
    show IsRangeIter _ _ (lo + ((0 : Nat) : Int) * 1) ((((hi - lo).toNat : Nat) : Int) - ((0 : Nat) : Int)) 1
    rw [e1, e2]
    exact Heap.get?_push_size _ rfl
  · have e : b = (s.heap.push { cls := .type "range", data := .fields #[.int lo t, .int hi u, .int 1 v] }).objs.size := by simpa using hb
    subst e
    exact I1.fpOk (Nat.le_refl _) (I1.hok.fresh (Nat.le_refl _))
noncomputable def iRng1 (ta : TA) : TI := fun σ H R => ta σ H fun vs H1 => ∃ j : Int, vs = [.int j] ∧ -(2 ^ 62) ≤ j ∧ j < 2 ^ 62 ∧ R (Itr 0 j.toNat) H1
noncomputable def iRng2 (ta : TA) : TI := fun σ H R => ta σ H fun vs H1 => ∃ i j : Int, vs = [.int i, .int j] ∧ (-(2 ^ 62) ≤ i ∧ i < 2 ^ 62 ∧ -(2 ^ 62) ≤ j ∧ j < 2 ^ 62) ∧ R (Itr i (j - i).toNat) H1
theorem pi_range1 {a : Expr} {ta : TA} {p pos : Pos} (hg : Gl X "range") (hm : X.mg "range" = none) (ha : PA X [a] ta) (hs : starEach [a] X.env = [(false, eval a X.env)] := by rfl) : PI X tg (.Call (.Name "range" p) [a] [] pos) (iRng1 ta) := by
  intro pins s σ H R I h
  refine Call_ (ld_blt I hg hm boot_range (PyProof.Rows.callWith_type1 (thn (ha pos pins s σ H _ I h) fun us s1 ⟨vs, H1, I1, r1, q1⟩ => ?_) hs rfl))
  obtain ⟨j, e, q1, q2, q⟩ := q1
  subst e
  cases r1 with
  | cons r rr =>
    cases rr
    obtain ⟨t, rfl⟩ := r
    exact call_range_1 (range_it I1 (by omega) (by omega) q1 q2 (by simpa using q))
theorem pi_range2 {a b : Expr} {ta : TA} {p pos : Pos} (hg : Gl X "range") (hm : X.mg "range" = none) (ha : PA X [a, b] ta) (hs : starEach [a, b] X.env = [(false, eval a X.env), (false, eval b X.env)] := by rfl) (hs2 : starEach [b] X.env = [(false, eval b X.env)] := by rfl) :
    PI X tg (.Call (.Name "range" p) [a, b] [] pos) (iRng2 ta) := by
  intro pins s σ H R I h
  refine Call_ (ld_blt I hg hm boot_range (PyProof.Rows.callWith_type1 (thn (ha pos pins s σ H _ I h) fun us s1 ⟨vs, H1, I1, r1, q1⟩ => ?_) (by rw [hs, hs2]) (by rw [hs2]; rfl)))
  obtain ⟨i, j, e, ⟨q1, q2, q3, q4⟩, q⟩ := q1
  subst e
  cases r1 with
  | cons r rr =>
    cases rr with
    | cons r' rr =>
      cases rr
      obtain ⟨t, rfl⟩ := r
      obtain ⟨t', rfl⟩ := r'
      exact call_range_2 (range_it I1 q1 q2 q3 q4 q)

/-! ### for -/
/-- W: the invariant by the turn and a measure; N: what the body is to reach -/
noncomputable def tFor (wi : TI) (g : TG) (tb : TS) : TS := fun D σ H => wi σ H fun J H1 => ∃ W : Nat → Nat → St → Hp → Prop, (∃ m, W 0 m σ H1) ∧ ∀ i m σ H, W i m σ H →
  (J.stop i H ∧ D.nx σ H) ∨ (J.go i H ∧ ∃ N : St → Hp → Prop, (∀ σ' H', N σ' H' → ∃ m', m' < m ∧ W (i + 1) m' σ' H') ∧ ∀ x H', J.yld i H x H' → g x σ H' fun σ2 H2 => tb { D with nx := N, ct := N, bk := D.nx } σ2 H2)
/-- the records at fp as they stand -/
noncomputable def pinsAt (fp : List Addr) (h : Heap) : List (Addr × Obj) := fp.filterMap fun b => (h.get? b).map fun o => (b, o)
theorem mem_pinsAt {fp : List Addr} {h : Heap} {b : Addr} {o : Obj} (hb : b ∈ fp) (e : h.get? b = some o) : (b, o) ∈ pinsAt fp h := List.mem_filterMap.mpr ⟨b, hb, by rw [e]; rfl⟩
theorem of_pinsAt {fp : List Addr} {h : Heap} {p : Addr × Obj} (hp : p ∈ pinsAt fp h) : p.1 ∈ fp ∧ h.get? p.1 = some p.2 := by
  obtain ⟨b, hb, e⟩ := List.mem_filterMap.mp hp
  cases q : h.get? b with
  | none => rw [q] at e; cases e
  | some o =>
    rw [q] at e
    have e' : (b, o) = p := Option.some.inj e
    subst e'
    exact ⟨hb, q⟩
theorem Inv.pinned {pins : List (Addr × Obj)} {σ : St} {H : Hp} {s : Shared} {fp : List Addr} (I : Inv X pins σ H s) (hf : ∀ b ∈ fp, FpOk X pins H b) (ho : ∀ b ∈ fp, ∃ o, s.heap.get? b = some o ∧ ∀ v, o.data ≠ .cell v) : Inv X (pins ++ pinsAt fp s.heap) σ H s :=
  I.pins_of fun p hp => (List.mem_append.mp hp).elim (fun z => I.pin p (List.mem_append_right _ z)) fun z => by
    obtain ⟨hb, e⟩ := of_pinsAt z
    obtain ⟨f0, f1, f2, _⟩ := hf p.1 hb
    obtain ⟨o, e', d⟩ := ho p.1 hb
    rw [e] at e'; cases e'
    exact ⟨e, f0, f1, f2, d⟩
theorem Inv.unpinned {pins pl : List (Addr × Obj)} {σ : St} {H : Hp} {s : Shared} (I : Inv X (pins ++ pl) σ H s) : Inv X pins σ H s := I.pins_of fun p hp => I.pin p (List.mem_append_right _ (List.mem_append_left _ hp))
theorem ps_for {iter : Expr} {body : List Stmt} {wi : TI} {g : TG} {tb : TS} {pos : Pos} (hp : PassesOwn (model X.prog X.w) X.A X.env X.xe) (hc : X.calm = true) (hi : PI X tg iter wi) (hg : PG X tg g) (hb : PSs X body tb)
    (hs : ∀ x, foldedSetIterable iter X.env x = pure x := by intro _; rfl) : PS X (.For tg iter body [] pos) (tFor wi g tb) := by
  intro pins s σ H D I h
  refine wpAny_For (thn (hi pins s σ H _ I h) fun v s1 h1 => thn h1 fun itv s2 h2 => ?_) hs
  obtain ⟨it, fp, tn, J, H2, e, I2, T, st2, f2, W, ⟨m0, w0⟩, turn⟩ := h2
  subst e
  -- what stays true of the iterator's objects through the loop
  have stat : ∀ {H' : Hp}, (∀ b ∈ fp, H' b = none) → ∀ b ∈ fp, FpOk X pins H' b := fun hn b hb => ⟨hn b hb, (f2 b hb).2⟩
  refine codeAny_forLoop_any (fun n s' => ∃ i σ' H', Inv X pins σ' H' s' ∧ tn i s'.heap ∧ (∀ b ∈ fp, H' b = none) ∧ W i n σ' H') ?_ m0 ⟨0, σ, H2, I2, st2, fun b hb => (f2 b hb).1, w0⟩
  rintro n s3 ⟨i, σ3, H3, I3, st3, fr3, w3⟩
  rcases turn i n σ3 H3 w3 with ⟨stop, qn⟩ | ⟨go, N, hN, step⟩
  · refine wpAny_passesOwn hp (thn (T.done X rfl rfl rfl hc i pins s3 σ3 H3 X.xe I3 (stat fr3) st3 stop) fun r s4 ⟨hr, I4⟩ => ?_)
    subst hr
    exact wpAny_execs_nil ⟨σ3, H3, I4, qn⟩
  · refine wpAny_passesOwn hp (thn (T.item X rfl rfl rfl hc i pins s3 σ3 H3 X.xe I3 (stat fr3) st3 go) fun r s4 ⟨u, hr, h4⟩ => ?_)
    subst hr
    refine wpAny_passesOwn hp (thn h4 fun _ s5 ⟨x, H5, I5, r5, y5, st5, fr5⟩ => ?_)
    have I5' := I5.pinned (stat fr5) (T.obj _ _ st5)
    refine wpAny_passesOwn hp (thn (hg _ s5 σ3 H5 x u _ I5' r5 (step x H5 y5)) fun _ s6 ⟨σ6, H6, I6, q6⟩ => ?_)
    refine wpAny_passesOwn hp (thn (hb _ s6 σ6 H6 _ I6 q6) fun f s7 q7 => ?_)
    have again : ∀ {σ7 : St} {H7 : Hp}, Inv X (pins ++ pinsAt fp s5.heap) σ7 H7 s7 → N σ7 H7 → ∃ m, m < n ∧ ∃ i σ' H', Inv X pins σ' H' s7 ∧ tn i s7.heap ∧ (∀ b ∈ fp, H' b = none) ∧ W i m σ' H' := fun {σ7 H7} I7 n7 => by
      obtain ⟨m', hm, w7⟩ := hN σ7 H7 n7
      refine ⟨m', hm, i + 1, σ7, H7, I7.unpinned, T.keep _ _ _ st5 fun b hb o e => (I7.pin (b, o) (List.mem_append_right _ (List.mem_append_right _ (mem_pinsAt hb e)))).1, fun b hb => ?_, w7⟩
      obtain ⟨o, e, d⟩ := T.obj _ _ st5 b hb
      exact (I7.pin (b, o) (List.mem_append_right _ (List.mem_append_right _ (mem_pinsAt hb e)))).2.1
    cases f with
    | next => obtain ⟨σ7, H7, I7, n7⟩ := q7; exact again I7 n7
    | cont => obtain ⟨σ7, H7, I7, n7⟩ := q7; exact again I7 n7
    | brk => obtain ⟨σ7, H7, I7, q7⟩ := q7; exact ⟨σ7, H7, I7.unpinned, q7⟩
    | ret v => obtain ⟨x7, σ7, H7, I7, r7, q7⟩ := q7; exact ⟨x7, σ7, H7, I7.unpinned, r7, q7⟩
end

/-! ### the forms one uses -/
/-- over a list that the body leaves as it is -/
theorem for_list {K : PySem.W.Frag} {a : Addr} {xs : List V} {g : TG} {tb : TS} {D : Ends} {σ : St} {H : Hp} (Pv : Nat → St → Hp → Prop) (h0 : Pv 0 σ H) (hl : ∀ i σ H, i ≤ xs.length → Pv i σ H → SqL K H a xs)
    (hs : ∀ i x σ H, xs[i]? = some x → Pv i σ H → g x σ H fun σ2 H2 => tb { D with nx := Pv (i + 1), ct := Pv (i + 1), bk := D.nx } σ2 H2) (hd : ∀ σ H, Pv xs.length σ H → D.nx σ H) :
    ∃ W : Nat → Nat → St → Hp → Prop, (∃ m, W 0 m σ H) ∧ ∀ i m σ H, W i m σ H →
      ((Itl K a).stop i H ∧ D.nx σ H) ∨ ((Itl K a).go i H ∧ ∃ N : St → Hp → Prop, (∀ σ' H', N σ' H' → ∃ m', m' < m ∧ W (i + 1) m' σ' H') ∧ ∀ x H', (Itl K a).yld i H x H' → g x σ H' fun σ2 H2 => tb { D with nx := N, ct := N, bk := D.nx } σ2 H2) := by
  refine ⟨fun i m σ H => m = xs.length - i ∧ i ≤ xs.length ∧ Pv i σ H, ⟨xs.length, by simp, Nat.zero_le _, h0⟩, ?_⟩
  rintro i m σ H ⟨rfl, hi, p⟩
  have q := hl i σ H hi p
  by_cases hlt : i < xs.length
  · refine .inr ⟨⟨xs, xs[i], q, by simp [hlt]⟩, Pv (i + 1), fun σ' H' p' => ⟨xs.length - (i + 1), by omega, rfl, hlt, p'⟩, fun x H' y => ?_⟩
    obtain ⟨e, y⟩ := y
    subst e
    exact hs i x σ _ (y xs q) p
  · have e : i = xs.length := by omega
    subst e
    exact .inl ⟨⟨xs, q, Nat.le_refl _⟩, hd σ H p⟩
theorem for_range {lo : Int} {n : Nat} {g : TG} {tb : TS} {D : Ends} {σ : St} {H : Hp} (Pv : Nat → St → Hp → Prop) (h0 : Pv 0 σ H)
    (hs : ∀ i σ H, i < n → Pv i σ H → g (.int (lo + i)) σ H fun σ2 H2 => tb { D with nx := Pv (i + 1), ct := Pv (i + 1), bk := D.nx } σ2 H2) (hd : ∀ σ H, Pv n σ H → D.nx σ H) :
    ∃ W : Nat → Nat → St → Hp → Prop, (∃ m, W 0 m σ H) ∧ ∀ i m σ H, W i m σ H →
      ((Itr lo n).stop i H ∧ D.nx σ H) ∨ ((Itr lo n).go i H ∧ ∃ N : St → Hp → Prop, (∀ σ' H', N σ' H' → ∃ m', m' < m ∧ W (i + 1) m' σ' H') ∧ ∀ x H', (Itr lo n).yld i H x H' → g x σ H' fun σ2 H2 => tb { D with nx := N, ct := N, bk := D.nx } σ2 H2) := by
  refine ⟨fun i m σ H => m = n - i ∧ i ≤ n ∧ Pv i σ H, ⟨n, by simp, Nat.zero_le _, h0⟩, ?_⟩
  rintro i m σ H ⟨rfl, hi, p⟩
  by_cases hlt : i < n
  · refine .inr ⟨hlt, Pv (i + 1), fun σ' H' p' => ⟨n - (i + 1), by omega, rfl, hlt, p'⟩, fun x H' y => ?_⟩
    obtain ⟨e, y⟩ := y
    subst e y
    exact hs i σ _ hlt p
  · have e : i = n := by omega
    subst e
    exact .inl ⟨Nat.le_refl _, hd σ H p⟩
/-- while, by a word and a measure of the state -/
theorem while_by {c : TT} {tb : TS} {D : Ends} {σ : St} {H : Hp} (Pv : St → Hp → Prop) (μ : St → Hp → Nat) (h0 : Pv σ H)
    (hs : ∀ σ H, Pv σ H → c σ H fun b H1 => if b = true then tb { D with nx := fun σ' H' => Pv σ' H' ∧ μ σ' H' < μ σ H, ct := fun σ' H' => Pv σ' H' ∧ μ σ' H' < μ σ H, bk := D.nx } σ H1 else D.nx σ H1)
    (mono : ∀ σ H Q Q', (∀ b H1, Q b H1 → Q' b H1) → c σ H Q → c σ H Q') : tWhile c tb D σ H := by
  refine ⟨fun m σ H => m = μ σ H ∧ Pv σ H, ⟨_, rfl, h0⟩, ?_⟩
  rintro m σ H ⟨rfl, p⟩
  refine mono σ H _ _ (fun b H1 q => ?_) (hs σ H p)
  cases b with
  | true => exact ⟨_, fun σ' H' ⟨p', l⟩ => ⟨_, l, rfl, p'⟩, q⟩
  | false => exact q
end L2

namespace L2
open PySem PySem.Spec PyProof.Rows

noncomputable abbrev R2 := V → V → Hp → VK → Prop
/-- a two-place operation on values: f is binaryOp op, inplaceOp op or compareOp op -/
noncomputable def OpR (X : Cx) (f : Value → Value → Sem Value) (r : R2) : Prop :=
  ∀ (pins : List (Addr × Obj)) (s : Shared) (σ : St) (H : Hp) (x y : V) (v u : Value) (Q : VK), Inv X pins σ H s → RelV x v → RelV y u → r x y H Q →
    wpAny (model X.prog X.w) X.A (f v u) (EP X pins σ Q) X.xe s
/-- a one-place operation -/
noncomputable def UnR (X : Cx) (f : Value → Sem Value) (r : V → Hp → VK → Prop) : Prop :=
  ∀ (pins : List (Addr × Obj)) (s : Shared) (σ : St) (H : Hp) (x : V) (v : Value) (Q : VK), Inv X pins σ H s → RelV x v → r x H Q →
    wpAny (model X.prog X.w) X.A (f v) (EP X pins σ Q) X.xe s
/-- a call of a value that is known (a builtin, a type) with values -/
noncomputable def CallR (X : Cx) (f : Value) (r : List V → Hp → VK → Prop) : Prop :=
  ∀ (pins : List (Addr × Obj)) (s : Shared) (σ : St) (H : Hp) (xs : List V) (us : List Value) (Q : VK), Inv X pins σ H s → Vals xs us → r xs H Q →
    wpAny (model X.prog X.w) X.A (call f us) (EP X pins σ Q) X.xe s
/-- a value's truth -/
noncomputable def tOp (r : R2) (ta tb : TE) : TE := fun σ H Q => ta σ H fun x H1 => tb σ H1 fun y H2 => r x y H2 Q
noncomputable def tUn (r : V → Hp → VK → Prop) (ta : TE) : TE := fun σ H Q => ta σ H fun x H1 => r x H1 Q
/-- ints in, under C, and a value out -/
noncomputable def rI (C : Int → Int → Prop) (g : Int → Int → V) : R2 := fun x y H Q => ∃ i j, x = .int i ∧ y = .int j ∧ C i j ∧ Q (g i j) H
noncomputable def rI0 (g : Int → Int → V) : R2 := fun x y H Q => ∃ i j, x = .int i ∧ y = .int j ∧ Q (g i j) H
noncomputable def rU (g : Int → V) : V → Hp → VK → Prop := fun x H Q => ∃ i, x = .int i ∧ Q (g i) H

section
variable {X : Cx} {a b c : Expr} {ta tb tc : TE} {pos : Pos}

theorem binT (ha : PE X a ta) (hb : PE X b tb) {pins : List (Addr × Obj)} {s : Shared} {σ : St} {H : Hp} {R : V → V → Hp → Prop} (I : Inv X pins σ H s)
    (h : ta σ H fun x H1 => tb σ H1 fun y H2 => R x y H2) {Q : Value → Shared → Prop} {f : Value → Value → Sem Value}
    (hf : ∀ v u s2 x y H2, Inv X pins σ H2 s2 → RelV x v → RelV y u → R x y H2 → wpAny (model X.prog X.w) X.A (f v u) Q X.xe s2) :
    wpAny (model X.prog X.w) X.A (eval a X.env) (fun v s₁ => wpAny (model X.prog X.w) X.A (eval b X.env) (fun u s₂ => wpAny (model X.prog X.w) X.A (f v u) Q X.xe s₂) X.xe s₁) X.xe s := by
  refine thn (ha pins s σ H _ I h) fun v s1 ⟨x, H1, I1, r1, q1⟩ => ?_
  refine thn (hb pins s1 σ H1 _ I1 q1) fun u s2 ⟨y, H2, I2, r2, q2⟩ => ?_
  exact hf v u s2 x y H2 I2 r1 r2 q2

theorem pe_op {op : Operator} {r : R2} (ho : OpR X (binaryOp op) r) (ha : PE X a ta) (hb : PE X b tb) : PE X (.BinOp a op b pos) (tOp r ta tb) := by
  intro pins s σ H Q I h
  exact wpAny_BinOp (binT ha hb I h fun v u s2 x y H2 I2 rx ry q => ho pins s2 σ H2 x y v u Q I2 rx ry q)
theorem pe_un {op : UnaryOp} {r : V → Hp → VK → Prop} (ho : UnR X (unaryOp op) r) (ha : PE X a ta) : PE X (.UnaryOp op a pos) (tUn r ta) := by
  intro pins s σ H Q I h
  exact UnaryOp_ (thn (ha pins s σ H _ I h) fun v s1 ⟨x, H1, I1, r1, q1⟩ => ho pins s1 σ H1 x v Q I1 r1 q1)
/-! ### ints -/
theorem opI {f : Value → Value → Sem Value} {C : Int → Int → Prop} {g : Int → Int → Int}
    (rule : ∀ (i j : Int) (t u : Tok) (s : Shared) (Q : Value → Shared → Prop) (E : Value → Shared → Prop), C i j → Q (.int (g i j) s.toks) { s with toks := s.toks + 1 } → wpAny (model X.prog X.w) X.A (f (.int i t) (.int j u)) Q E s) :
    OpR X f (rI C fun i j => .int (g i j)) := by
  intro pins s σ H x y v u Q I rx ry h
  obtain ⟨i, j, rfl, rfl, hc, q⟩ := h
  obtain ⟨t, rfl⟩ := rx
  obtain ⟨t', rfl⟩ := ry
  exact rule i j t t' s _ _ hc ⟨.int (g i j), H, I.tok _, ⟨_, rfl⟩, q⟩
theorem opI0 {f : Value → Value → Sem Value} {g : Int → Int → Int}
    (rule : ∀ (i j : Int) (t u : Tok) (s : Shared) (Q : Value → Shared → Prop) (E : Value → Shared → Prop), Q (.int (g i j) s.toks) { s with toks := s.toks + 1 } → wpAny (model X.prog X.w) X.A (f (.int i t) (.int j u)) Q E s) :
    OpR X f (rI0 fun i j => .int (g i j)) := by
  intro pins s σ H x y v u Q I rx ry h
  obtain ⟨i, j, rfl, rfl, q⟩ := h
  obtain ⟨t, rfl⟩ := rx
  obtain ⟨t', rfl⟩ := ry
  exact rule i j t t' s _ _ ⟨.int (g i j), H, I.tok _, ⟨_, rfl⟩, q⟩
theorem opB0 {f : Value → Value → Sem Value} {g : Int → Int → Bool}
    (rule : ∀ (i j : Int) (t u : Tok) (s : Shared) (Q : Value → Shared → Prop) (E : Value → Shared → Prop), Q (.bool (g i j)) s → wpAny (model X.prog X.w) X.A (f (.int i t) (.int j u)) Q E s) :
    OpR X f (rI0 fun i j => .bl (g i j)) := by
  intro pins s σ H x y v u Q I rx ry h
  obtain ⟨i, j, rfl, rfl, q⟩ := h
  obtain ⟨t, rfl⟩ := rx
  obtain ⟨t', rfl⟩ := ry
  exact rule i j t t' s _ _ ⟨.bl (g i j), H, I, rfl, q⟩

noncomputable def CDiv (i j : Int) : Prop := 0 < j ∧ j < 1073741824
noncomputable def CPow (i j : Int) : Prop := 0 ≤ j ∧ j ≤ 1000000 ∧ i.natAbs < 2 ^ 64
noncomputable def CMul (i j : Int) : Prop := (-(2 ^ 64) < i ∧ i < 2 ^ 64) ∨ (-(2 ^ 64) < j ∧ j < 2 ^ 64)
theorem CMul.ok {i j : Int} (h : CMul i j) : IntMulOk i j := by
  rcases h with ⟨h1, h2⟩ | ⟨h1, h2⟩
  · exact .of_left (intBits_le_64 h1 h2)
  · exact .of_right (intBits_le_64 h1 h2)
theorem op_add : OpR X (binaryOp .Add) (rI0 fun i j => .int (i + j)) := opI0 fun _ _ _ _ _ _ _ q => add_int q
theorem op_sub : OpR X (binaryOp .Sub) (rI0 fun i j => .int (i - j)) := opI0 fun _ _ _ _ _ _ _ q => sub_int q
/-- // by a positive divisor -/
theorem op_fdiv : OpR X (binaryOp .FloorDiv) (rI CDiv fun i j => .int (i / j)) := opI fun i j _ _ _ _ _ hc q => by
  have h1 : (0 : Int) < j := hc.1
  have h2 : j < 1073741824 := hc.2
  exact floordiv_int (by omega) (by rw [Int.fdiv_eq_ediv_of_nonneg i (by omega)]; exact q) (.inl (PyProof.noPylong_small (by omega)))
/-- % by a positive divisor of any size -/
theorem op_mod : OpR X (binaryOp .Mod) (rI (fun _ j => 0 < j) fun i j => .int (i % j)) := opI fun i j _ _ _ _ _ hc q => by
  have h1 : (0 : Int) < j := hc
  exact mod_int' (by omega) (by rw [Int.fmod_eq_emod_of_nonneg i (by omega)]; exact q)
theorem op_modN : OpR X (binaryOp .Mod) (rI (fun _ j => j ≠ 0) fun i j => .int (i.fmod j)) := opI fun _ _ _ _ _ _ _ hc q => mod_int' hc q
theorem op_pow : OpR X (binaryOp .Pow) (rI CPow fun i j => .int (i ^ j.toNat)) := opI fun _ _ _ _ _ _ _ hc q => pow_int_small hc.1 hc.2.1 hc.2.2 q
theorem unI {f : Value → Sem Value} {g : Int → Int}
    (rule : ∀ (i : Int) (t : Tok) (s : Shared) (Q : Value → Shared → Prop) (E : Value → Shared → Prop), Q (.int (g i) s.toks) { s with toks := s.toks + 1 } → wpAny (model X.prog X.w) X.A (f (.int i t)) Q E s) :
    UnR X f (rU fun i => .int (g i)) := by
  intro pins s σ H x v Q I rx h
  obtain ⟨i, rfl, q⟩ := h
  obtain ⟨t, rfl⟩ := rx
  exact rule i t s _ _ ⟨.int (g i), H, I.tok _, ⟨_, rfl⟩, q⟩
theorem un_neg : UnR X (unaryOp .USub) (rU fun i => .int (-i)) := unI fun _ _ _ _ _ q => neg_int q
/-! ### bools among ints: n += (a < b) -/
end

/-! ### comparisons -/
/-- the scalars that == tells apart as data does -/
noncomputable def scal : V → V → Bool
  | .non, .non => true | .non, .int _ => true | .int _, .non => true | .non, .bl _ => true | .bl _, .non => true | .non, .str _ => true | .str _, .non => true
  | .int _, .int _ => true | .bl _, .bl _ => true | .str _, .str _ => true | .byt _, .byt _ => true
  | .int _, .str _ => true | .str _, .int _ => true | .bl _, .str _ => true | .str _, .bl _ => true
  | _, _ => false
noncomputable def rEq : R2 := fun x y H Q => scal x y = true ∧ Q (.bl (decide (x = y))) H
noncomputable def rNe : R2 := fun x y H Q => scal x y = true ∧ Q (.bl (!decide (x = y))) H

theorem dec_int {i j : Int} : decide (V.int i = V.int j) = (i == j) := by
  rw [Bool.eq_iff_iff]
  simp
theorem dec_bl {i j : Bool} : decide (V.bl i = V.bl j) = (i == j) := by
  rw [Bool.eq_iff_iff]
  simp
theorem dec_str {i j : Str} : decide (V.str i = V.str j) = (i == j) := by
  rw [Bool.eq_iff_iff]
  simp
theorem dec_byt {i j : Array UInt8} : decide (V.byt i = V.byt j) = (i.toList == j.toList) := by
  rw [Bool.eq_iff_iff]
  cases i
  cases j
  simp

section
variable {X : Cx} {a b c : Expr} {ta tb tc : TE} {pos : Pos}
theorem fin_bl {pins : List (Addr × Obj)} {σ : St} {H : Hp} {s : Shared} {Q : VK} {k k' : Bool} (I : Inv X pins σ H s) (q : Q (.bl k) H) (e : k = k') : EP X pins σ Q (.bool k') s := by
  subst e
  exact ⟨.bl k, H, I, rfl, q⟩
theorem op_eq : OpR X (compareOp .Eq) rEq := by
  intro pins s σ H x y v u Q I rx ry h
  obtain ⟨hs, q⟩ := h
  cases x with
  | non =>
    cases rx
    cases y with
    | non => cases ry; exact PySem.EqNone.eq_none_none (fin_bl I q (by simp))
    | bl j => cases ry; exact PySem.EqNone.eq_none_bool (fin_bl I q (by simp))
    | int j => obtain ⟨t', rfl⟩ := ry; exact PySem.EqNone.eq_none_int (fin_bl I q (by simp))
    | str j => obtain ⟨t', rfl⟩ := ry; exact PySem.EqNone.eq_none_str (fin_bl I q (by simp))
    | _ => exact absurd (show false = true from hs) Bool.false_ne_true
  | bl i =>
    cases rx
    cases y with
    | non => cases ry; exact PySem.EqNone.eq_bool_none (fin_bl I q (by simp))
    | bl j => cases ry; exact eq_bool (fin_bl I q dec_bl)
    | str j => obtain ⟨t', rfl⟩ := ry; exact PySem.EqMixed.eq_bool_str (fin_bl I q (by simp))
    | _ => exact absurd (show false = true from hs) Bool.false_ne_true
  | int i =>
    obtain ⟨t, rfl⟩ := rx
    cases y with
    | non => cases ry; exact PySem.EqNone.eq_int_none (fin_bl I q (by simp))
    | int j => obtain ⟨t', rfl⟩ := ry; exact eq_int (fin_bl I q dec_int)
    | str j => obtain ⟨t', rfl⟩ := ry; exact PySem.EqMixed.eq_int_str (fin_bl I q (by simp))
    | _ => exact absurd (show false = true from hs) Bool.false_ne_true
  | str i =>
    obtain ⟨t, rfl⟩ := rx
    cases y with
    | non => cases ry; exact PySem.EqNone.eq_str_none (fin_bl I q (by simp))
    | bl j => cases ry; exact PySem.EqMixed.eq_str_bool (fin_bl I q (by simp))
    | int j => obtain ⟨t', rfl⟩ := ry; exact PySem.EqMixed.eq_str_int (fin_bl I q (by simp))
    | str j => obtain ⟨t', rfl⟩ := ry; exact eq_str (fin_bl I q dec_str)
    | _ => exact absurd (show false = true from hs) Bool.false_ne_true
  | byt i =>
    obtain ⟨t, rfl⟩ := rx
    cases y with
    | byt j => obtain ⟨t', rfl⟩ := ry; exact PySem.W.eq_bytes (fin_bl I q dec_byt)
    | _ => exact absurd (show false = true from hs) Bool.false_ne_true
  | _ => cases y <;> exact absurd (show false = true from hs) Bool.false_ne_true
theorem op_ne : OpR X (compareOp .NotEq) rNe := by
  intro pins s σ H x y v u Q I rx ry h
  obtain ⟨hs, q⟩ := h
  cases x with
  | non =>
    cases rx
    cases y with
    | non => cases ry; exact PySem.EqNone.ne_none_none (fin_bl I q (by simp))
    | bl j => cases ry; exact PySem.EqNone.ne_none_bool (fin_bl I q (by simp))
    | int j => obtain ⟨t', rfl⟩ := ry; exact PySem.EqNone.ne_none_int (fin_bl I q (by simp))
    | str j => obtain ⟨t', rfl⟩ := ry; exact PySem.EqNone.ne_none_str (fin_bl I q (by simp))
    | _ => exact absurd (show false = true from hs) Bool.false_ne_true
  | bl i =>
    cases rx
    cases y with
    | non => cases ry; exact PySem.EqNone.ne_bool_none (fin_bl I q (by simp))
    | bl j => cases ry; exact ne_bool (fin_bl I q (congrArg not dec_bl))
    | str j => obtain ⟨t', rfl⟩ := ry; exact PySem.EqMixed.ne_bool_str (fin_bl I q (by simp))
    | _ => exact absurd (show false = true from hs) Bool.false_ne_true
  | int i =>
    obtain ⟨t, rfl⟩ := rx
    cases y with
    | non => cases ry; exact PySem.EqNone.ne_int_none (fin_bl I q (by simp))
    | int j => obtain ⟨t', rfl⟩ := ry; exact ne_int (fin_bl I q (congrArg not dec_int))
    | str j => obtain ⟨t', rfl⟩ := ry; exact PySem.EqMixed.ne_int_str (fin_bl I q (by simp))
    | _ => exact absurd (show false = true from hs) Bool.false_ne_true
  | str i =>
    obtain ⟨t, rfl⟩ := rx
    cases y with
    | non => cases ry; exact PySem.EqNone.ne_str_none (fin_bl I q (by simp))
    | bl j => cases ry; exact PySem.EqMixed.ne_str_bool (fin_bl I q (by simp))
    | int j => obtain ⟨t', rfl⟩ := ry; exact PySem.EqMixed.ne_str_int (fin_bl I q (by simp))
    | str j => obtain ⟨t', rfl⟩ := ry; exact ne_str (fin_bl I q (congrArg not dec_str))
    | _ => exact absurd (show false = true from hs) Bool.false_ne_true
  | byt i =>
    obtain ⟨t, rfl⟩ := rx
    cases y with
    | byt j => obtain ⟨t', rfl⟩ := ry; exact PySem.W.ne_bytes (fin_bl I q (congrArg not dec_byt))
    | _ => exact absurd (show false = true from hs) Bool.false_ne_true
  | _ => cases y <;> exact absurd (show false = true from hs) Bool.false_ne_true

theorem op_lt : OpR X (compareOp .Lt) (rI0 fun i j => .bl (decide (i < j))) := opB0 fun _ _ _ _ _ _ _ q => lt_int q
theorem op_le : OpR X (compareOp .LtE) (rI0 fun i j => .bl (decide (i ≤ j))) := opB0 fun _ _ _ _ _ _ _ q => le_int q
theorem op_gt : OpR X (compareOp .Gt) (rI0 fun i j => .bl (decide (j < i))) := opB0 fun _ _ _ _ _ _ _ q => gt_int q
/-- two rules for one operation: by cases -/
theorem nomark (b : Expr) {op : CmpOp} (h : op ≠ .In := by decide) (h2 : op ≠ .NotIn := by decide) : behindInMarks op b = false := by
  have e1 : (op == CmpOp.In) = false := by cases op <;> first | rfl | exact absurd rfl h
  have e2 : (op == CmpOp.NotIn) = false := by cases op <;> first | rfl | exact absurd rfl h2
  cases b <;> simp [behindInMarks, e1, e2]
/-- a comparison as a value; hm: nomark b, or (for in, not in) by with_unfolding_all rfl -/
theorem pe_cmpR {op : CmpOp} {r : R2} (ho : OpR X (compareOp op) r) (ha : PE X a ta) (hb : PE X b tb) (hm : behindInMarks op b = false) : PE X (.Compare a [op] [b] pos) (tOp r ta tb) := by
  intro pins s σ H Q I h
  exact wpAny_Compare1 (binT ha hb I h fun v u s2 x y H2 I2 rx ry q => ho pins s2 σ H2 x y v u Q I2 rx ry q) hm
/-- a reading of a value as a test -/
noncomputable def tTest (t : TE) : TT := fun σ H Q => t σ H fun x H' => ∃ k, x = .bl k ∧ Q k H'
theorem pt_cmpR {op : CmpOp} {r : R2} (ho : OpR X (compareOp op) r) (ha : PE X a ta) (hb : PE X b tb) (hm : behindInMarks op b = false) : PT X (.Compare a [op] [b] pos) (tTest (tOp r ta tb)) := by
  intro pins s σ H Q I h
  refine wpAny_isTrue_Compare1 (thn (ha pins s σ H _ I h) fun v s1 ⟨x, H1, I1, r1, q1⟩ => thn (hb pins s1 σ H1 _ I1 q1) fun u s2 ⟨y, H2, I2, r2, q2⟩ =>
    thn (ho pins s2 σ H2 x y v u _ I2 r1 r2 q2) fun c s3 ⟨z, H3, I3, r3, k, e, q3⟩ => ?_) hm
  subst e
  cases r3
  exact wpAny_truthy_bool ⟨H3, I3, q3⟩
/-! ### truth -/
/-- a value's truth by the abstract heap -/
theorem line63 : (sizeLine : Nat) < 2 ^ 63 := by rw [sizeLine_eq]; decide
/-! ### strs and bytes -/
/-! ### scalar builtins, by CallR -/
theorem vals1 {x : V} {us : List Value} (r : Vals [x] us) : ∃ u, us = [u] ∧ RelV x u := by
  cases r with
  | cons r1 r2 => cases r2; exact ⟨_, rfl, r1⟩
theorem vals2 {x y : V} {us : List Value} (r : Vals [x, y] us) : ∃ u w', us = [u, w'] ∧ RelV x u ∧ RelV y w' := by
  cases r with
  | cons r1 r2 =>
    cases r2 with
    | cons r3 r4 => cases r4; exact ⟨_, _, rfl, r1, r3⟩
theorem call_abs : CallR X (.builtin "abs") (fun xs H Q => ∃ i, xs = [.int i] ∧ Q (.int (if i < 0 then -i else i)) H) := by
  intro pins s σ H xs us Q I r h
  obtain ⟨i, rfl, q⟩ := h
  obtain ⟨u, rfl, t, rfl⟩ := vals1 r
  exact call_abs_int fun u tk => ⟨.int (if i < 0 then -i else i), H, I.tok _, ⟨_, rfl⟩, q⟩
theorem call_min2 (hc : X.calm = true) : CallR X (.builtin "min") (fun xs H Q => ∃ i j, xs = [.int i, .int j] ∧ Q (.int (if j < i then j else i)) H) := by
  intro pins s σ H xs us Q I r h
  obtain ⟨i, j, rfl, q⟩ := h
  obtain ⟨u, w', rfl, ⟨t, rfl⟩, ⟨t', rfl⟩⟩ := vals2 r
  refine min_two_ints (I.ok.hd hc) fun h' tk k => ⟨_, H, I.kept k, ?_, q⟩
  by_cases hj : j < i
  · rw [if_pos hj, if_pos hj]; exact ⟨_, rfl⟩
  · rw [if_neg hj, if_neg hj]; exact ⟨_, rfl⟩
end
end L2

namespace L2
open PySem PySem.Spec PyProof.Rows

/-! ### an instance, its attributes a map -/
structure ObjM (h : Heap) (x dx C : Addr) (mA : Str → Option Value) : Prop where
  obj : h.get? x = some (PySem.W.instObj C dx)
  ns : h.Ns1 dx mA
  ne : dx ≠ x

theorem lookIn_ns {h : Heap} {dx : Addr} {mA : Str → Option Value} (n : h.Ns1 dx mA) : ∃ od, h.get? dx = some od ∧ ∀ name, PySem.W.lookIn name od = some (mA name) := by
  obtain ⟨o, es, ep, ho, hd, hk, _, hm⟩ := n
  refine ⟨o, ho, fun name => ?_⟩
  have e := hm name
  unfold nsFind findBy at e
  rw [← Array.find?_toList] at e
  unfold PySem.W.lookIn
  rw [hd]
  dsimp only
  split
  · rename_i y q
    rw [q] at e
    exact congrArg some e
  · rename_i q
    rw [q] at e
    have a : es.toList.any (·.refKey) = false := by
      rw [List.any_eq_false]
      intro y hy
      obtain ⟨z, t, hkey⟩ := hk y (Array.mem_toList_iff.mp hy)
      simp [DictEntry.refKey, hkey]
    have a' : ¬ es.toList.any (·.refKey) = true := by rw [a]; exact Bool.false_ne_true
    rw [if_neg a']
    exact congrArg some e

theorem ObjM.look {h : Heap} {x dx C : Addr} {mA : Str → Option Value} (I : ObjM h x dx C mA) : ∃ od, PySem.W.InstAt h x (PySem.W.instObj C dx) C (some od) ∧ ∀ name, PySem.W.lookIn name od = some (mA name) :=
  let ⟨od, ho, hl⟩ := lookIn_ns I.ns
  ⟨od, ⟨I.obj, rfl, rfl, ho⟩, hl⟩

section
variable {prog : Program} {w : World} {A : Around} {E : Value → Shared → Prop} {s : Shared} {K : PySem.W.Frag} {x dx C f : Addr} {mA : Str → Option Value} {name : Str} {v : Value}

end

/-! ### the attributes as a list of pairs -/
section
variable {P : Program} {w : World} {H H' : Hp} {h h' : Heap} {a C dx : Addr} {fs fs' : List (Str × V)}
theorem ins_get (hok : HOk P w H h) (e : H a = some (.ins C dx fs)) : ∃ mA, ObjM h a dx C mA ∧ (∀ f, RelO (fs.lookup f) (mA f)) ∧ PySem.Within mA (fs.map (·.1)) ∧ fs.length ≤ 1000 ∧ H dx = some (.own a) := by
  obtain ⟨d, z, ne, ob, mA, n, r, q⟩ := (show ObjOk P w H h a (.ins C dx fs) from hok a _ e)
  exact ⟨mA, ⟨ob, n, ne⟩, r, q, z, d⟩
end

/-! ### what of the text a class must have -/
structure Cls (K : PySem.W.Frag) (C : Addr) : Prop where
  pg : PySem.W.plainGet K C Str.empty = true
  hd : PySem.W.hasDictIn K C = true
  po : PySem.W.plainOver K C = true
  sa : PySem.W.findIn K (.ref C) "__setattr__" = some (some (.builtin "object.__setattr__"))
theorem Cls.get {K : PySem.W.Frag} {C : Addr} (c : Cls K C) (f : Str) : PySem.W.plainGet K C f = true := c.pg
section
variable {X : Cx} {pins : List (Addr × Obj)} {σ : St} {H : Hp} {s : Shared} {a C dx : Addr} {fs : List (Str × V)} {f : Str} {v : V} {A : Around} {E : Value → Shared → Prop}

end

/-! ### readings and rules -/
section
variable {X : Cx} {o e value : Expr} {f : Str} {pos pos' tpos : Pos} {ta tv : TE}
end

/-! ### isinstance -/
section
variable {X : Cx} {pins : List (Addr × Obj)} {σ : St} {H : Hp} {s : Shared} {A : Around} {E : Value → Shared → Prop} {Q : Value → Shared → Prop} {c : Value} {b : Bool}
/-- the type of a value, as the fragment's deciders take it; for an instance its class -/
inductive TyOf (K : PySem.W.Frag) (H : Hp) : V → Value → Prop where
  | non : TyOf K H .non (.type "NoneType")
  | bl (x : Bool) : TyOf K H (.bl x) (.type "bool")
  | int (i : Int) : TyOf K H (.int i) (.type "int")
  | str (x : Str) : TyOf K H (.str x) (.type "str")
  | flt (x : UInt64) : TyOf K H (.flt x) (.type "float")
  | lst {a : Addr} {xs : List V} (e : H a = some (.lst xs)) : TyOf K H (.ref a) (.type "list")
  | frz {a : Addr} {o : Obj} {xs : List V} (e : H a = some (.frz o (.lst xs))) : TyOf K H (.ref a) (.type "list")
  | tup {a : Addr} {xs : List V} (e : H a = some (.tup xs)) : TyOf K H (.ref a) (.type "tuple")
  | dK {a : Addr} {kvs : List (Key × V)} (e : H a = some (.dK kvs)) : TyOf K H (.ref a) (.type "dict")
  | dT {a : Addr} {kvs : List (List Key × V)} (e : H a = some (.dT kvs)) : TyOf K H (.ref a) (.type "dict")
  | ins {a C dx : Addr} {fs : List (Str × V)} (e : H a = some (.ins C dx fs)) (cl : Cls K C) (ha : PySem.W.findIn K (.ref C) "__class__" = some (some (.builtin "object.__class__")))
      (hn : PySem.W.specialIn K (.builtin "object.__class__") "__get__" = some (some (.builtin "getset_descriptor.__get__"))) (htk : PySem.W.takesIn K (.builtin "object.__class__") = some true)
      (hm : PySem.W.mroIn K C (.type "object") = some true) : TyOf K H (.ref a) (.ref C)
/-- isinstance(x, c) for one class c, a built-in or an own one: kitOne's answer -/
theorem isinst_ok {x : V} {u t : Value} (I : Inv X pins σ H s) (rx : RelV x u) (ty : TyOf X.K H x t) (e : PySem.W.kitOne X.K t c = some b) (h : ∀ tk, Q (.bool b) { s with toks := tk }) :
    wpAny (model X.prog X.w) A (call (.builtin "isinstance") [u, c]) Q E s := by
  cases ty with
  | non => cases (show u = Value.none from rx); exact PySem.W.kia_one PySem.W.kitx_none I.kIn True.intro e (fun z => nomatch z) h
  | bl y => cases (show u = Value.bool y from rx); exact PySem.W.kia_one PySem.W.kitx_bool I.kIn True.intro e (fun z => nomatch z) h
  | int i => obtain ⟨t, q⟩ := (show ∃ t, u = Value.int i t from rx); cases q; exact PySem.W.kia_one PySem.W.kitx_int I.kIn True.intro e (fun z => nomatch z) h
  | str y => obtain ⟨t, q⟩ := (show ∃ t, u = Value.str y t from rx); cases q; exact PySem.W.kia_one PySem.W.kitx_str I.kIn True.intro e (fun z => nomatch z) h
  | flt y => obtain ⟨t, q⟩ := (show ∃ t, u = Value.float y t from rx); cases q; exact PySem.W.kia_one PySem.W.kitx_float I.kIn True.intro e (fun z => nomatch z) h
  | @lst a xs ea =>
    cases (show u = Value.ref a from rx)
    obtain ⟨_, _, n, _, h1⟩ := (show ObjOk X.prog X.w H s.heap a (.lst xs) from I.hok a _ ea)
    exact PySem.W.kia_one PySem.W.kitx_list I.kIn ⟨_, h1, rfl⟩ e (fun z => nomatch z) h
  | @frz a ob xs ea =>
    cases (show u = Value.ref a from rx)
    obtain ⟨_, _, _, n, _, h1⟩ := (show ObjOk X.prog X.w H s.heap a (.frz ob (.lst xs)) from I.hok a _ ea)
    exact PySem.W.kia_one PySem.W.kitx_list I.kIn ⟨_, h1, rfl⟩ e (fun z => nomatch z) h
  | @tup a xs ea =>
    cases (show u = Value.ref a from rx)
    obtain ⟨_, _, _, p⟩ := (show ObjOk X.prog X.w H s.heap a (.tup xs) from I.hok a _ ea)
    obtain ⟨o, h1, h2, _⟩ := p
    exact PySem.W.kia_one PySem.W.kitx_tuple I.kIn ⟨o, h1, h2⟩ e (fun z => nomatch z) h
  | @dK a kvs ea =>
    cases (show u = Value.ref a from rx)
    obtain ⟨_, _, vs, _, p⟩ := (show ObjOk X.prog X.w H s.heap a (.dK kvs) from I.hok a _ ea)
    obtain ⟨o, es, ep, h1, h2, _⟩ := p
    exact PySem.W.kia_one PySem.W.kitx_dict I.kIn ⟨o, h1, h2.1⟩ e (fun z => nomatch z) h
  | @dT a kvs ea =>
    cases (show u = Value.ref a from rx)
    obtain ⟨_, _, xs, _, o, es, ep, h1, h2, _⟩ := (show ObjOk X.prog X.w H s.heap a (.dT kvs) from I.hok a _ ea)
    exact PySem.W.kia_one PySem.W.kitx_dict I.kIn ⟨o, h1, h2.1⟩ e (fun z => nomatch z) h
  | @ins a C dx fs ea cl ha hn htk hm =>
    cases (show u = Value.ref a from rx)
    obtain ⟨mA, O, _⟩ := ins_get I.hok ea
    obtain ⟨od, J, _⟩ := O.look
    exact PySem.W.kia_one (PySem.W.kitx_own (cl.get _) cl.hd ha hn htk hm) I.kIn J e (fun z => nomatch z) h
end
end L2

namespace L2
open PySem PySem.Spec PyProof.Rows

/-! ### room -/
structure Room (k : Nat) (A : Around) : Prop where
  hd : A.handled = none
  dp : A.depth + 3 * k + 5 < recursionLimit
  un : A.units + 16 * k + 200 < cLine
theorem Room.mono {j k : Nat} {A : Around} (r : Room k A) (h : j ≤ k) : Room j A := ⟨r.hd, by have := r.dp; omega, by have := r.un; omega⟩
theorem Room.deeper {k : Nat} {A : Around} (r : Room (k + 1) A) (env : Env) : Room k (A.deeper env) :=
  ⟨r.hd, by have := r.dp; show A.depth + 1 + 3 * k + 5 < _; omega, by have := r.un; show A.units + 3 + 16 * k + 200 < _; omega⟩
theorem Room.depth {k : Nat} {A : Around} (r : Room k A) : A.depth < recursionLimit := by have := r.dp; omega
theorem Room.units {k : Nat} {A : Around} (r : Room k A) : A.units + 64 < cLine := by have := r.un; omega
/-! ### argument lists and displays -/
noncomputable def tNil : TA := fun _ H Q => Q [] H
noncomputable def tCons (ta : TE) (tr : TA) : TA := fun σ H Q => ta σ H fun x H1 => tr σ H1 fun xs H2 => Q (x :: xs) H2
section
variable {X : Cx} {e : Expr} {es : List Expr} {te : TE} {t : TA} {pos : Pos}
theorem pa_nil : PA X [] tNil := fun _ _ _ _ H Q I h => Calls.spliced_nil ⟨[], H, I, .nil, h⟩
theorem pa_cons (ha : PE X e te) (hr : PA X es t) (hs : starEach (e :: es) X.env = (false, eval e X.env) :: starEach es X.env := by rfl) : PA X (e :: es) (tCons te t) := by
  intro pos pins s σ H Q I h
  rw [hs]
  show wpAny _ _ (spliced ((false, eval e X.env) :: backTo pos (starEach es X.env))) _ _ s
  refine Calls.spliced_cons (thn (ha pins s σ H _ I h) fun u s1 ⟨x, H1, I1, r1, q1⟩ => ?_)
  exact thn (hr pos pins s1 σ H1 _ I1 q1) fun us s2 ⟨xs, H2, I2, r2, q2⟩ => ⟨x :: xs, H2, I2, .cons r1 r2, q2⟩

/-- a tuple, a list of written items -/
noncomputable def tTup (t : TA) : TE := fun σ H Q => t σ H fun xs H1 => xs.length ≤ sizeLine ∧ ∀ p, H1 p = none → Q (.ref p) (upd H1 p (.tup xs))
noncomputable def tLst (t : TA) : TE := fun σ H Q => t σ H fun xs H1 => xs.length ≤ sizeLine ∧ ∀ p, H1 p = none → Q (.ref p) (upd H1 p (.lst xs))
theorem pe_tup {x1} (h : PA X es t) : PE X (.Tuple es x1 pos) (tTup t) := by
  intro pins s σ H Q I hq
  refine wpAny_Tuple_spliced (thn (h pos pins s σ H _ I hq) fun us s1 ⟨xs, H1, I1, r, z, q⟩ => ⟨by rw [← r.length]; exact z, ?_⟩)
  have hf : H1 s1.heap.objs.size = none := I1.hok.fresh (Nat.le_refl _)
  refine ⟨.ref s1.heap.objs.size, upd H1 s1.heap.objs.size (.tup xs), I1.laid (t' := s1.toks) (fun b u e => Heap.get?_push_of_some _ e) (Nat.le_refl _) ?_, rfl, q _ hf⟩
  exact ⟨z, us, r, ⟨_, Heap.get?_push_size _ rfl, rfl, _, rfl⟩⟩
theorem pe_lst (h : PA X es t) : PE X (.List es pos) (tLst t) := by
  intro pins s σ H Q I hq
  refine wpAny_List_spliced (thn (h pos pins s σ H _ I hq) fun us s1 ⟨xs, H1, I1, r, z, q⟩ => ⟨by rw [← r.length]; exact z, ?_⟩)
  have hf : H1 s1.heap.objs.size = none := I1.hok.fresh (Nat.le_refl _)
  refine ⟨.ref s1.heap.objs.size, upd H1 s1.heap.objs.size (.lst xs), I1.laid (t' := s1.toks) (fun b u e => Heap.get?_push_of_some _ e) (Nat.le_refl _) ?_, rfl, q _ hf⟩
  exact ⟨z, us, 0, r, Heap.get?_push_size _ rfl⟩
end

/-! ### what a def promises -/
/-- a def's promise: the bound arguments in the parameters' order, the heap, the wanted end, the wanted exception -/
noncomputable abbrev Sp := List V → Hp → VK → XK → Prop
/-- how an exception lies behind a call (file 08 gives it): the callers' frames, abstract heap and state ahead of the call, the wish, the exception, the state -/
noncomputable abbrev CXT := List Env → Hp → Shared → XK → Value → Shared → Prop

/-- the state at a call -/
structure Env0 (P : Program) (w : World) (K : PySem.W.Frag) (mg : Str → Option Value) (base : Heap) (A : Around) (outer : List Env) (s : Shared) (H : Hp) : Prop where
  frames : A.frames = some outer
  mod : Mod K mg base
  bs : ∀ b o, base.get? b = some o → s.heap.get? b = some o ∧ H b = none
  bsz : base.objs.size ≤ s.heap.objs.size
  funs : s.heap.FunFrames base outer
  frf : ∀ b ∈ frs outer, H b = none
  hok : HOk P w H s.heap
  bare : AllBare s.gens
/-- a call's end -/
noncomputable def CE (outer : List Env) (P : Program) (w : World) (H : Hp) (s : Shared) (Q : VK) (u : Value) (s' : Shared) : Prop :=
  ∃ v H', s'.os = s.os ∧ AllBare s'.gens ∧ Un (frs outer) [] H H' s.heap s'.heap ∧ HOk P w H' s'.heap ∧ RelV v u ∧ Q v H'
noncomputable def CR (CX : CXT) (outer : List Env) (P : Program) (w : World) (H : Hp) (s : Shared) (Q : VK) (E : XK) (r : Result) (s' : Shared) : Prop :=
  match r with
  | .ok (.ret u) => CE outer P w H s Q u s'
  | .ok _ => False
  | .error e => CX outer H s E e s'
structure FnOk (P : Program) (w : World) (K : PySem.W.Frag) (mg : Str → Option Value) (base : Heap) (CX : CXT) (k : Nat) (f : Addr) (fd : FuncData) (ps : List Str) (sp : Sp) : Prop where
  len : ∀ vs H Q E, sp vs H Q E → vs.length = ps.length
  run : ∀ (A : Around) (outer : List Env) (s : Shared) (H : Hp) (args : Args) (us : List Value) (vs : List V) (Q : VK) (E : XK), Room k A → Env0 P w K mg base A outer s H → BindsTo s fd args (ps.zip us) → Vals vs us → sp vs H Q E →
    codeAny (model P w) A (.call (.ref f) args) (CR CX outer P w H s Q E) s
theorem FnOk.mono {P : Program} {w : World} {K : PySem.W.Frag} {mg : Str → Option Value} {base : Heap} {CX : CXT} {j k : Nat} {f : Addr} {fd : FuncData} {ps : List Str} {sp : Sp} (F : FnOk P w K mg base CX j f fd ps sp) (h : j ≤ k) :
    FnOk P w K mg base CX k f fd ps sp := ⟨F.len, fun A outer s H args us vs Q E hr => F.run A outer s H args us vs Q E (hr.mono h)⟩
section
variable {X : Cx} {pins : List (Addr × Obj)} {σ : St} {H : Hp} {s s' : Shared}
/-- from a body: what a callee wants -/
theorem Inv.env0 (I : Inv X pins σ H s) : Env0 X.prog X.w X.K X.mg X.base X.A X.stack s H :=
  ⟨I.ok.frames, I.ok.mod, I.bs, Nat.le_trans I.ok.bsz I.sz, I.stack, I.stkFree, I.hok, I.bare⟩
/-- behind a call -/
theorem Inv.after {Q : VK} {u : Value} (I : Inv X pins σ H s) (h : CE X.stack X.prog X.w H s Q u s') : EP X pins σ Q u s' := by
  obtain ⟨v, H', os, bare, un, hok, r, q⟩ := h
  obtain ⟨hh, g, d, t, os'⟩ := s'
  obtain rfl : os' = s.os := os
  exact ⟨v, H', I.call (h' := hh) (g' := g) (d' := d) (t' := t) (ch := []) un hok bare (fun b z => absurd z (by simp)), r, q⟩
end

/-! ### calls -/
/-- f(..): the written arguments, then the defaults dvs; E: what is wanted of an exception -/
noncomputable def tCall (sp : Sp) (dvs : List V) (E : XK) (t : TA) : TE := fun σ H Q => t σ H fun vs H1 => sp (vs ++ dvs) H1 Q E
/-- how the parameters are bound: us the positional arguments, kw the keywords' values by name, ds the defaults that fill up -/
noncomputable def Binds (K : PySem.W.Frag) (fd : FuncData) (ps : List Str) (ds : List Value) : Prop :=
  ∀ (s : Shared) (us : List Value), K.In s.heap → (us ++ ds).length = ps.length → BindsTo s fd ⟨us, []⟩ (ps.zip (us ++ ds))
/-- every parameter is given -/
theorem Binds.all {K : PySem.W.Frag} {fd : FuncData} {ps : List Str} (h : ∀ us : List Value, us.length = ps.length → bindArgs fd ⟨us, []⟩ = pure (ps.zip us)) : Binds K fd ps [] := fun s us _ hl => by
  rw [List.append_nil] at hl ⊢
  exact .of_eq (h us hl)

/-- an exception of a callee reaches what this body wants of exceptions -/
noncomputable def Passes (CX : CXT) (X : Cx) (E : XK) : Prop := ∀ (pins : List (Addr × Obj)) (σ : St) (H : Hp) (s : Shared) (e : Value) (s' : Shared), Inv X pins σ H s → CX X.stack H s E e s' → X.xe e s'

section
variable {X : Cx} {CX : CXT} {k : Nat} {f C : Addr} {fd : FuncData} {ps : List Str} {sp : Sp} {dvs : List V} {ds : List Value} {E : XK} {x m : Str} {p pos apos : Pos} {e o : Expr} {es : List Expr} {ta : TE} {t : TA}

/-- the callee runs -/
theorem run_fn {pins : List (Addr × Obj)} {σ : St} {H : Hp} {s : Shared} {Q : VK} {us : List Value} {vs : List V} (F : FnOk X.prog X.w X.K X.mg X.base CX k f fd ps sp) (hr : Room k X.A) (hb : Binds X.K fd ps ds) (hd : Vals dvs ds) (hx : Passes CX X E)
    (I : Inv X pins σ H s) (r : Vals vs us) (h : sp (vs ++ dvs) H Q E) : wpAny (model X.prog X.w) X.A (call (.ref f) us) (EP X pins σ Q) X.xe s := by
  have r2 : Vals (vs ++ dvs) (us ++ ds) := r.append hd
  have hl : (us ++ ds).length = ps.length := by rw [← r2.length]; exact F.len _ _ _ _ h
  refine wpAny_call (codeAny_mono (F.run X.A X.stack s H ⟨us, []⟩ (us ++ ds) (vs ++ dvs) Q E hr I.env0 (hb s us I.kIn hl) r2 h) fun r s' hq => ?_)
  cases r with
  | error e => exact hx pins σ H s e s' I hq
  | ok fl =>
    cases fl with
    | ret u => exact I.after hq
    | next => exact False.elim hq
    | brk => exact False.elim hq
    | cont => exact False.elim hq

theorem pe_call (F : FnOk X.prog X.w X.K X.mg X.base CX k f fd ps sp) (hr : Room k X.A) (hg : Gl X x) (hm : X.mg x = some (.ref f)) (hk : PySem.W.keepIn X.K (.ref f) = true) (hb : Binds X.K fd ps ds) (hd : Vals dvs ds) (hx : Passes CX X E)
    (ha : PA X (e :: es) t) (hdb : (x == ("__debug__" : Str)) = false := by decide) (he : starEach (e :: es) X.env = (false, eval e X.env) :: starEach es X.env := by rfl) (hpl : (backTo pos (starEach es X.env)).any (·.1) = false := by rfl) :
    PE X (.Call (.Name x p) (e :: es) [] pos) (tCall sp dvs E t) := by
  intro pins s σ H Q I h
  refine wpAny_Call_Name_kw (ld_glob I hg hm ?_ hdb)
  refine PySem.W.callWith_K (h₀ := X.base) I.ok.mod.kin hk (thn (ha pos pins s σ H _ I h) fun us s1 ⟨vs, H1, I1, r, q⟩ => ⟨I1.kIn, ?_⟩) he hpl
  exact run_fn F hr hb hd hx I1 r q
end

/-! ### keywords -/
section
variable {X : Cx} {CX : CXT} {k : Nat} {f C : Addr} {fd : FuncData} {ps ks : List Str} {sp : Sp} {E : XK} {x m : Str} {p pos apos kpos : Pos} {e o : Expr} {es : List Expr} {kws : List Keyword} {te ta : TE} {t tk : TA} {nm : Option Str}
variable {g : List Value → List Value → List Value} {gV : List V → List V → List V}
end

/-! ### a def's body keeps its promise -/
/-- names: the parameters first -/
structure FnScope (N P : List Str) (sc : Scope) : Prop where
  kind : sc.kind = .function
  co : sc.isCoroutine = false
  gen : sc.isGenerator = false
  nd : N.Nodup
  pre : N.take P.length = P
  par : ∀ x ∈ P, sc.names.lookup x = some .local ∨ sc.names.lookup x = some .cell
  nofree : ∀ y ∈ sc.names, y.2 ≠ .free

theorem bindL_out {kindOf : Str → Option NameKind} {x : Str} : ∀ {binds : List (Str × Value)} {m : Str → Option Value}, (∀ v, (x, v) ∉ binds) → bindL kindOf binds m x = m x
  | [], _, _ => rfl
  | (n, v) :: r, m, h => by
    unfold bindL
    rw [bindL_out fun w hw => h w (List.mem_cons_of_mem _ hw)]
    split
    · have : x ≠ n := by rintro rfl; exact h v List.mem_cons_self
      simp [this]
    · rfl
theorem bindC_out {kindOf : Str → Option NameKind} {x : Str} : ∀ {binds : List (Str × Value)} {m : Str → Option Value}, (∀ v, (x, v) ∉ binds) → bindC kindOf binds m x = m x
  | [], _, _ => rfl
  | (n, v) :: r, m, h => by
    unfold bindC
    rw [bindC_out fun w hw => h w (List.mem_cons_of_mem _ hw)]
    split
    · rfl
    · have : x ≠ n := by rintro rfl; exact h v List.mem_cons_self
      simp [this]
theorem bindL_get {kindOf : Str → Option NameKind} {x : Str} {v : Value} : ∀ {P : List Str} {vs : List Value} {i : Nat} {m : Str → Option Value}, P.Nodup → P[i]? = some x → vs[i]? = some v → kindOf x = some .local →
    bindL kindOf (P.zip vs) m x = some v
  | [], _, _, _, _, h, _, _ => by simp at h
  | _ :: _, [], _, _, _, _, h, _ => by simp at h
  | p :: P, w :: vs, 0, m, nd, h1, h2, hk => by
    simp at h1 h2; subst h1; subst h2
    show bindL kindOf ((p, w) :: P.zip vs) m p = _
    unfold bindL
    rw [bindL_out fun v hv => (List.nodup_cons.mp nd).1 (List.of_mem_zip hv).1, if_pos hk]
    simp
  | p :: P, w :: vs, i + 1, m, nd, h1, h2, hk => by
    show bindL kindOf ((p, w) :: P.zip vs) m x = _
    unfold bindL
    exact bindL_get (i := i) (List.nodup_cons.mp nd).2 (by simpa using h1) (by simpa using h2) hk
theorem bindC_get {kindOf : Str → Option NameKind} {x : Str} {v : Value} : ∀ {P : List Str} {vs : List Value} {i : Nat} {m : Str → Option Value}, P.Nodup → P[i]? = some x → vs[i]? = some v → kindOf x ≠ some .local →
    bindC kindOf (P.zip vs) m x = some v
  | [], _, _, _, _, h, _, _ => by simp at h
  | _ :: _, [], _, _, _, _, h, _ => by simp at h
  | p :: P, w :: vs, 0, m, nd, h1, h2, hk => by
    simp at h1 h2; subst h1; subst h2
    show bindC kindOf ((p, w) :: P.zip vs) m p = _
    unfold bindC
    rw [bindC_out fun v hv => (List.nodup_cons.mp nd).1 (List.of_mem_zip hv).1, if_neg hk]
    simp
  | p :: P, w :: vs, i + 1, m, nd, h1, h2, hk => by
    show bindC kindOf ((p, w) :: P.zip vs) m x = _
    unfold bindC
    exact bindC_get (i := i) (List.nodup_cons.mp nd).2 (by simpa using h1) (by simpa using h2) hk

/-- the names' values at the entry -/
noncomputable def start (N : List Str) (vs : List V) : St := vs.map some ++ List.replicate (N.length - vs.length) none

/-- the context of a def's body, at its entry; an exception leaves the frame, then lies as CX says -/
noncomputable def cxOf (CX : CXT) (P : Program) (w : World) (K : PySem.W.Frag) (mg : Str → Option Value) (base : Heap) (N : List Str) (qual : Str) (scope : Scope) (f : Addr) (cd : Value) (A : Around) (outer : List Env) (s : Shared) (H : Hp) (E : XK) : Cx where
  prog := P
  w := w
  K := K
  mg := mg
  base := base
  A := A.deeper (envOfC qual scope s.heap.objs.size f cd)
  N := N
  s₀ := s
  H₀ := H
  env := envOfC qual scope s.heap.objs.size f cd
  outer := outer
  stack := envOfC qual scope s.heap.objs.size f cd :: outer
  ex := []
  calm := true
  fn := fun _ => true
  pn := []
  xe := fun e s' => wpAny (model P w) (A.deeper (envOfC qual scope s.heap.objs.size f cd)) (leaving (envOfC qual scope s.heap.objs.size f cd) e) (fun _ s'' => CX outer H s E e s'') (fun e' s'' => CX outer H s E e' s'') s'

theorem cell_has {sc : Scope} {n : Nat} {x : Str} (h : sc.names.lookup x = some .cell) : ∃ c, (cellsFrom n sc.names []).lookup x = some c := by
  have q := PySem.W.cellsFrom_some sc.names n [] (.inl h)
  exact Option.isSome_iff_exists.mp q

theorem inv_start {CX : CXT} {P : Program} {w : World} {K : PySem.W.Frag} {mg : Str → Option Value} {base : Heap} {N ps : List Str} {qual : Str} {scope : Scope} {f : Addr} {cd : Value} {A : Around} {outer : List Env} {s s1 : Shared} {H : Hp} {E : XK} {us : List Value} {vs : List V}
    (S : FnScope N ps scope) (hd : A.handled = none) (e0 : Env0 P w K mg base A outer s H) (hl : vs.length = ps.length) (r : Vals vs us)
    (x : InCallC s s.heap.objs.size (bindL (envOfC qual scope s.heap.objs.size f cd).kindOf (ps.zip us) fun _ => none) (cellsFrom (s.heap.objs.size + 1) scope.names []) (bindC (envOfC qual scope s.heap.objs.size f cd).kindOf (ps.zip us) fun _ => none) s1) :
    Inv (cxOf CX P w K mg base N qual scope f cd A outer s H E) [] (start N vs) H s1 := by
  have hpl : ps.length ≤ N.length := by have := congrArg List.length S.pre; rw [List.length_take] at this; omega
  obtain ⟨h1, tk, rfl, hk⟩ := x.done
  have noA : ∀ b : Addr, b ∉ (cxOf CX P w K mg base N qual scope f cd A outer s H E).ex := fun b z => absurd (show b ∈ ([] : List Addr) from z) (by simp)
  refine ⟨⟨e0.mod, S.kind, rfl, rfl, Nat.le_refl _, fun y z c h1 h2 => ?_, fun y hy => ?_, fun y c _ h => ?_, fun _ => hd, Around.frames_deeper e0.frames, .inr ⟨rfl, rfl⟩, fun b z => absurd z (noA b), e0.bs, e0.bsz, fun b _ _ => noA b, fun b z => absurd z (noA b), e0.funs, e0.frf⟩,
    rfl, e0.bare, Un.kept hk, ⟨_, x.toInCall.ns, fun i y v h1 h2 h3 => ?_⟩, fun y c h => ⟨_, x.cell y c h⟩, e0.hok.fresh (Nat.le_refl _), fun y c h => ?_, fun p hp => absurd (show p ∈ ([] : List (Addr × Obj)) from hp) (by simp), e0.hok.kept hk, ?_⟩
  · exact name_of_addr x.apart (PySem.mem_of_lookup h1) (PySem.mem_of_lookup h2)
  · have hy : scope.names.lookup y = some .cell ∨ scope.names.lookup y = some .free := hy
    rcases hy with hy | hy
    · exact cell_has hy
    · exact absurd rfl (S.nofree _ (PySem.mem_of_lookup hy))
  · exact Nat.le_of_lt (x.above y c (PySem.mem_of_lookup h))
  · have hi : i < vs.length := by
      unfold start at h2
      by_cases hi : i < vs.length
      · exact hi
      · rw [List.getElem?_append_right (by simpa using hi)] at h2
        rw [List.getElem?_replicate] at h2
        split at h2 <;> cases h2
    have ha : vs[i]? = some v := by
      unfold start at h2
      rw [List.getElem?_append_left (by simpa using hi), List.getElem?_map] at h2
      cases e : vs[i]? with
      | none => rw [e] at h2; cases h2
      | some a => rw [e] at h2; cases h2; rfl
    obtain ⟨u, hu, rv⟩ := r.get ha
    have hp : ps[i]? = some y := by
      rw [← S.pre, List.getElem?_take_of_lt (by omega)]; exact h1
    have ndP : ps.Nodup := by rw [← S.pre]; exact S.nd.sublist (List.take_sublist _ _)
    refine ⟨u, rv, ?_⟩
    rcases S.par y (List.mem_of_getElem? hp) with k | k
    · exact .inl ⟨k, bindL_get ndP hp hu k⟩
    · obtain ⟨c, e⟩ := cell_has (n := s.heap.objs.size + 1) k
      refine .inr ⟨.inl k, c, e, ?_⟩
      have q := x.cell y c e
      rw [bindC_get ndP hp hu (by show scope.names.lookup y ≠ _; rw [k]; decide)] at q
      exact q
  · exact e0.hok.fresh (Nat.le_of_lt (x.above y c (PySem.mem_of_lookup h)))
  · unfold start
    show _ = N.length
    rw [List.length_append, List.length_map, List.length_replicate]
    omega

/-- THE RULE: a def (or a method) of the text, by its body. The body's reading t is chosen for each entry; it is run at the parameters' values -/
theorem fn_of {CX : CXT} {P : Program} {w : World} {K : PySem.W.Frag} {mg : Str → Option Value} {base : Heap} {k : Nat} {f : Addr} {name qual : Str} {params : Arguments} {body : List Stmt} {scope : Scope} {dV kV doc pm cdv ct oc : Value} {an od : Option Addr}
    {osl : Array (Option Value)} {N ps : List Str} {sp : Sp} (lk : K.lookup f = some ⟨oc, od, .func (PySem.W.fnOf name qual params body scope dV kV doc pm an cdv ct), osl⟩) (hcd : PySem.W.codeIn K cdv qual = true) (S : FnScope N ps scope)
    (len : ∀ vs H Q E, sp vs H Q E → vs.length = ps.length)
    (hbody : ∀ (A : Around) (outer : List Env) (s : Shared) (H : Hp) (vs : List V) (Q : VK) (E : XK), Room k (A.deeper (envOfC qual scope s.heap.objs.size f cdv)) → sp vs H Q E →
      ∃ t, PSs (cxOf CX P w K mg base N qual scope f cdv A outer s H E) body t ∧ t { nx := fun _ H' => Q .non H', rt := Q } (start N vs) H) :
    FnOk P w K mg base CX (k + 1) f (PySem.W.fnOf name qual params body scope dV kV doc pm an cdv ct) ps sp := by
  refine ⟨len, fun A outer s H args us vs Q E hr e0 hb r hsp => ?_⟩
  have hl := len _ _ _ _ hsp
  have KX : K.In s.heap := e0.mod.kin.keeps fun b o e => (e0.bs b o e).1
  have lim : s.heap.NoLimit := e0.mod.nolimit.keeps fun b o e => (e0.bs b o e).1
  have hkind : ∀ y ∈ ps.zip us, scope.names.lookup y.1 = some .local ∨ (scope.names.lookup y.1 = some .cell ∧ ((cellsFrom (s.heap.objs.size + 1) scope.names []).lookup y.1).isSome = true) := fun ⟨n, v⟩ hy => by
    rcases S.par n (List.of_mem_zip hy).1 with q | q
    · exact .inl q
    · exact .inr ⟨q, PySem.W.cellsFrom_some _ _ _ (.inl q)⟩
  refine codeAny_call_function hr.depth (KX _ _ lk) rfl S.co S.gen rfl (PySem.W.codeRec_of KX hcd) (hb _ _ _ _ ?_)
  refine wpAny_newFunctionEnv_cells S.kind hkind fun env he s1 x => ?_
  subst he
  refine ⟨lim.keeps x.toInCall.keep, codeAny_func ?_⟩
  obtain ⟨t, ht, hq⟩ := hbody A outer s H vs Q E (hr.deeper _) hsp
  have I : Inv (cxOf CX P w K mg base N qual scope f cdv A outer s H E) [] (start N vs) H s1 := inv_start S hr.hd e0 hl r x
  refine wpAny_mono (ht [] s1 (start N vs) H _ I hq) (fun fl s' hs => ?_) fun e s' hs => hs
  have fin : ∀ {σ' : St} {H' : Hp} {v : V} {u : Value}, Inv (cxOf CX P w K mg base N qual scope f cdv A outer s H E) [] σ' H' s' → RelV v u → Q v H' → CE outer P w H s Q u s' :=
    fun {σ' H' v u} J rv q => ⟨v, H', J.os, J.bare, J.base, J.hok, rv, q⟩
  cases fl with
  | ret u =>
    obtain ⟨v, σ', H', J, rv, q⟩ := hs
    exact fin J rv q
  | next =>
    obtain ⟨σ', H', J, q⟩ := hs
    exact fin (v := V.non) (u := Value.none) J rfl q
  | brk =>
    obtain ⟨_, _, _, q⟩ := hs
    exact False.elim q
  | cont =>
    obtain ⟨_, _, _, q⟩ := hs
    exact False.elim q
end L2

namespace L2
open PySem PySem.Spec PyProof.Rows
section
variable {X : Cx} {x : Str} {p pos : Pos} {e : Expr} {es : List Expr} {t : TA} {id T : String} {r : List V → Hp → VK → Prop}

noncomputable def tCB (r : List V → Hp → VK → Prop) (t : TA) : TE := fun σ H Q => t σ H fun vs H1 => r vs H1 Q
/-- f(e, ..), f a built-in function -/
theorem pe_callB (hc : CallR X (.builtin id) r) (hg : Gl X x) (hm : X.mg x = none) (hv : bootBuiltins x = some (.builtin id)) (ha : PA X (e :: es) t) (hn : x ≠ "__name__" := by decide) (hdb : (x == ("__debug__" : Str)) = false := by decide)
    (he : starEach (e :: es) X.env = (false, eval e X.env) :: starEach es X.env := by rfl) (hpl : (backTo pos (starEach es X.env)).any (·.1) = false := by rfl) : PE X (.Call (.Name x p) (e :: es) [] pos) (tCB r t) := by
  intro pins s σ H Q I h
  refine wpAny_Call_Name_kw (ld_blt I hg hm hv ?_ hn hdb)
  exact PyProof.Rows.callWith_builtin1 (thn (ha pos pins s σ H _ I h) fun us s1 ⟨vs, H1, I1, r1, q1⟩ => hc pins s1 σ H1 vs us Q I1 r1 q1) he hpl
/-- T(e, ..), T a built-in type -/
theorem pe_callTy (hc : CallR X (.type T) r) (hg : Gl X x) (hm : X.mg x = none) (hv : bootBuiltins x = some (.type T)) (ha : PA X (e :: es) t) (hn : x ≠ "__name__" := by decide) (hdb : (x == ("__debug__" : Str)) = false := by decide)
    (he : starEach (e :: es) X.env = (false, eval e X.env) :: starEach es X.env := by rfl) (hpl : (backTo pos (starEach es X.env)).any (·.1) = false := by rfl) : PE X (.Call (.Name x p) (e :: es) [] pos) (tCB r t) := by
  intro pins s σ H Q I h
  refine wpAny_Call_Name_kw (ld_blt I hg hm hv ?_ hn hdb)
  exact PyProof.Rows.callWith_type1 (thn (ha pos pins s σ H _ I h) fun us s1 ⟨vs, H1, I1, r1, q1⟩ => hc pins s1 σ H1 vs us Q I1 r1 q1) he hpl
end
end L2

namespace HT
open PySem PyProof.Rows

section
open PySem.SeqAt
open PySem.AutoSeq1 (wpAny_loadPart')
open PySem.MeetsSeq PySem.MeetsSeq2 PySem.MeetsSeq3

end

section
variable {prog : Program} {w : World} {A : Around} {E : Value → Shared → Prop} {s : Shared}

/-! ### t[a:b], not the whole -/
/-- a slice's bound as a place among n (d where it is left out) -/
noncomputable def sIx (n d : Nat) : Option Int → Nat
  | none => d
  | some v => if v < 0 then (v + (n : Int)).toNat else min v.toNat n
theorem sIx_none (n d : Nat) : sIx n d none = d := rfl
theorem sIx_nat (n d k : Nat) : sIx n d (some (k : Int)) = min k n := by
  show (if (k : Int) < 0 then ((k : Int) + (n : Int)).toNat else min (k : Int).toNat n) = min k n
  rw [if_neg (by omega), Int.toNat_natCast]
end
end HT

namespace L2
open PySem PySem.Spec PyProof.Rows

/-! ### the parts of a slice -/
noncomputable abbrev TO := St → Hp → (Option Int → Hp → Prop) → Prop
/-- a slice's part (left out, or an int) -/
noncomputable def PO (X : Cx) (e : Option Expr) (t : TO) : Prop :=
  ∀ (pins : List (Addr × Obj)) (s : Shared) (σ : St) (H : Hp) (Q : Option Int → Hp → Prop), Inv X pins σ H s → t σ H Q →
    wpAny (model X.prog X.w) X.A (evalPart e X.env) (fun u s' => ∃ o H', Inv X pins σ H' s' ∧ IsPart u o ∧ Q o H') X.xe s
noncomputable def tNoPart : TO := fun _ H Q => Q none H
noncomputable def tPart (t : TE) : TO := fun σ H Q => t σ H fun x H1 => ∃ i, x = .int i ∧ Q (some i) H1

section
variable {X : Cx} {e : Expr} {te : TE} {lo hi : Option Expr} {tl th : TO} {pos p2 : Pos}

theorem po_none : PO X none tNoPart := by
  intro pins s σ H Q I h
  rw [evalPart_none]
  exact wpAny_pure ⟨none, H, I, .none, h⟩
theorem po_some (h : PE X e te) : PO X (some e) (tPart te) := by
  intro pins s σ H Q I hw
  rw [evalPart_some]
  refine thn (h pins s σ H _ I hw) fun u s1 ⟨x, H1, I1, r1, q1⟩ => ?_
  obtain ⟨i, rfl, q⟩ := q1
  obtain ⟨t, rfl⟩ := r1
  exact ⟨some i, H1, I1, .int i t, q⟩

/-- what a slice of a value is, by values: the slice object stands at sl -/
noncomputable def SlR (X : Cx) (r : V → Option Int → Option Int → Hp → VK → Prop) : Prop :=
  ∀ (pins : List (Addr × Obj)) (s : Shared) (σ : St) (H : Hp) (x : V) (v vl vu : Value) (lo hi : Option Int) (sl : Addr) (Q : VK), Inv X pins σ H s → RelV x v → s.heap.IsSliceOf sl vl vu .none → IsPart vl lo → IsPart vu hi → r x lo hi H Q →
    ∃ T id, typeLookup (.type T) "__getitem__" = pure (some (.builtin id)) ∧ s.TypeIs v T ∧ wpAny (model X.prog X.w) X.A (getItem v (.ref sl)) (EP X pins σ Q) X.xe s
noncomputable def tSl (r : V → Option Int → Option Int → Hp → VK → Prop) (te : TE) (tl th : TO) : TE := fun σ H Q => te σ H fun x H1 => tl σ H1 fun l H2 => th σ H2 fun u H3 => r x l u H3 Q
/-- a[lo:hi], any a -/
theorem pe_slice {r : V → Option Int → Option Int → Hp → VK → Prop} (hr : SlR X r) (he : PE X e te) (hl : PO X lo tl) (hu : PO X hi th) : PE X (.Subscript e (.Slice lo hi none p2) pos) (tSl r te tl th) := by
  intro pins s σ H Q I h
  refine Subscript_ (thn (he pins s σ H _ I h) fun v s1 ⟨x, H1, I1, r1, q1⟩ => ?_)
  refine wpAny_Slice (thn (hl pins s1 σ H1 _ I1 q1) fun vl s2 ⟨l, H2, I2, pl, q2⟩ => thn (hu pins s2 σ H2 _ I2 q2) fun vu s3 ⟨u, H3, I3, pu, q3⟩ => ?_)
  rw [evalPart_none]
  refine wpAny_pure ?_
  have I4 : Inv X pins σ H3 { s3 with heap := s3.heap.push { cls := .type "slice", data := .fields #[vl, vu, .none] } } := I3.kept (t' := s3.toks) fun b ob q => Heap.get?_push_of_some _ q
  obtain ⟨T, id, hT, ht, hg⟩ := hr pins { s3 with heap := s3.heap.push { cls := .type "slice", data := .fields #[vl, vu, .none] } } σ H3 x v vl vu l u s3.heap.objs.size Q I4 r1 (Heap.IsSliceOf.new ..) pl pu q3
  show wpAny (model X.prog X.w) X.A (subscriptTail e (.Slice lo hi none p2) v (.ref s3.heap.objs.size)) (EP X pins σ Q) X.xe { s3 with heap := s3.heap.push { cls := .type "slice", data := .fields #[vl, vu, .none] } }
  exact tail_any (ops := [.ref s3.heap.objs.size, v]) ht hT hg (by with_unfolding_all rfl)

/-- the items of xs[lo:hi] -/
noncomputable def cutV (xs : List V) (lo hi : Option Int) : List V := (xs.drop (HT.sIx xs.length 0 lo)).take (HT.sIx xs.length xs.length hi - HT.sIx xs.length 0 lo)
theorem cutV_length (xs : List V) (lo hi : Option Int) : (cutV xs lo hi).length ≤ xs.length := by
  unfold cutV
  rw [List.length_take, List.length_drop]
  omega
/-! ### t < u, t + u -/
end
end L2

namespace L2
open PySem PySem.Spec PyProof.Rows

/-! ### places -/
/-- the place that an index of any sign means -/
noncomputable def ixN (n : Nat) (i : Int) : Option Nat := if 0 ≤ i then (if i < n then some i.toNat else none) else if -(n : Int) ≤ i then some (i + n).toNat else none
noncomputable def atI {α : Type} (xs : List α) (i : Int) : Option α := (ixN xs.length i).bind fun j => xs[j]?
theorem ixN_seq {n : Nat} {i : Int} {j : Nat} (h : ixN n i = some j) : seqIndex? i n = some j ∧ j < n ∧ -(n : Int) ≤ i ∧ i < n := by
  unfold ixN at h
  by_cases h0 : 0 ≤ i
  · rw [if_pos h0] at h
    by_cases h1 : i < n
    · rw [if_pos h1] at h
      have e : i.toNat = j := Option.some.inj h
      exact ⟨by rw [seqIndex_of h0 h1, e], by omega, by omega, h1⟩
    · rw [if_neg h1] at h; cases h
  · rw [if_neg h0] at h
    by_cases h1 : -(n : Int) ≤ i
    · rw [if_pos h1] at h
      have e : (i + n).toNat = j := Option.some.inj h
      exact ⟨by rw [seqIndex_neg (by omega) h1, e], by omega, h1, by omega⟩
    · rw [if_neg h1] at h; cases h
theorem atI_get {α : Type} {xs : List α} {i : Int} {v : α} (h : atI xs i = some v) : ∃ j, seqIndex? i xs.length = some j ∧ xs[j]? = some v ∧ j < xs.length ∧ -(xs.length : Int) ≤ i ∧ i < xs.length := by
  unfold atI at h
  cases e : ixN xs.length i with
  | none => rw [e] at h; cases h
  | some j =>
    rw [e] at h
    obtain ⟨h1, h2, h3, h4⟩ := ixN_seq e
    exact ⟨j, h1, h, h2, h3, h4⟩
theorem atI_nat {α : Type} {xs : List α} {j : Nat} {v : α} (h : xs[j]? = some v) : atI xs (j : Int) = some v := by
  have hj : j < xs.length := (List.getElem?_eq_some_iff.mp h).1
  have e : ixN xs.length (j : Int) = some j := by
    unfold ixN
    rw [if_pos (by omega), if_pos (by omega)]; simp
  unfold atI; rw [e]; exact h
theorem atI_last {α : Type} (xs : List α) (v : α) : atI (xs ++ [v]) (-1) = some v := by
  have hl : (xs ++ [v]).length = xs.length + 1 := by simp
  have e : ixN (xs ++ [v]).length (-1) = some xs.length := by
    unfold ixN
    rw [hl, if_neg (by decide), if_pos (by omega)]
    congr 1
    omega
  unfold atI
  rw [e]
  show (xs ++ [v])[xs.length]? = some v
  simp

/-! ### what may be subscripted -/
/-- what stands as an index of a plain subscript -/
noncomputable def PlainIx (b : Expr) : Prop := ∀ o i, subscripted b false o i = operate [o, i] (getItem o i)
/-- a subscript by values -/
noncomputable def IxR (X : Cx) (r : R2) : Prop :=
  ∀ (value slice : Expr) (pins : List (Addr × Obj)) (s : Shared) (σ : St) (H : Hp) (x y : V) (v u : Value) (Q : VK), Inv X pins σ H s → RelV x v → RelV y u → r x y H Q →
    subscripted slice false v u = operate [v, u] (getItem v u) → wpAny (model X.prog X.w) X.A (subscriptTail value slice v u) (EP X pins σ Q) X.xe s
/-- a call of a builtin's method by values: the receiver, the arguments -/
noncomputable def MtR (X : Cx) (id : String) (r : V → List V → Hp → VK → Prop) : Prop :=
  ∀ (pins : List (Addr × Obj)) (s : Shared) (σ : St) (H : Hp) (x : V) (xs : List V) (v : Value) (us : List Value) (Q : VK), Inv X pins σ H s → RelV x v → Vals xs us → r x xs H Q →
    wpAny (model X.prog X.w) X.A (call (.builtin id) (v :: us)) (EP X pins σ Q) X.xe s
section
variable {X : Cx} {a b : Expr} {ta tb : TE} {pos : Pos}
/-- a[b] -/
theorem pe_ix {r : R2} (hr : IxR X r) (ha : PE X a ta) (hb : PE X b tb) (hs : PlainIx b) : PE X (.Subscript a b pos) (tOp r ta tb) := by
  intro pins s σ H Q I h
  exact Subscript_ (binT ha hb I h fun v u s2 x y H2 I2 rx ry q => hr a b pins s2 σ H2 x y v u Q I2 rx ry q (hs _ _))

noncomputable def rIxL (K : PySem.W.Frag) : R2 := fun x y H Q => ∃ p xs i v, x = .ref p ∧ y = .int i ∧ SqL K H p xs ∧ atI xs i = some v ∧ Q v H
noncomputable def rIxT (K : PySem.W.Frag) : R2 := fun x y H Q => ∃ p xs i v, x = .ref p ∧ y = .int i ∧ SqT K H p xs ∧ atI xs i = some v ∧ Q v H
theorem ix_list : IxR X (rIxL X.K) := by
  intro value slice pins s σ H x y v u Q I rx ry h hs
  obtain ⟨p, xs, i, z, rfl, rfl, hq, he, q⟩ := h
  cases rx
  obtain ⟨t, rfl⟩ := ry
  obtain ⟨its, r, pl, hz⟩ := I.list hq
  obtain ⟨j, h1, h2, h3, h4, h5⟩ := atI_get he
  obtain ⟨w, ew, rw'⟩ := r.get h2
  have hl := r.length
  have hn := line63
  have fin : EP X pins σ Q w s := ⟨z, H, I, rw', q⟩
  by_cases h0 : 0 ≤ i
  · have hj : i.toNat = j := by
      rw [seqIndex_of h0 h5] at h1
      exact Option.some.inj h1
    exact item_listR pl.isList h0 (by omega) (by rw [hj]; simpa using ew) fin hs
  · have hj : (i + (its.toArray.size : Int)).toNat = j := by
      rw [seqIndex_neg (by omega) h4] at h1
      rw [List.size_toArray, ← hl]
      exact Option.some.inj h1
    exact subscriptTail_builtinR (x := w) pl.isList.typeIs slot_list_getitem.lookup
      (wpAny_getItem_list_neg (Q := fun r s' => r = w ∧ EP X pins σ Q r s') pl.isList (by omega) (by rw [List.size_toArray] <;> omega) (by omega) (by rw [hj]; simpa using ew) ⟨rfl, fin⟩) hs
theorem ix_tup : IxR X (rIxT X.K) := by
  intro value slice pins s σ H x y v u Q I rx ry h hs
  obtain ⟨p, xs, i, z, rfl, rfl, hq, he, q⟩ := h
  cases rx
  obtain ⟨t, rfl⟩ := ry
  obtain ⟨its, r, pl, hz⟩ := I.tuple hq
  obtain ⟨j, h1, h2, h3, h4, h5⟩ := atI_get he
  obtain ⟨w, ew, rw'⟩ := r.get h2
  have hl := r.length
  have hn := line63
  have fin : EP X pins σ Q w s := ⟨z, H, I, rw', q⟩
  exact subscriptTail_builtinR (x := w) pl.typeIs slot_tuple_getitem.lookup
    (getItem_tuple (j := j) (Q := fun r s' => r = w ∧ EP X pins σ Q r s') pl (by omega) (by omega) (by rw [List.size_toArray, ← hl]; exact h1) (by simpa using ew) ⟨rfl, fin⟩) hs
/-! ### xs[i] = v, any sign -/
/-- the list's object behind a store -/
theorem mapSeq_set (its : List Value) (n j : Nat) (u : Value) : Obj.mapSeq (·.setIfInBounds j u) { cls := .type "list", data := .seq its.toArray n } = { cls := .type "list", data := .seq (its.set j u).toArray n } := by
  simp [Obj.mapSeq]
theorem Inv.lst {pins : List (Addr × Obj)} {σ : St} {H : Hp} {s : Shared} {p : Addr} {xs : List V} (I : Inv X pins σ H s) (h : H p = some (.lst xs)) :
    ∃ (its : List Value) (n : Nat), Vals xs its ∧ s.heap.get? p = some { cls := .type "list", data := .seq its.toArray n } ∧ xs.length ≤ sizeLine := by
  obtain ⟨z, its, n, r, e⟩ := I.hok p _ h
  exact ⟨its, n, r, e, z⟩
/-- the list at p is written by an update of its object -/
theorem Inv.lstUpd {pins : List (Addr × Obj)} {σ : St} {H : Hp} {s : Shared} {p : Addr} {xs ys : List V} {its its' : List Value} {n n' : Nat} {f : Obj → Obj} (I : Inv X pins σ H s) (h : H p = some (.lst xs))
    (ho : s.heap.get? p = some { cls := .type "list", data := .seq its.toArray n }) (hf : f { cls := .type "list", data := .seq its.toArray n } = { cls := .type "list", data := .seq its'.toArray n' }) (r : Vals ys its') (hz : ys.length ≤ sizeLine) (t : Nat) :
    Inv X pins σ (upd H p (.lst ys)) { s with heap := s.heap.update p f, toks := t } := by
  have e : (s.heap.update p f).get? p = some { cls := .type "list", data := .seq its'.toArray n' } := by
    rw [Heap.get?_update_self f ho (by rw [hf] <;> rfl), hf]
  refine I.write (x := p) (e := p) (by rw [h]; trivial) (.inl rfl) (fun b u hb q => (Heap.get?_update_other _ _ (Ne.symm hb)).trans q) ⟨_, e⟩ ?_
  exact ⟨hz, its', n', r, e⟩
noncomputable def rSetL : V → V → V → Hp → (Hp → Prop) → Prop := fun o i v H Q => ∃ p xs k j, o = .ref p ∧ i = .int k ∧ H p = some (.lst xs) ∧ ixN xs.length k = some j ∧ Q (upd H p (.lst (xs.set j v)))
theorem set_list : PSet X rSetL := by
  intro pins s σ H o i v ov iv u Q I ro ri rv h
  obtain ⟨p, xs, k, j, rfl, rfl, hp, hj, q⟩ := h
  cases ro
  obtain ⟨t, rfl⟩ := ri
  obtain ⟨its, n, r, ho, hz⟩ := I.lst hp
  obtain ⟨h1, h2, h3, h4⟩ := ixN_seq hj
  have hl := r.length
  have hn := line63
  have I' : Inv X pins σ (upd H p (.lst (xs.set j v))) { s with heap := s.heap.update p (Obj.mapSeq (·.setIfInBounds j u)) } :=
    I.lstUpd hp ho (mapSeq_set its n j u) (r.set rv j) (by rw [List.length_set]; exact hz) s.toks
  by_cases h0 : 0 ≤ k
  · have hk : k.toNat = j := by
      rw [seqIndex_of h0 h4] at h1
      exact Option.some.inj h1
    exact PySem.W.ki_setAt ho h0 (by omega) (by rw [List.size_toArray, ← hl]; exact h4) (by rw [hk]; exact ⟨_, I', q⟩)
  · have hk : (k + (its.toArray.size : Int)).toNat = j := by
      rw [seqIndex_neg (by omega) h3] at h1
      rw [List.size_toArray, ← hl]
      exact Option.some.inj h1
    exact PySem.W.ki_setBack ho (by omega) (by rw [List.size_toArray, ← hl]; exact h3) (by omega) (by rw [hk]; exact ⟨_, I', q⟩)

/-! ### slices -/
theorem slice_bounds (lo hi : Option Int) (n : Nat) : (sliceBounds lo hi none n).1 = ((HT.sIx n 0 lo : Nat) : Int) ∧ (sliceBounds lo hi none n).2.1 = ((HT.sIx n n hi : Nat) : Int) ∧ (sliceBounds lo hi none n).2.2 = 1 := by
  refine ⟨?_, ?_, rfl⟩
  · cases lo with
    | none => simp [sliceBounds, HT.sIx]
    | some i =>
      simp only [sliceBounds, HT.sIx, Option.getD_none, show (1 : Int) > 0 by decide, if_true]
      by_cases h : i < 0
      · simp only [h, if_true] <;> omega
      · simp only [h, if_false] <;> omega
  · cases hi with
    | none => simp [sliceBounds, HT.sIx]
    | some i =>
      simp only [sliceBounds, HT.sIx, Option.getD_none, show (1 : Int) > 0 by decide, if_true]
      by_cases h : i < 0
      · simp only [h, if_true] <;> omega
      · simp only [h, if_false] <;> omega
theorem slicePick_cut (its : List Value) (lo hi : Option Int) : slicePick its.toArray lo hi none = ((its.drop (HT.sIx its.length 0 lo)).take (HT.sIx its.length its.length hi - HT.sIx its.length 0 lo)).toArray := by
  obtain ⟨h1, h2, h3⟩ := slice_bounds lo hi its.toArray.size
  unfold slicePick
  rw [h1, h2, h3]
  simp only [sliceRange_one, pick_run, List.size_toArray] <;> rfl
/-- xs[lo:hi] of a list: a new list -/
noncomputable def rSlL (K : PySem.W.Frag) : V → Option Int → Option Int → Hp → VK → Prop := fun x lo hi H Q => ∃ a xs, x = .ref a ∧ SqL K H a xs ∧ ∀ p, H p = none → Q (.ref p) (upd H p (.lst (cutV xs lo hi)))
theorem sl_list : SlR X (rSlL X.K) := by
  intro pins s σ H x v vl vu lo hi sl Q I rx hs pl pu h
  obtain ⟨a, xs, rfl, hx, q⟩ := h
  cases rx
  obtain ⟨its, r, ht, hz⟩ := I.list hx
  have hlen := r.length
  refine ⟨"list", _, slot_list_getitem.lookup, ht.isList.typeIs, ?_⟩
  refine wpAny_getItem_list_slice ht.isList hs pl pu .none (by simp) ?_ (by rw [List.size_toArray] <;> omega)
  rw [slicePick_cut, ← hlen]
  refine ⟨.ref s.heap.objs.size, _, I.laid (t' := s.toks) (o := .lst (cutV xs lo hi)) (fun b ob q => Heap.get?_push_of_some _ q) (Nat.le_refl _) ?_, rfl, q _ (I.hok.fresh (Nat.le_refl _))⟩
  exact ⟨Nat.le_trans (cutV_length xs lo hi) hz, _, 0, (r.drop (HT.sIx xs.length 0 lo)).take (HT.sIx xs.length xs.length hi - HT.sIx xs.length 0 lo), Heap.get?_push_size _ rfl⟩

/-! ### in, not in: flat items -/
/-! ### len, list(x), tuple(x) of any list or tuple that is read -/
theorem call_len_seq : CallR X (.builtin "len") (fun xs H Q => ∃ p ys, xs = [.ref p] ∧ (SqL X.K H p ys ∨ SqT X.K H p ys) ∧ Q (.int ys.length) H) := by
  intro pins s σ H xs us Q I r h
  obtain ⟨p, ys, rfl, hq, q⟩ := h
  obtain ⟨u, rfl, rx⟩ := vals1 r
  cases rx
  have hn := line63
  rcases hq with hq | hq
  · obtain ⟨its, r', pl, hz⟩ := I.list hq
    have hlen := r'.length
    exact Calls.call_len_list pl.isList (by simp only [List.size_toArray] <;> omega) ⟨.int ys.length, H, I.tok _, ⟨s.toks + 1, by rw [List.size_toArray, hlen]⟩, q⟩
  · obtain ⟨its, r', pl, hz⟩ := I.tuple hq
    have hlen := r'.length
    exact len_tuple pl (by simp only [List.size_toArray] <;> omega) ⟨.int ys.length, H, I.tok _, ⟨s.toks + 1, by rw [List.size_toArray, hlen]⟩, q⟩
theorem call_list_of : CallR X (.type "list") (fun xs H Q => ∃ p ys, xs = [.ref p] ∧ (SqL X.K H p ys ∨ SqT X.K H p ys) ∧ ∀ l, H l = none → Q (.ref l) (upd H l (.lst ys))) := by
  intro pins s σ H xs us Q I r h
  obtain ⟨p, ys, rfl, hq, q⟩ := h
  obtain ⟨u, rfl, rx⟩ := vals1 r
  cases rx
  have fin : ∀ (its : List Value), Vals ys its → ys.length ≤ sizeLine → ∀ (h' : Heap) (c' : Nat), (∀ b o', s.heap.get? b = some o' → h'.get? b = some o') →
      h'.get? s.heap.objs.size = some { cls := .type "list", dict := none, data := .seq its.toArray c', slots := #[] } → EP X pins σ Q (.ref s.heap.objs.size) { s with heap := h' } := fun its r' hz h' c' kp e =>
    ⟨.ref s.heap.objs.size, _, I.laid (t' := s.toks) kp (Nat.le_refl _) (show ObjOk X.prog X.w _ h' _ (.lst ys) from ⟨hz, its, c', r', e⟩), rfl, q _ (I.hok.fresh (Nat.le_refl _))⟩
  rcases hq with hq | hq
  · obtain ⟨its, r', pl, hz⟩ := I.list hq
    have hlen := r'.length
    obtain ⟨o, ho, hc, n, hd⟩ := pl.isList
    exact call_list_seq p (.inl rfl) ho hc hd (fun h' c' kp e => fin its r' hz h' c' kp e) (by simp only [List.size_toArray] <;> omega)
  · obtain ⟨its, r', pl, hz⟩ := I.tuple hq
    have hlen := r'.length
    obtain ⟨o, ho, hc, n, hd⟩ := pl
    exact call_list_seq p (.inr rfl) ho hc hd (fun h' c' kp e => fin its r' hz h' c' kp e) (by simp only [List.size_toArray] <;> omega)
/-! ### the call of a builtin's method: o.m(..) -/
/-- the value is of that builtin type -/
noncomputable def tyV (K : PySem.W.Frag) (T : String) (x : V) (H : Hp) : Prop := match x with
  | .str _ => T = "str"
  | .int _ => T = "int"
  | .ref p => (T = "list" ∧ ∃ xs, SqL K H p xs) ∨ (T = "tuple" ∧ ∃ o, K.lookup p = some o ∧ o.cls = .type "tuple" ∧ o.dict = none) ∨
      (T = "dict" ∧ ((∃ kvs, H p = some (.dK kvs)) ∨ ∃ kvs, H p = some (.dT kvs))) ∨ (T = "set" ∧ ∃ S n, H p = some (.set S n))
  | _ => False
theorem tyV_is {pins : List (Addr × Obj)} {σ : St} {H : Hp} {s : Shared} {T : String} {x : V} {v : Value} (I : Inv X pins σ H s) (r : RelV x v) (ty : tyV X.K T x H) :
    s.TypeIs v T ∧ ∀ a, v = .ref a → ∃ ob, s.heap.get? a = some ob ∧ ob.dict = none := by
  cases x with
  | str z =>
    obtain ⟨t, rfl⟩ := r
    cases (show T = "str" from ty)
    exact ⟨typeIs_str s z t, fun _ e => nomatch e⟩
  | int i =>
    obtain ⟨t, rfl⟩ := r
    cases (show T = "int" from ty)
    exact ⟨typeIs_int s i t, fun _ e => nomatch e⟩
  | ref p =>
    cases r
    rcases ty with ⟨rfl, xs, hq⟩ | ⟨rfl, o, hk, hc, hd⟩ | ⟨rfl, hk⟩ | ⟨rfl, S, n, hk⟩
    · obtain ⟨its, _, pl, _⟩ := I.list hq
      refine ⟨pl.isList.typeIs, fun a e => ?_⟩
      cases e
      obtain ⟨o, n, e, c, hd, _⟩ := pl
      exact ⟨o, e, hd⟩
    · refine ⟨⟨o, I.kIn p o hk, hc⟩, fun a e => ?_⟩
      cases e
      exact ⟨o, I.kIn _ o hk, hd⟩
    · have z : ∃ o, s.heap.get? p = some o ∧ o.ExactDict := by
        rcases hk with ⟨kvs, hk⟩ | ⟨kvs, hk⟩
        · obtain ⟨_, _, _, _, o, _, _, e, ex, _⟩ := I.hok p _ hk
          exact ⟨o, e, ex⟩
        · obtain ⟨_, _, _, _, o, _, _, e, ex, _⟩ := I.hok p _ hk
          exact ⟨o, e, ex⟩
      obtain ⟨o, e, ex⟩ := z
      refine ⟨⟨o, e, ex.1⟩, fun a e2 => ?_⟩
      cases e2
      exact ⟨o, e, ex.2.1⟩
    · obtain ⟨o, _, _, _, e, ex, _⟩ := I.hok p _ hk
      refine ⟨⟨o, e, ex.1⟩, fun a e2 => ?_⟩
      cases e2
      exact ⟨o, e, ex.2.1⟩
  | _ => exact False.elim ty
noncomputable def tBM (K : PySem.W.Frag) (T : String) (r : V → List V → Hp → VK → Prop) (to : TE) (t : TA) : TE := fun σ H Q => to σ H fun x H1 => tyV K T x H1 ∧ t σ H1 fun xs H2 => r x xs H2 Q
variable {o e : Expr} {es : List Expr} {to : TE} {t : TA} {name : Str} {apos cpos : Pos} {T id : String} {r : V → List V → Hp → VK → Prop}
theorem pe_bm (pa : PlainAttrs T) (slot : Slot T name id) (hty : typeOf (.builtin id) = pure (.type "method_descriptor")) (hm : MtR X id r) (ho : PE X o to) (ha : PA X (e :: es) t)
    (hbase : attributeBase o name X.env (eval o X.env) = eval o X.env := by rfl)
    (hfew : ((backTo cpos (starEach (e :: es) X.env)).all (fun x => !x.1) && (backToKw cpos (keywordEach [] X.env)).all (fun x => x.1.isSome)
      && decide ((e :: es).length + ([] : List Keyword).length + (if ([] : List Keyword).isEmpty then 0 else 1) < 30)) = true := by rfl)
    (hline : (apos.endLine == cpos.line) = true := by rfl) (hs : starEach (e :: es) X.env = (false, eval e X.env) :: starEach es X.env := by rfl) (hplain : (backTo cpos (starEach es X.env)).any (·.1) = false := by rfl) :
    PE X (.Call (.Attribute o name apos) (e :: es) [] cpos) (tBM X.K T r to t) := by
  intro pins s σ H Q I h
  refine wpAny_Call_method_late hbase hfew hline rfl (thn (ho pins s σ H _ I h) fun v s1 ⟨x, H1, I1, r1, ty, q1⟩ => ?_)
  obtain ⟨h1, h2⟩ := tyV_is I1 r1 ty
  refine ⟨T, id, pa, slot, hty, h1, h2, ?_⟩
  have hA := ha cpos pins s1 σ H1 _ I1 q1
  rw [hs] at hA ⊢
  refine Calls.callWith_builtin (by show (false || (backTo cpos (starEach es X.env)).any (·.1)) = false; rw [hplain] <;> rfl) (Calls.evalArgs_plain ?_)
  exact thn hA fun us s2 ⟨vs, H2, I2, r2, q2⟩ => hm pins s2 σ H2 x vs v us Q I2 r1 r2 q2
/- xs.append(e), list.index on a module's tuple .. are MtR facts of 06m -/
end
end L2

namespace L2
open PySem PySem.Spec PyProof.Rows

noncomputable def MtM (X : Cx) (id : String) (r : V → List V → Hp → VK → Prop) : Prop :=
  ∀ (pins : List (Addr × Obj)) (s : Shared) (σ : St) (H : Hp) (x : V) (xs : List V) (v : Value) (us : List Value) (Q : VK), Inv X pins σ H s → RelV x v → Vals xs us → r x xs H Q →
    wpAny (model X.prog X.w) X.A (call (.builtin id) (v :: us)) (EP X pins σ Q) X.xe s

/-! ### lists of values -/
theorem Vals.one : ∀ {x : V} {us : List Value}, Vals [x] us → ∃ u, us = [u] ∧ RelV x u
  | _, _, .cons r .nil => ⟨_, rfl, r⟩
section
variable {X : Cx} {pins : List (Addr × Obj)} {σ : St} {H : Hp} {s : Shared} {l b : Addr} {xs ys zs : List V}

/-! ### the two steps: a tracked list is rewritten, a new list is laid -/
theorem Inv.lset {its its' : List Value} {n : Nat} {f : Array Value → Array Value} {t' : Nat} (I : Inv X pins σ H s) (hH : H l = some (.lst xs))
    (e : s.heap.get? l = some { cls := .type "list", data := .seq its.toArray n }) (hf : f its.toArray = its'.toArray) (hv : Vals ys its') (hz : ys.length ≤ sizeLine) :
    Inv X pins σ (upd H l (.lst ys)) { s with heap := s.heap.update l (Obj.mapSeq f), toks := t' } := by
  have q := PySem.IsL.update e f
  rw [hf] at q
  refine I.write (x := l) (e := l) (by rw [hH]; exact trivial) (.inl rfl) (fun b' u hb hu => (Heap.get?_update_other s.heap (Obj.mapSeq f) (Ne.symm hb)).trans hu) ⟨_, q⟩ ?_
  exact ⟨hz, its', _, hv, q⟩
theorem Inv.lnew {its : List Value} {t' : Nat} (I : Inv X pins σ H s) (hv : Vals ys its) (hz : ys.length ≤ sizeLine) :
    Inv X pins σ (upd H s.heap.objs.size (.lst ys)) { s with heap := s.heap.push { cls := .type "list", data := .seq its.toArray }, toks := t' } :=
  I.laid (fun _ _ q => Heap.get?_push_of_some _ q) (Nat.le_refl _) ⟨hz, its, 0, hv, Heap.get?_push_size _ rfl⟩
theorem Inv.fresh (I : Inv X pins σ H s) : H s.heap.objs.size = none := I.hok.fresh (Nat.le_refl _)
theorem Inv.lstM (I : Inv X pins σ H s) (hH : H l = some (.lst xs)) : xs.length ≤ sizeLine ∧ ∃ (its : List Value) (n : Nat), Vals xs its ∧ xs.length = its.length ∧ s.heap.get? l = some { cls := .type "list", data := .seq its.toArray n } := by
  obtain ⟨z, its, n, r, e⟩ := I.hok l _ hH
  exact ⟨z, its, n, r, r.length, e⟩

end

section
variable {X : Cx}

/-! ### methods -/
noncomputable def rAppend : V → List V → Hp → VK → Prop := fun x vs H Q => ∃ l xs y, x = .ref l ∧ vs = [y] ∧ H l = some (.lst xs) ∧ xs.length < sizeLine ∧ Q .non (upd H l (.lst (xs ++ [y])))
theorem mt_append : MtM X "list.append" rAppend := by
  intro pins s σ H x vs v us Q I rx rv h
  obtain ⟨l, xs, y, rfl, rfl, hH, hz, q⟩ := h
  cases rx
  obtain ⟨u, rfl, ru⟩ := rv.one
  obtain ⟨z, its, n, r, hl, e⟩ := I.lstM hH
  refine call_meets F.slot_list_append ⟨_, e, rfl⟩ F.entry_list_append (F.args_list_append_2 _ _) (PySem.list_append l its.toArray n u (by rw [List.size_toArray]; omega)) ⟨e, ?_⟩
  refine ⟨.non, _, I.lset (its' := its ++ [u]) hH e (by simp) (r.append (.cons ru .nil)) ?_, rfl, q⟩
  rw [List.length_append, List.length_singleton]
  omega

/-! ### list + list, list += list, list * int -/
noncomputable def rCat : R2 := fun x y H Q => ∃ l b xs zs, x = .ref l ∧ y = .ref b ∧ H l = some (.lst xs) ∧ H b = some (.lst zs) ∧ xs.length + zs.length ≤ sizeLine ∧ ∀ p, H p = none → Q (.ref p) (upd H p (.lst (xs ++ zs)))
theorem op_cat : OpR X (binaryOp .Add) rCat := by
  intro pins s σ H x y v u Q I rx ry h
  obtain ⟨l, b, xs, zs, rfl, rfl, hH, hB, hz, q⟩ := h
  cases rx
  cases ry
  obtain ⟨z, its, n, r, hl, e⟩ := I.lstM hH
  obtain ⟨z2, its2, n2, r2, hl2, e2⟩ := I.lstM hB
  refine PySem.P.add_list e e2 ?_ (by rw [List.size_toArray, List.size_toArray]; omega)
  have ea : its.toArray ++ its2.toArray = (its ++ its2).toArray := by simp
  rw [ea]
  exact ⟨.ref _, _, I.lnew (t' := s.toks) (r.append r2) (by rw [List.length_append]; omega), rfl, q _ I.fresh⟩
/-! ### del xs[i] -/
end

/-! ### xs[a:b] = ys -/
section
variable {prog : Program} {w : World} {A : Around} {E : Value → Shared → Prop} {s : Shared}
set_option maxRecDepth 100000 in
end

section
variable {X : Cx}
end
end L2

namespace Att
open PySem PySem.W PySem.Calls PyProof.Rows

/-! ### the script -/
theorem ints_of_wellAll {P : Params} {h : Heap} : ∀ (ns : List Int) (vs : List Value), WellAll P h vs (ns.map WData.int) → IntsAre vs ns := by
  intro ns
  induction ns with
  | nil =>
    intro vs w
    rw [List.map_nil] at w
    cases w
    exact .nil
  | cons n ns ih =>
    intro vs w
    rw [List.map_cons] at w
    cases w with
    | cons a b =>
      cases a
      exact .cons _ _ (ih _ b)

theorem script_of {l : OpenLaw} {n : Nat} (hn : l.most = some n) {P : Params} {h : Heap} {args : List WData} {vals : List Value}
    (hpre : l.row.toRowW.claim.pre args = true) (hwl : WellAll P h vals args) :
    ∃ a vs ns, vals = [Value.ref a] ∧ args = [WData.list (ns.map WData.int)] ∧ h.get? a = some { cls := .type "list", data := .seq vs.toArray } ∧ IntsAre vs ns ∧ ns.length ≤ n := by
  have hsh : WShape.hasAll [] args [.list .int] = true := (pre_splitW hpre).1
  have hc : l.pre.holds [] { args := args } = true := (pre_splitW hpre).2
  obtain ⟨d, r, rfl, h1, h2⟩ := hasAllW_cons hsh
  obtain rfl := hasAllW_nil h2
  obtain ⟨xs, rfl, h3⟩ := hasW_list h1
  obtain ⟨ns, rfl⟩ := items_int h3
  have hlen : ns.length ≤ n := by
    unfold OpenLaw.pre at hc
    have h4 : (WTm.not (.lt (.lit (.int (n : Int))) (.len (.arg 0)))).holds [] { args := [.list (ns.map .int)] } = true := by
      have h4 := (holds_andW hc).1
      rw [hn] at h4
      exact h4
    have h5 := condW_of h4 (w_not (w_lt w_lit (w_len_list (w_arg rfl))))
    rw [List.length_map] at h5
    refine Nat.le_of_not_lt fun q => ?_
    have q' : (n : Int) < ((ns.length : Nat) : Int) := by omega
    first
      | (rw [decide_eq_true q'] at h5; exact absurd h5 (by decide))
      | (simp at h5; omega)
  cases hwl with
  | cons w1 w2 =>
    cases w2
    cases w1 with
    | list ho hall => exact ⟨_, _, ns, rfl, rfl, ho, ints_of_wellAll ns _ hall, hlen⟩

theorem post_true (l : OpenLaw) (args : List WData) : l.row.toRowW.claim.post args (.bool true) args = true :=
  postW_of (r := l.row.toRowW) (X := (true == true))
    (show WShape.has [] (.bool true) .bool = true by first | rfl | decide | simp [WShape.has, WShape.arms, WShape.armsAll])
    (show (WTm.eq .res (.lit (.bool true))).value [] { args := args, res := some (.bool true), after := args } = some (.bool (true == true)) from w_eq_bool (w_res rfl) w_lit) rfl

/-! ### the attachment: holds_open's last premise (the goal 'hc' behind k_head) from a wpAny of the law's body -/
/-- the same from a codeAny of the CALL (for a layer whose function contracts speak of calls) -/
theorem attach_call {l : OpenLaw} {n : Nat} {q : Program} {loose : List Str} {XP : (Str → Option Value) → Heap → Prop} {YP : World → Heap → Prop} {d : DefRec}
    (hn : l.most = some n) (hdf : d.params.defaults = [])
    (call : ∀ (w : World) (s₀ s₁ : Shared) (mg mb : Str → Option Value) (fa : Addr) (o : Obj) (pm cd doc : Value) (a : Addr) (vs : List Value) (ns : List Int),
      Ground q loose [] XP w s₀ mg mb s₁.heap → YP w s₁.heap →
      s₁.heap.get? fa = some o → o.data = .func (docDef d.name d.params d.body d.scope pm cd doc) → s₁.heap.CodeRec cd d.name → mg d.name = some (.ref fa) →
      s₁.heap.get? a = some { cls := .type "list", data := .seq vs.toArray } → IntsAre vs ns → ns.length ≤ n → s₁.gens = #[] →
      codeAny (model l.prog w) callerA (.call (.ref fa) ⟨[.ref a], []⟩) (fun r s' => r = .ok (.ret (.bool true)) ∧ OldK s₁.heap s'.heap ∧ s'.os = s₁.os ∧ AllBare s'.gens) s₁) :
    WalkO q loose XP YP l.row.toRowW d [] (fun f vs => PySem.call f vs) := by
  intro w s₀ s₁ mg mb G Y fa o pm cd doc dV kV ho hd hcd hD hmg hg args vals as hpre hlay hrd hwl hlo
  obtain rfl : dV = .none := Dflts.none hD hdf
  obtain rfl : kV = .none := Dflts.noKw hD
  obtain ⟨a, vs, ns, rfl, rfl, hobj, hints, hlen⟩ := script_of hn hpre hwl
  refine enter_call (codeAny_mono (call w s₀ s₁ mg mb fa o pm cd doc a vs ns G Y ho (fd_plain hd) hcd hmg hobj hints hlen hg) fun r s' hq => ?_)
  obtain ⟨rfl, h2, h3, h4⟩ := hq
  exact ⟨.inl ⟨.bool true, .bool true, [], rfl, fun _ => rfl, .bool true, post_true l _, fun _ => ⟨List.Pairwise.nil, fun _ hm => (nomatch hm)⟩⟩, h2, h3, h4⟩

/-! ### rules over ANY heap (no ledger) from facts about the written part K: the library's own take a ledger (News) for what they write -/
section
variable {prog : Program} {w : World} {A : Around} {E : Value → Shared → Prop} {s : Shared} {K : Frag}

/-! the whole heap as the ledger: makes every rule that writes through a ledger a rule over any heap -/
noncomputable def ledger (h : Heap) (L d : Addr) : List (Addr × Obj) := (List.range h.objs.size).filterMap fun a => if a = L ∨ a = d then none else (h.get? a).map fun o => (a, o)
end
end Att

namespace L2
open PySem PySem.Spec PyProof.Rows

theorem vals_ints : ∀ {vs : List Value} {ns : List Int}, IntsAre vs ns → Vals (ns.map V.int) vs
  | _, _, .nil => .nil
  | _, _, .cons n t h => .cons ⟨t, rfl⟩ (vals_ints h)

/-- nothing is tracked but the script, known to the object (or it is an object of the module) -/
noncomputable def Only (H : Hp) : Prop := ∀ b, H b = none ∨ ∃ o xs, H b = some (.frz o (.lst xs))

/-- THE HEAD: the law's promise, at the heap behind the top. F, the promise of the law's def, may use that base is part of the heap (so K.In base, base.Ns mainGlobals mg stand in Mod) -/
theorem law_call {P : Program} {w : World} {K : PySem.W.Frag} {mg mb : Str → Option Value} {CX : CXT} {k : Nat} {fa a : Addr} {fd : FuncData} {x : Str} {sp : Sp} {s₁ : Shared} {vs : List Value} {ns : List Int}
    (KX : K.In s₁.heap) (hns : s₁.heap.Ns mainGlobals mg) (hb : s₁.heap.Ns builtinsNs mb) (hbb : ∀ x : Str, x ≠ "__name__" → mb x = bootBuiltins x) (hlim : s₁.heap.NoLimit) (hg : s₁.gens = #[])
    (ha : s₁.heap.get? a = some { cls := .type "list", data := .seq vs.toArray }) (hi : IntsAre vs ns) (hl : ns.length ≤ sizeLine) (hr : Room k callerA)
    (F : ∀ base : Heap, K.In base → base.Ns mainGlobals mg → FnOk P w K mg base CX k fa fd [x] sp) (hbind : ∀ (s : Shared) (u : Value), BindsTo s fd ⟨[u], []⟩ [(x, u)])
    (hsp : ∀ H : Hp, Only H → SqL K H a (ns.map V.int) → sp [.ref a] H (fun v _ => v = .bl true) fun _ _ _ => False)
    (hCX : ∀ H e s', CX [] H s₁ (fun _ _ _ => False) e s' → False) :
    codeAny (model P w) callerA (.call (.ref fa) ⟨[.ref a], []⟩) (fun r s' => r = .ok (.ret (.bool true)) ∧ OldK s₁.heap s'.heap ∧ s'.os = s₁.os ∧ AllBare s'.gens) s₁ := by
  have rv := vals_ints hi
  have lenV := hi.length
  -- from an abstract heap in which nothing but the script may be tracked
  have core : ∀ H : Hp, Only H → SqL K H a (ns.map V.int) → HOk P w H s₁.heap → (∀ b, H b ≠ none → b = a) → (H a ≠ none → K.lookup a = none) →
      codeAny (model P w) callerA (.call (.ref fa) ⟨[.ref a], []⟩) (fun r s' => r = .ok (.ret (.bool true)) ∧ OldK s₁.heap s'.heap ∧ s'.os = s₁.os ∧ AllBare s'.gens) s₁ := by
    intro H hO hS hok hA hK
    have base_of : ∀ {b : Addr} {o : Obj}, s₁.heap.get? b = some o → H b = none → (hidT s₁.heap H).get? b = some o := fun e n => hidT_get e n
    have noA : ∀ {b : Addr} {o : Obj} {es : Array DictEntry} {ep : Nat}, s₁.heap.get? b = some o → o.data = .dict es ep → H b = none := fun {b o es ep} e d => by
      cases q : H b with
      | none => rfl
      | some u =>
        have e' : b = a := hA b (by rw [q]; simp)
        subst e'
        rw [ha] at e; cases e
        have d' : Data.seq vs.toArray _ = Data.dict es ep := d
        cases d'
    have nsK : ∀ {b : Addr} {m : Str → Option Value}, s₁.heap.Ns b m → (hidT s₁.heap H).Ns b m := fun {b m} ⟨o, es, ep, e, d, r⟩ => ⟨o, es, ep, base_of e (noA e d), d, r⟩
    have hKb : K.In (hidT s₁.heap H) := fun b o e => base_of (KX b o e) (by
      cases q : H b with
      | none => rfl
      | some u =>
        have e' : b = a := hA b (by rw [q]; simp)
        subst e'
        rw [hK (by rw [q]; simp)] at e; cases e)
    have hM : Mod K mg (hidT s₁.heap H) := ⟨hKb, nsK hns, ⟨mb, nsK hb, hbb⟩, let ⟨mc, h1, h2⟩ := hlim; ⟨mc, nsK h1, h2⟩⟩
    have e0 : Env0 P w K mg (hidT s₁.heap H) callerA [] s₁ H := ⟨rfl, hM, fun b o e => of_hidT e, Nat.le_of_eq (hidT_size _ _), trivial, fun b hb => absurd (show b ∈ ([] : List Addr) from hb) (by simp), hok, .of_eq hg⟩
    refine codeAny_mono ((F _ hKb (nsK hns)).run callerA [] s₁ H ⟨[.ref a], []⟩ [.ref a] [.ref a] _ _ hr e0 (hbind s₁ (.ref a)) (.cons rfl .nil) (hsp H hO hS)) fun r s' h => ?_
    cases r with
    | error e => exact (hCX H e s' h).elim
    | ok fl =>
      cases fl with
      | next => exact False.elim h
      | brk => exact False.elim h
      | cont => exact False.elim h
      | ret u =>
        obtain ⟨v, H', os, bare, un, hok', r', q⟩ := h
        have q' : v = .bl true := q
        subst q'
        obtain rfl : u = Value.bool true := r'
        refine ⟨rfl, OldK.of_keep fun b o e => ?_, os, bare⟩
        cases q : H b with
        | none => exact un.keep b o e q (by intro z; exact absurd (show b ∈ ([] : List Addr) from z) (by simp)) (by simp)
        | some u =>
          rcases hO b with z | ⟨ob, xs, z⟩
          · rw [q] at z; cases z
          · have z2 := un.frzs b ob _ z
            obtain ⟨e1, _⟩ := hok b _ z
            obtain ⟨e2, _⟩ := hok' b _ z2
            rw [e] at e1; cases e1
            exact e2
  cases hk : K.lookup a with
  | some o =>
    -- the script is one of the module's own objects
    have e := KX a o hk
    rw [ha] at e
    cases e
    refine core (fun _ => none) (fun _ => .inl rfl) (.inr ⟨_, vs.toArray, _, hk, rfl, rfl, rfl, by rw [List.size_toArray, lenV]; exact hl, by simpa using rv⟩) (fun b u z => by have z' : (none : Option HO) = some u := z; cases z') (fun b z => absurd rfl z) fun z => absurd rfl z
  | none =>
    refine core (fun b => if b = a then some (.frz { cls := .type "list", data := .seq vs.toArray } (.lst (ns.map V.int))) else none) (fun b => ?_) (.inl (.inr ⟨{ cls := .type "list", data := .seq vs.toArray }, if_pos rfl⟩)) (fun b u z => ?_) (fun b z => ?_) fun _ => hk
    · by_cases hb : b = a
      · exact .inr ⟨_, _, if_pos hb⟩
      · exact .inl (if_neg hb)
    · by_cases hb : b = a
      · have z' := (if_pos hb).symm.trans z
        cases z'
        subst hb
        exact ⟨ha, by rw [List.length_map]; exact hl, vs, _, rv, ha⟩
      · have z' := (if_neg hb).symm.trans z
        cases z'
    · by_cases hb : b = a
      · exact hb
      · exact absurd (if_neg hb) z
end L2

namespace L2
open PySem PySem.Spec PyProof.Rows

noncomputable abbrev KOf {K : PySem.W.Frag} {h : Heap} (_ : K.In h) : PySem.W.Frag := K

/-- the goal that k_head leaves (case hc), from the law's promise. F gives the function object fd (K's own) once, then the promise over every base -/
theorem walk_of {l : PySem.W.OpenLaw} {n k : Nat} {q : Program} {loose : List Str} {XP : (Str → Option Value) → Heap → Prop} {YP : World → Heap → Prop} {d : DefRec} {K : Params → PySem.W.Frag} {CX : World → CXT} {sp : World → Sp} {x : Str}
    (hn : l.most = some n) (hn2 : n ≤ sizeLine) (hdf : d.params.defaults = []) (hr : Room k callerA)
    (hY : ∀ (w : World) (h : Heap), YP w h → (K w.params).In h)
    (F : ∀ (w : World) (mg : Str → Option Value) (fa : Addr) (h : Heap), (K w.params).In h → h.Ns mainGlobals mg → mg d.name = some (.ref fa) →
      ∃ fd : FuncData, (∀ (s : Shared) (u : Value), BindsTo s fd ⟨[u], []⟩ [(x, u)]) ∧
        ∀ base : Heap, (K w.params).In base → base.Ns mainGlobals mg → FnOk l.prog w (K w.params) mg base (CX w) k fa fd [x] (sp w))
    (hsp : ∀ (w : World) (H : Hp) (a : Addr) (ns : List Int), ns.length ≤ n → Only H → SqL (K w.params) H a (ns.map V.int) → sp w [.ref a] H (fun v _ => v = .bl true) fun _ _ _ => False)
    (hCX : ∀ (w : World) (H : Hp) (s : Shared) (e : Value) (s' : Shared), CX w [] H s (fun _ _ _ => False) e s' → False) :
    PySem.W.WalkO q loose XP YP l.row.toRowW d [] (fun f vs => PySem.call f vs) := by
  refine Att.attach_call hn hdf fun w s₀ s₁ mg mb fa o pm cd doc a vs ns G Y ho hd hcd hmg hobj hints hlen hg => ?_
  have KX := hY w _ Y
  obtain ⟨fd, hb, hF⟩ := F w mg fa _ KX G.T.g hmg
  exact law_call KX G.T.g G.T.b G.T.builtins G.T.nolimit hg hobj hints (Nat.le_trans hlen hn2) hr hF hb (fun H hO hS => hsp w H a ns hlen hO hS) fun H e s' => hCX w H s₁ e s'
end L2

/- THE LAST THEOREM (shape; LID, My.* are yours):
   My.Adr: a structure of the addresses that your layer names (classes, functions); My.Txt K t: a structure (Prop) of the equations over K;
   My.txt_mk : {K} {implicit addresses ..} (e1 : nsIn K mainGlobals "law" = some (some (.ref f))) (e2 : K.lookup f = some ⟨oc, od, .func (fnOf "law" "law" params body scope dV kV doc pm an cdv ct), sl⟩) (e3 : codeIn K cdv "law" = true) .. : ∃ t, My.Txt K t

set_option maxRecDepth 100000 in
set_option maxHeartbeats 0 in
theorem PySem.Challenge.cw_LID_holds : PySem.Challenge.rw_LID.Holds := by
  w_on; o_law; k_head; (case hw => w_witness2)
  k_fill
  refine L2.walk_of (l := PySem.Challenge.rw_LID) (n := 63) (k := 40) (x := "script") (CX := fun w => ..) (sp := fun _ => My.sp_law) rfl (by decide) rfl ⟨rfl, by decide, by decide⟩ (fun w h Y => PySem.W.kIn_of Y) ?F ?S ?C
  case F =>
    intro w mg fa h KX G hmg
    have T : ∃ t, My.Txt (L2.KOf KX) t := by
      dsimp only [L2.KOf]                          -- K must stand as «<heap const> w.params» for k_is
      refine' My.txt_mk ?e1 ?e2 ?e3 ..
      (case e1 => PySem.W.k_is)                    -- in the order: a name -> its address -> its object -> its parts
      (case e2 => PySem.W.k_is)
      ..
    obtain ⟨t, T⟩ := T
    have e0 := hmg.symm.trans (PySem.W.mg_of KX G T.law)
    cases e0                                       -- fa is the law's own address
    exact ⟨_, fun s u => .of_eq rfl, fun base kb nb => My.law_fn T kb nb⟩     -- if «.of_eq rfl» comes too early: refine' ⟨_, ?b, fun base kb nb => My.law_fn T kb nb⟩; exact fun s u => .of_eq rfl
  case S => exact fun w H a ns hl hO hS => ..
  case C => exact ..
(the tactic k_is has no namespace: write k_is) -/

/-! SHORT WORDS over the layer: a def of the text, its body, what a loop and a test want. -/
namespace L2
open PySem PySem.Spec PyProof.Rows

/-! ### the text by places -/
/-- the j-th statement of a class's body -/
noncomputable def defArgs (s : Stmt) : Arguments := match s with
  | .FunctionDef _ a _ _ _ _ _ _ _ _ => a
  | _ => { posonlyargs := [], args := [], vararg := none, kwonlyargs := [], kw_defaults := [], kwarg := none, defaults := [] }
noncomputable def defBody (s : Stmt) : List Stmt := match s with
  | .FunctionDef _ _ b _ _ _ _ _ _ _ => b
  | _ => []
noncomputable def defScope (s : Stmt) : Scope := match s with
  | .FunctionDef _ _ _ _ _ _ sc _ _ _ => sc
  | _ => { kind := .function, names := [], isGenerator := false, isCoroutine := false }

/-! ### no exception leaves a def -/
noncomputable abbrev CX0 : CXT := fun _ _ _ _ _ _ => False
noncomputable abbrev E0 : XK := fun _ _ _ => False
theorem pass0 {X : Cx} : Passes CX0 X E0 := fun _ _ _ _ _ _ _ h => h.elim

/-! ### a def (or method) of the text as it stands behind the top -/
structure Fun (K : PySem.W.Frag) (x qual : Str) (st : Stmt) (f : Addr) (fd : FuncData) : Prop where
  ex : ∃ (oc : Value) (od : Option Addr) (kV doc pm : Value) (an : Option Addr) (cdv ct : Value) (osl : Array (Option Value)),
    fd = PySem.W.fnOf x qual (defArgs st) (defBody st) (defScope st) .none kV doc pm an cdv ct ∧ K.lookup f = some ⟨oc, od, .func fd, osl⟩ ∧ PySem.W.codeIn K cdv qual = true
  kp : PySem.W.keepIn K (.ref f) = true
section
variable {P : Program} {w : World} {K : PySem.W.Frag} {mg : Str → Option Value} {base : Heap}
/-- THE RULE for a def: its body as a term of rules, and the reading of that term -/
theorem Fun.ok {x qual : Str} {st : Stmt} {f : Addr} {fd : FuncData} {N ps : List Str} {k : Nat} {sp : Sp} (F : Fun K x qual st f fd) (S : FnScope N ps (defScope st)) (len : ∀ vs H Q E, sp vs H Q E → vs.length = ps.length)
    (hbody : ∀ (cdv : Value) (A : Around) (outer : List Env) (s : Shared) (H : Hp) (vs : List V) (Q : VK) (E : XK), Room k (A.deeper (envOfC qual (defScope st) s.heap.objs.size f cdv)) → sp vs H Q E →
      ∃ t, PSs (cxOf CX0 P w K mg base N qual (defScope st) f cdv A outer s H E).nox (defBody st) t ∧ t { nx := fun _ H' => Q .non H', rt := Q } (start N vs) H) : FnOk P w K mg base CX0 (k + 1) f fd ps sp := by
  obtain ⟨oc, od, kV, doc, pm, an, cdv, ct, osl, rfl, lk, hcd⟩ := F.ex
  refine fn_of lk hcd S len fun A outer s H vs Q E hr hsp => ?_
  obtain ⟨t, h, q⟩ := hbody cdv A outer s H vs Q E hr hsp
  exact ⟨t, h.nox, q⟩
/-- how its arguments bind (no defaults): h is «fun _ _ _ _ _ _ us hl => match us, hl with | [_, _], _ => rfl», one _ a parameter -/
theorem Fun.binds {x qual : Str} {st : Stmt} {f : Addr} {fd : FuncData} {ps : List Str} (F : Fun K x qual st f fd)
    (h : ∀ (kV doc pm : Value) (an : Option Addr) (cdv ct : Value) (us : List Value), us.length = ps.length → bindArgs (PySem.W.fnOf x qual (defArgs st) (defBody st) (defScope st) .none kV doc pm an cdv ct) ⟨us, []⟩ = pure (ps.zip us)) : Binds K fd ps [] := by
  obtain ⟨oc, od, kV, doc, pm, an, cdv, ct, osl, rfl, lk, hcd⟩ := F.ex
  exact .all (h kV doc pm an cdv ct)
theorem fun_mk {x qual : Str} {st : Stmt} {f : Addr} {oc : Value} {od an : Option Addr} {osl : Array (Option Value)} {kV doc pm cdv ct : Value} (l : K.lookup f = some ⟨oc, od, .func (PySem.W.fnOf x qual (defArgs st) (defBody st) (defScope st) .none kV doc pm an cdv ct), osl⟩)
    (c : PySem.W.codeIn K cdv qual = true) (k : PySem.W.keepIn K (.ref f) = true) : Fun K x qual st f (PySem.W.fnOf x qual (defArgs st) (defBody st) (defScope st) .none kV doc pm an cdv ct) := ⟨⟨oc, od, kV, doc, pm, an, cdv, ct, osl, rfl, l, c⟩, k⟩
end
/-! ### expressions in short: the name that stands in the i-th slot -/
section
variable {X : Cx}
theorem pv (i : Nat) {x : Str} {pos : Pos} (hN : X.N[i]? = some x := by rfl) (hv : Vis X.env.scope x := by first | exact Or.inl rfl | exact Or.inr (Or.inl rfl) | exact Or.inr (Or.inr rfl)) (hd : (x == ("__debug__" : Str)) = false := by decide)
    (hcd : (x == ("__classdict__" : Str)) = false := by decide) : PE X (.Name x pos) (tVar i) := pe_var hN hv hd hcd
end

/-! ### tests -/
theorem iteF {A B : Prop} (h : B) : if false = true then A else B := by
  rw [if_neg Bool.false_ne_true]
  exact h
theorem iteT {A B : Prop} (h : A) : if true = true then A else B := by
  rw [if_pos rfl]
  exact h
theorem iteNS {c A B : Prop} [Decidable c] (hc : c) (h : B) : if (!decide c) = true then A else B := by
  rw [decide_eq_true hc]
  exact iteF h

/-! ### heaps -/
/-- all that was tracked is as it was -/
noncomputable def Same (H H' : Hp) : Prop := ∀ b o, H b = some o → H' b = some o
theorem Same.refl (H : Hp) : Same H H := fun _ _ h => h
theorem Same.trans {H H1 H2 : Hp} (a : Same H H1) (b : Same H1 H2) : Same H H2 := fun c o h => b c o (a c o h)
theorem Same.free {H H' : Hp} (e : Same H H') {l : Addr} (h : H' l = Option.none) : H l = Option.none := by
  cases q : H l with
  | none => rfl
  | some o =>
    rw [e l o q] at h
    cases h
theorem Same.seq {K : PySem.W.Frag} {H H' : Hp} {a : Addr} {xs : List V} (e : Same H H') (h : SqL K H a xs) : SqL K H' a xs := by
  rcases h with (h | ⟨o, h⟩) | h
  · exact .inl (.inl (e _ _ h))
  · exact .inl (.inr ⟨o, e _ _ h⟩)
  · exact .inr h

end L2

namespace Cv
/-! sizes -/
structure Sz (n : Nat) (x : Int) : Prop where
  lt : x.natAbs < 2 ^ n
theorem Sz.mono {n m : Nat} {x : Int} (h : Sz n x) (hm : n ≤ m) : Sz m x := ⟨Nat.lt_of_lt_of_le h.lt (Nat.pow_le_pow_right (by decide) hm)⟩
theorem Sz.le {n : Nat} {x y : Int} (h : Sz n x) (hy : y.natAbs ≤ x.natAbs) : Sz n y := ⟨Nat.lt_of_le_of_lt hy h.lt⟩
theorem Sz.mul {n m : Nat} {x y : Int} (h : Sz n x) (k : Sz m y) : Sz (n + m) (x * y) := by
  refine ⟨?_⟩
  rw [Int.natAbs_mul, Nat.pow_add]
  exact Nat.mul_lt_mul'' h.lt k.lt
theorem Sz.add {n m : Nat} {x y : Int} (h : Sz n x) (k : Sz m y) : Sz (max n m + 1) (x + y) := by
  refine ⟨?_⟩
  have h1 := (h.mono (Nat.le_max_left n m)).lt
  have h2 := (k.mono (Nat.le_max_right n m)).lt
  have h3 := Int.natAbs_add_le x y
  rw [Nat.pow_succ]
  omega
theorem Sz.neg {n : Nat} {x : Int} (h : Sz n x) : Sz n (-x) := ⟨by rw [Int.natAbs_neg]; exact h.lt⟩
theorem Sz.sub {n m : Nat} {x y : Int} (h : Sz n x) (k : Sz m y) : Sz (max n m + 1) (x - y) := by
  rw [Int.sub_eq_add_neg]
  exact h.add k.neg
theorem Sz.one : Sz 1 1 := ⟨by decide⟩
/-! a fraction's size -/
structure Bd (n : Nat) (q : Rat) : Prop where
  num : Sz n q.num
  den : Sz n (q.den : Int)
theorem Bd.mono {n m : Nat} {q : Rat} (h : Bd n q) (hm : n ≤ m) : Bd m q := ⟨h.num.mono hm, h.den.mono hm⟩
theorem num_le (a b : Int) (hb : b ≠ 0) : (Rat.divInt a b).num.natAbs ≤ a.natAbs ∧ (Rat.divInt a b).den ≤ b.natAbs := by
  refine ⟨?_, ?_⟩
  · rw [Rat.num_divInt]
    have h2 : (b.sign * a).natAbs = a.natAbs := by
      rw [Int.natAbs_mul, Int.natAbs_sign_of_ne_zero hb, Nat.one_mul]
    have hd : (b.gcd a : Int) ∣ b.sign * a := Int.dvd_mul_of_dvd_right (Int.gcd_dvd_right ..)
    rw [← h2]
    have := Int.natAbs_ediv_of_dvd hd
    rw [this]
    exact Nat.div_le_self _ _
  · rw [Rat.den_divInt, if_neg hb]
    exact Nat.div_le_self _ _
theorem Bd.of {n m : Nat} {a b : Int} (ha : Sz n a) (hb : Sz m b) (h0 : b ≠ 0) : Bd (max n m) (Rat.divInt a b) :=
  ⟨(ha.mono (Nat.le_max_left n m)).le (num_le a b h0).1, (hb.mono (Nat.le_max_right n m)).le (by rw [Int.natAbs_natCast]; exact (num_le a b h0).2)⟩
theorem den_ne (q : Rat) : (q.den : Int) ≠ 0 := by have := q.den_pos; omega
theorem add_eq (a b : Rat) : Rat.divInt (a.num * b.den + b.num * a.den) ((a.den : Int) * b.den) = a + b := by
  have := Rat.divInt_add_divInt a.num b.num (den_ne a) (den_ne b)
  rw [Rat.num_divInt_den, Rat.num_divInt_den] at this
  exact this.symm
theorem sub_eq (a b : Rat) : Rat.divInt (a.num * b.den - b.num * a.den) ((a.den : Int) * b.den) = a - b := by
  have := Rat.divInt_sub_divInt a.num b.num (den_ne a) (den_ne b)
  rw [Rat.num_divInt_den, Rat.num_divInt_den] at this
  exact this.symm
theorem mul_eq (a b : Rat) : Rat.divInt (a.num * b.num) ((a.den : Int) * b.den) = a * b := by
  have := Rat.divInt_mul_divInt a.num b.num (d₁ := a.den) (d₂ := b.den)
  rw [Rat.num_divInt_den, Rat.num_divInt_den] at this
  exact this.symm
theorem den_mul_ne (a b : Rat) : (a.den : Int) * b.den ≠ 0 := Int.mul_ne_zero (den_ne a) (den_ne b)
theorem Bd.add {n m : Nat} {a b : Rat} (h : Bd n a) (k : Bd m b) : Bd (n + m + 1) (a + b) := by
  rw [← add_eq]
  exact (Bd.of ((h.num.mul k.den).add (k.num.mul h.den)) (h.den.mul k.den) (den_mul_ne a b)).mono (by omega)
theorem Bd.sub {n m : Nat} {a b : Rat} (h : Bd n a) (k : Bd m b) : Bd (n + m + 1) (a - b) := by
  rw [← sub_eq]
  exact (Bd.of ((h.num.mul k.den).sub (k.num.mul h.den)) (h.den.mul k.den) (den_mul_ne a b)).mono (by omega)
theorem Bd.mul {n m : Nat} {a b : Rat} (h : Bd n a) (k : Bd m b) : Bd (n + m) (a * b) := by
  rw [← mul_eq]
  exact (Bd.of (h.num.mul k.num) (h.den.mul k.den) (den_mul_ne a b)).mono (by omega)
/-! the share of two whole numbers, as it is reckoned -/
theorem share_pos (t b : Int) (hb : 0 < b) : t.fdiv (Int.gcd t b) = (Rat.divInt t b).num ∧ b.fdiv (Int.gcd t b) = ((Rat.divInt t b).den : Int) := by
  rw [Rat.num_divInt, Rat.den_divInt, if_neg (by omega), Int.sign_eq_one_of_pos hb, Int.one_mul, Int.gcd_comm b t]
  refine ⟨Int.fdiv_eq_ediv_of_nonneg _ (Int.natCast_nonneg _), ?_⟩
  rw [Int.fdiv_eq_ediv_of_nonneg _ (Int.natCast_nonneg _), Int.natCast_ediv, Int.natAbs_of_nonneg (Int.le_of_lt hb)]
theorem gcd_step (a b : Int) : Int.gcd b (a.fmod b) = Int.gcd a b := by
  rw [Int.fmod_def, Int.sub_eq_add_neg, ← Int.mul_neg, Int.gcd_add_mul_left_right, Int.gcd_comm]
theorem fmod_lt (a b : Int) (hb : b ≠ 0) : (a.fmod b).natAbs < b.natAbs := by
  rw [Int.fmod_eq_emod]
  have h1 := Int.emod_nonneg a hb
  have h2 := Int.emod_lt a hb
  by_cases h : 0 ≤ b ∨ b ∣ a
  · rw [if_pos h]; omega
  · rw [if_neg h]
    have h3 : a % b ≠ 0 := fun z => h (.inr (Int.dvd_of_emod_eq_zero z))
    omega
theorem gcd_zero (a : Int) : (if a < 0 then -a else a) = (Int.gcd a 0 : Int) := by
  rw [Int.gcd_zero]
  split <;> omega
theorem gcd_pos' (t b : Int) (hb : b ≠ 0) : (Int.gcd t b : Int) ≠ 0 := by
  have := Int.gcd_pos_of_ne_zero_right t hb
  omega
end Cv
namespace Cv
theorem divInt_cast (a b : Int) : Rat.divInt a b = (a : Rat) / (b : Rat) := Rat.divInt_eq_div a b
theorem num_cast (q : Rat) : (q.num : Rat) = q * ((q.den : Int) : Rat) := by
  have h := Rat.num_divInt_den q
  rw [Rat.divInt_eq_div] at h
  have hd : ((q.den : Int) : Rat) ≠ 0 := by
    intro z
    exact den_ne q (by exact_mod_cast z)
  conv => rhs; rw [← h]
  grind
theorem den_cast_ne (q : Rat) : ((q.den : Int) : Rat) ≠ 0 := by
  intro z
  exact den_ne q (by exact_mod_cast z)
/-- a quotient of whole numbers, by what it is worth -/
theorem eq_divInt {q : Rat} {t b : Int} (hb : b ≠ 0) (h : q * (b : Rat) = (t : Rat)) : q = Rat.divInt t b := by
  rw [Rat.divInt_eq_div]
  have hb' : (b : Rat) ≠ 0 := by
    intro z
    exact hb (by exact_mod_cast z)
  grind
end Cv

namespace Cv
open PySem PySem.Spec PyProof.Rows L2
section
variable {X : Cx}
/-! ### products and quotients of greater numbers -/
noncomputable def CMulB (i j : Int) : Prop := ∃ n m, Sz n i ∧ Sz m j ∧ n + m ≤ 100000000
noncomputable def CDivB (_i j : Int) : Prop := j ≠ 0 ∧ Sz 9000 j
theorem op_fdivB : OpR X (binaryOp .FloorDiv) (rI CDivB fun i j => .int (i.fdiv j)) := opI fun i j _ _ _ _ _ hc q => by
  obtain ⟨h0, h1⟩ := hc
  refine floordiv_int h0 q (.inl (PyProof.noPylong_of_log2 ?_))
  have hp : j.natAbs ≠ 0 := by omega
  exact (Nat.log2_lt hp).mpr h1.lt
/-! ### isinstance -/
theorem vals_one {x : V} {us : List Value} (r : Vals [x] us) : ∃ u, us = [u] ∧ RelV x u := by
  cases r with
  | cons p q => cases q; exact ⟨_, rfl, p⟩
theorem vals_two {x y : V} {us : List Value} (r : Vals [x, y] us) : ∃ u v, us = [u, v] ∧ RelV x u ∧ RelV y v := by
  cases r with
  | cons p q =>
    obtain ⟨v, rfl, p'⟩ := vals_one q
    exact ⟨_, _, rfl, p, p'⟩
theorem call_isi : CallR X (.builtin "isinstance") (fun xs H Q => ∃ x T t b, xs = [x, .ty T] ∧ TyOf X.K H x t ∧ PySem.W.kitOne X.K t (.type T) = some b ∧ Q (.bl b) H) := by
  intro pins s σ H xs us Q I r h
  obtain ⟨x, T, t, b, rfl, ty, e, q⟩ := h
  obtain ⟨u, v, rfl, ru, rv⟩ := vals_two r
  cases rv
  exact isinst_ok I ru ty e fun tk => ⟨.bl b, H, I.tok tk, rfl, q⟩
/-! ### data -/
mutual
/-- v is the data d -/
noncomputable def Dn (K : PySem.W.Frag) (H : Hp) : PySem.W.Dat → V → Prop
  | .none, v => v = .non
  | .bool b, v => v = .bl b
  | .int i, v => v = .int i
  | .str x, v => v = .str x
  | .bytes _, _ => False
  | .tuple ds, v => ∃ a xs, v = .ref a ∧ SqT K H a xs ∧ DnAll K H ds xs
  | .list ds, v => ∃ a xs, v = .ref a ∧ SqL K H a xs ∧ DnAll K H ds xs
noncomputable def DnAll (K : PySem.W.Frag) (H : Hp) : List PySem.W.Dat → List V → Prop
  | [], xs => xs = []
  | d :: ds, xs => ∃ y ys, xs = y :: ys ∧ Dn K H d y ∧ DnAll K H ds ys
end
mutual
theorem dn_reads {pins : List (Addr × Obj)} {σ : L2.St} {H : Hp} {s : Shared} (I : Inv X pins σ H s) : ∀ (n : Nat) (d : PySem.W.Dat) (v : V) (u : Value), Dn X.K H d v → RelV v u → PySem.W.kqdOk n d = true → ∃ as, Reads s.heap u (PySem.W.kqdP d) as
  | n, .none, v, u, h, r, _ => by
    cases (show v = .non from by simpa [Dn] using h); cases r
    rw [PySem.W.kqdP]; exact ⟨_, Reads.none⟩
  | n, .bool b, v, u, h, r, _ => by
    cases (show v = .bl b from by simpa [Dn] using h); cases r
    rw [PySem.W.kqdP]; exact ⟨_, Reads.bool b⟩
  | n, .int i, v, u, h, r, _ => by
    cases (show v = .int i from by simpa [Dn] using h)
    obtain ⟨t, rfl⟩ := r
    rw [PySem.W.kqdP]; exact ⟨_, Reads.int i t⟩
  | n, .str x, v, u, h, r, _ => by
    cases (show v = .str x from by simpa [Dn] using h)
    obtain ⟨t, rfl⟩ := r
    rw [PySem.W.kqdP]; exact ⟨_, Reads.str x t⟩
  | n, .bytes b, v, u, h, r, _ => by simp [Dn] at h
  | 0, .tuple ds, v, u, h, r, hk => by simp [PySem.W.kqdOk] at hk
  | 0, .list ds, v, u, h, r, hk => by simp [PySem.W.kqdOk] at hk
  | n + 1, .tuple ds, v, u, h, r, hk => by
    rw [Dn] at h
    obtain ⟨a, xs, rfl, hs, hd⟩ := h
    cases r
    obtain ⟨its, rv, ⟨o, ho, hc, m, hdt⟩, hz⟩ := I.tuple hs
    obtain ⟨as, q⟩ := dn_readsAll I n ds xs its hd rv (by simpa [PySem.W.kqdOk] using hk)
    rw [PySem.W.kqdP]
    exact ⟨as, reads_tuple_at ho hc hdt (by simpa using q)⟩
  | n + 1, .list ds, v, u, h, r, hk => by
    rw [Dn] at h
    obtain ⟨a, xs, rfl, hs, hd⟩ := h
    cases r
    obtain ⟨its, rv, pl, hz⟩ := I.list hs
    obtain ⟨o, ho, hc, m, hdt⟩ := pl.isList
    obtain ⟨as, q⟩ := dn_readsAll I n ds xs its hd rv (by simpa [PySem.W.kqdOk] using hk)
    rw [PySem.W.kqdP]
    exact ⟨_, reads_list_at ho hc hdt (by simpa using q)⟩
theorem dn_readsAll {pins : List (Addr × Obj)} {σ : L2.St} {H : Hp} {s : Shared} (I : Inv X pins σ H s) : ∀ (n : Nat) (ds : List PySem.W.Dat) (xs : List V) (us : List Value), DnAll X.K H ds xs → Vals xs us → (∀ d ∈ ds, PySem.W.kqdOk n d = true) → ∃ as, ReadsAll s.heap us (PySem.W.kqdPs ds) as
  | n, [], xs, us, h, r, _ => by
    cases (show xs = [] from by simpa [DnAll] using h)
    cases r
    rw [PySem.W.kqdPs]; exact ⟨_, ReadsAll.nil⟩
  | n, d :: ds, xs, us, h, r, hk => by
    rw [DnAll] at h
    obtain ⟨y, ys, rfl, h1, h2⟩ := h
    cases r with
    | cons p q =>
      obtain ⟨as, r1⟩ := dn_reads I n d y _ h1 p (hk d (.head _))
      obtain ⟨bs, r2⟩ := dn_readsAll I n ds ys _ h2 q fun e he => hk e (.tail _ he)
      rw [PySem.W.kqdPs]
      exact ⟨_, ReadsAll.cons r1 r2⟩
end
theorem shaped_ok {d : PySem.W.Dat} (h : PySem.W.kqdOk 8 d = true) : SeqAt.shaped (PySem.W.kqdP d) = true := by
  have la := PySem.W.kqd_lay 8 d h
  unfold SeqAt.shaped; rw [la.1, Bool.true_and]; exact decide_eq_true (Nat.le_trans la.2 (by decide))
noncomputable def rEqD (K : PySem.W.Frag) : R2 := fun x y H Q => ∃ d e, Dn K H d x ∧ Dn K H e y ∧ PySem.W.kqdOk 8 d = true ∧ PySem.W.kqdOk 8 e = true ∧ ∀ b : Bool, (b = true ↔ d = e) → Q (.bl b) H
noncomputable def rNeD (K : PySem.W.Frag) : R2 := fun x y H Q => ∃ d e, Dn K H d x ∧ Dn K H e y ∧ PySem.W.kqdOk 8 d = true ∧ PySem.W.kqdOk 8 e = true ∧ ∀ b : Bool, (b = true ↔ d = e) → Q (.bl (!b)) H
theorem op_eqD (hu : X.A.units + 64 < cLine) : OpR X (compareOp .Eq) (rEqD X.K) := by
  intro pins s σ H x y v u Q I rx ry h
  obtain ⟨d, e, hd, he, k1, k2, q⟩ := h
  obtain ⟨as, r1⟩ := dn_reads I 8 d x v hd rx k1
  obtain ⟨bs, r2⟩ := dn_reads I 8 e y u he ry k2
  exact eq_dataH r1 r2 (shaped_ok k1) (shaped_ok k2) hu ⟨.bl _, H, I, rfl, q _ (PySem.W.kqd_eqv 8 d e 8 k1 k2)⟩
theorem op_neD (hu : X.A.units + 64 < cLine) : OpR X (compareOp .NotEq) (rNeD X.K) := by
  intro pins s σ H x y v u Q I rx ry h
  obtain ⟨d, e, hd, he, k1, k2, q⟩ := h
  obtain ⟨as, r1⟩ := dn_reads I 8 d x v hd rx k1
  obtain ⟨bs, r2⟩ := dn_reads I 8 e y u he ry k2
  exact ne_dataH r1 r2 (shaped_ok k1) (shaped_ok k2) hu ⟨.bl _, H, I, rfl, q _ (PySem.W.kqd_eqv 8 d e 8 k1 k2)⟩
end
/-! ### shares -/
noncomputable def ShV (H : Hp) (v : V) (q : Rat) : Prop := ∃ a, v = .ref a ∧ H a = some (.tup [.int q.num, .int (q.den : Int)])
theorem ShV.same {H H' : Hp} {v : V} {q : Rat} (h : ShV H v q) (e : Same H H') : ShV H' v q := by
  obtain ⟨a, rfl, h⟩ := h
  exact ⟨a, rfl, e _ _ h⟩
noncomputable def datSh (q : Rat) : PySem.W.Dat := .tuple [.int q.num, .int (q.den : Int)]
theorem datSh_inj {p q : Rat} : datSh p = datSh q ↔ p = q := by
  unfold datSh
  constructor
  · intro h
    simp at h
    exact Rat.ext h.1 (Int.ofNat.inj h.2)
  · intro h; rw [h]
theorem datSh_ok (q : Rat) (n : Nat) : PySem.W.kqdOk (n + 1) (datSh q) = true := by
  cases n <;> simp [datSh, PySem.W.kqdOk]
theorem ShV.dn {K : PySem.W.Frag} {H : Hp} {v : V} {q : Rat} (h : ShV H v q) : Dn K H (datSh q) v := by
  obtain ⟨a, rfl, h⟩ := h
  unfold datSh
  simp only [Dn, DnAll]
  exact ⟨a, _, rfl, SqT.of h, _, _, rfl, rfl, _, _, rfl, rfl, rfl⟩
theorem Same.new {H : Hp} {p : Addr} {o : HO} (h : H p = none) : Same H (upd H p o) := fun b u e => by
  rw [upd_ne (ne_of_none e h)]; exact e
theorem SqT.same {K : PySem.W.Frag} {H H' : Hp} {a : Addr} {xs : List V} (e : Same H H') (h : SqT K H a xs) : SqT K H' a xs := by
  rcases h with (h | ⟨o, h⟩) | h
  · exact .inl (.inl (e _ _ h))
  · exact .inl (.inr ⟨o, e _ _ h⟩)
  · exact .inr h
end Cv

namespace Cv
open PySem PySem.Spec PyProof.Rows L2
/-! ### a def of the text, in one word -/
/-- a def of the module as the top left it -/
structure FunAt (K : PySem.W.Frag) (mg : Str → Option Value) (x : Str) (st : Stmt) (ps : List Str) : Prop where
  ex : ∃ (f : Addr) (fd : FuncData), Fun K x x st f fd ∧ mg x = some (.ref f) ∧ Binds K fd ps []
structure DefOk (P : Program) (w : World) (K : PySem.W.Frag) (mg : Str → Option Value) (base : Heap) (CX : CXT) (k : Nat) (x : Str) (ps : List Str) (sp : Sp) : Prop where
  ex : ∃ (f : Addr) (fd : FuncData), FnOk P w K mg base CX k f fd ps sp ∧ mg x = some (.ref f) ∧ PySem.W.keepIn K (.ref f) = true ∧ Binds K fd ps [] ∧
    ∃ (oc : Value) (od : Option Addr) (osl : Array (Option Value)), K.lookup f = some ⟨oc, od, .func fd, osl⟩
/-- the names that the module leaves to the builtins -/
structure Blt (mg : Str → Option Value) : Prop where
  len : mg "len" = none
  abs : mg "abs" = none
  range : mg "range" = none
  max : mg "max" = none
  min : mg "min" = none
  any : mg "any" = none
  all : mg "all" = none
  sum : mg "sum" = none
  isinstance : mg "isinstance" = none
  int : mg "int" = none
  bool : mg "bool" = none
  tuple : mg "tuple" = none
  list : mg "list" = none
  str : mg "str" = none
  ValueError : mg "ValueError" = none
  zip : mg "zip" = none
  reversed : mg "reversed" = none
  enumerate : mg "enumerate" = none
  sorted : mg "sorted" = none
  dict : mg "dict" = none
section
variable {P : Program} {w : World} {K : PySem.W.Frag} {mg : Str → Option Value} {base : Heap}
theorem FunAt.mk' {x : Str} {st : Stmt} {ps : List Str} {f : Addr} {oc : Value} {od an : Option Addr} {osl : Array (Option Value)} {kV doc pm cdv ct : Value} (hm : mg x = some (.ref f))
    (l : K.lookup f = some ⟨oc, od, .func (PySem.W.fnOf x x (defArgs st) (defBody st) (defScope st) .none kV doc pm an cdv ct), osl⟩)
    (c : PySem.W.codeIn K cdv x = true) (k : PySem.W.keepIn K (.ref f) = true)
    (h : ∀ (kV doc pm : Value) (an : Option Addr) (cdv ct : Value) (us : List Value), us.length = ps.length → bindArgs (PySem.W.fnOf x x (defArgs st) (defBody st) (defScope st) .none kV doc pm an cdv ct) ⟨us, []⟩ = pure (ps.zip us)) : FunAt K mg x st ps := by
  have F := fun_mk (st := st) l c k
  exact ⟨_, _, F, hm, F.binds h⟩
theorem def_ok {x : Str} {st : Stmt} {N ps : List Str} {k : Nat} {sp : Sp} (F : FunAt K mg x st ps) (S : FnScope N ps (defScope st)) (len : ∀ vs H Q E, sp vs H Q E → vs.length = ps.length)
    (hbody : ∀ (f : Addr) (cdv : Value) (A : Around) (outer : List Env) (s : Shared) (H : Hp) (vs : List V) (Q : VK) (E : XK), Room k (A.deeper (envOfC x (defScope st) s.heap.objs.size f cdv)) → sp vs H Q E →
      ∃ t, PSs (cxOf CX0 P w K mg base N x (defScope st) f cdv A outer s H E).nox (defBody st) t ∧ t { nx := fun _ H' => Q .non H', rt := Q } (start N vs) H) : DefOk P w K mg base CX0 (k + 1) x ps sp := by
  obtain ⟨f, fd, F, hm, hb⟩ := F.ex
  exact ⟨f, fd, F.ok S len fun cdv A outer s H vs Q E hr h => hbody f cdv A outer s H vs Q E hr h, hm, F.kp, hb, let ⟨oc, od, _, _, _, _, _, _, osl, _, l, _⟩ := F.ex; ⟨oc, od, osl, l⟩⟩
end
section
variable {X : Cx} {CX : CXT} {k j : Nat} {ps : List Str} {sp : Sp} {E : XK} {x : Str} {p pos : Pos} {e : Expr} {es : List Expr} {t : TA}
noncomputable def tFn (sp : Sp) (E : XK) (t : TA) : TE := fun σ H Q => t σ H fun vs H1 => sp vs H1 Q E
theorem pe_fn (D : DefOk X.prog X.w X.K X.mg X.base CX k x ps sp) (hr : Room j X.A) (hx : Passes CX X E) (ha : PA X (e :: es) t) (hk : k ≤ j := by decide) (hg : Gl X x := by rfl)
    (hdb : (x == ("__debug__" : Str)) = false := by decide) (he : starEach (e :: es) X.env = (false, eval e X.env) :: starEach es X.env := by rfl) (hpl : (backTo pos (starEach es X.env)).any (·.1) = false := by rfl) :
    PE X (.Call (.Name x p) (e :: es) [] pos) (tFn sp E t) := by
  obtain ⟨f, fd, F, hm, kp, hb, _⟩ := D.ex
  intro pins s σ H Q I h
  have q := pe_call (X := X) (p := p) (pos := pos) F (hr.mono hk) hg hm kp hb .nil hx ha hdb he hpl
  refine q pins s σ H Q I ?_
  unfold tCall
  have e : (fun (vs : List V) (H1 : Hp) => sp (vs ++ []) H1 Q E) = fun vs H1 => sp vs H1 Q E := by
    funext vs H1
    rw [List.append_nil]
  rw [e]
  exact h
end
end Cv

namespace Cv
open PySem PySem.Spec PyProof.Rows L2
section
variable {X : Cx}
noncomputable def CMulA (i j : Int) : Prop := CMul i j ∨ CMulB i j
theorem op_mulA : OpR X (binaryOp .Mult) (rI CMulA fun i j => .int (i * j)) := opI fun i j _ _ _ _ _ hc q => by
  rcases hc with hc | ⟨n, m, h1, h2, h3⟩
  · exact mul_int q hc.ok
  · exact mul_int q (IntMulOk.of_le (PySem.intBits_le_iff.mpr h1.lt) (PySem.intBits_le_iff.mpr h2.lt) (by omega))
end
theorem mulL {i j : Int} (h1 : -(2 ^ 64) < i) (h2 : i < 2 ^ 64) : CMulA i j := .inl (.inl ⟨h1, h2⟩)
theorem mulR {i j : Int} (h1 : -(2 ^ 64) < j) (h2 : j < 2 ^ 64) : CMulA i j := .inl (.inr ⟨h1, h2⟩)
theorem mulB {n m : Nat} {i j : Int} (h1 : Sz n i) (h2 : Sz m j) (h : n + m ≤ 100000000 := by decide) : CMulA i j := .inr ⟨n, m, h1, h2, h⟩
/-! ### the promises -/
noncomputable def spGcd : Sp := fun vs H Q _ => ∃ a b : Int, vs = [.int a, .int b] ∧ Q (.int (Int.gcd a b)) H
noncomputable def spBin (f : Rat → Rat → Rat) (ok : Rat → Prop) : Sp := fun vs H Q _ => ∃ x y p q, vs = [x, y] ∧ ShV H x p ∧ ShV H y q ∧ Bd 4000 p ∧ Bd 4000 q ∧ ok q ∧ ∀ v H', Same H H' → ShV H' v (f p q) → Q v H'
noncomputable def spPlus : Sp := spBin (fun p q => p + q) fun _ => True
/-! the law's own helpers -/
noncomputable def spCell (K : PySem.W.Frag) : Sp := fun vs H Q _ => ∃ (a : Addr) (ns : List Int) (k : Int), vs = [.ref a, .int k] ∧ SqL K H a (ns.map V.int) ∧ 0 ≤ k ∧ ∀ z, Q (.int z) H
noncomputable def spLShare : Sp := fun vs H Q _ => ∃ t b : Int, vs = [.int t, .int b] ∧ 0 < b ∧ Sz 9000 b ∧ ∀ v H', Same H H' → ShV H' v (Rat.divInt t b) → Q v H'
noncomputable def spLaw (K : PySem.W.Frag) : Sp := fun vs H Q _ => ∃ (a : Addr) (ns : List Int), vs = [.ref a] ∧ SqL K H a (ns.map V.int) ∧ ns.length ≤ 63 ∧ ∀ H', Q (.bl true) H'
/-! ### tests -/
theorem ite_dec {c : Prop} [Decidable c] {A B : Prop} (h1 : c → A) (h2 : ¬ c → B) : if decide c = true then A else B := by
  by_cases h : c
  · rw [if_pos (decide_eq_true h)]; exact h1 h
  · rw [if_neg (by simp [h])]; exact h2 h
theorem ifT {b : Bool} {A B : Prop} (h : b = true) (k : A) : if b = true then A else B := by rw [if_pos h]; exact k
theorem ifF {b : Bool} {A B : Prop} (h : b = false) (k : B) : if b = true then A else B := by rw [if_neg (by rw [h]; decide)]; exact k
theorem ifB {b : Bool} {A B : Prop} (h1 : b = true → A) (h2 : b = false → B) : if b = true then A else B := by
  cases b
  · exact ifF rfl (h2 rfl)
  · exact ifT rfl (h1 rfl)
end Cv
namespace Cv
open PySem PySem.Spec PyProof.Rows L2
/-- the law's function is the one that the top left -/
theorem DefOk.law {P : Program} {w : World} {K : PySem.W.Frag} {mg : Str → Option Value} {base : Heap} {CX : CXT} {k : Nat} {x : Str} {ps : List Str} {sp : Sp} {f : Addr} {fd : FuncData} {oc : Value} {od : Option Addr} {osl : Array (Option Value)}
    (D : DefOk P w K mg base CX k x ps sp) (l : K.lookup f = some ⟨oc, od, .func fd, osl⟩) (hm : mg x = some (.ref f)) : FnOk P w K mg base CX k f fd ps sp := by
  obtain ⟨f', fd', FO, hm', _, _, oc', od', osl', l'⟩ := D.ex
  have e := hm.symm.trans hm'
  cases e
  have e2 := l.symm.trans l'
  have e3 : Data.func fd = Data.func fd' := congrArg (fun (o : Obj) => o.data) (Option.some.inj e2)
  cases e3
  exact FO
theorem walk {l : PySem.W.OpenLaw} {k : Nat} {CX : CXT} {sp : PySem.W.Frag → Sp} {q : Program} {loose : List Str} {XP : (Str → Option Value) → Heap → Prop} {YP : World → Heap → Prop} {d : DefRec} {K : Params → PySem.W.Frag} {x : Str} (hn : l.most = some 63) (hdf : d.params.defaults = []) (hr : Room k callerA)
    (hY : ∀ (w : World) (h : Heap), YP w h → (K w.params).In h)
    (F : ∀ (w : World) (mg : Str → Option Value) (fa : Addr) (h : Heap), (K w.params).In h → h.Ns mainGlobals mg → mg d.name = some (.ref fa) →
      ∃ fd : FuncData, (∀ (s : Shared) (u : Value), BindsTo s fd ⟨[u], []⟩ [(x, u)]) ∧ ∀ (P : Program) (base : Heap), (K w.params).In base → base.Ns mainGlobals mg → FnOk P w (K w.params) mg base CX k fa fd [x] (sp (K w.params)))
    (hsp : ∀ (K : PySem.W.Frag) (H : Hp) (a : Addr) (ns : List Int), ns.length ≤ 63 → Only H → SqL K H a (ns.map V.int) → sp K [.ref a] H (fun v _ => v = .bl true) fun _ _ _ => False)
    (hCX : ∀ (H : Hp) (s : Shared) (e : Value) (s' : Shared), CX [] H s (fun _ _ _ => False) e s' → False) :
    PySem.W.WalkO q loose XP YP l.row.toRowW d [] (fun f vs => PySem.call f vs) :=
  L2.walk_of (n := 63) (k := k) (x := x) (CX := fun _ => CX) (sp := fun w => sp (K w.params)) hn (by decide) hdf hr hY
    (fun w mg fa h a b c => let ⟨fd, h1, h2⟩ := F w mg fa h a b c; ⟨fd, h1, fun base => h2 l.prog base⟩) (fun w H a ns => hsp (K w.params) H a ns) fun _ H s e s' => hCX H s e s'
end Cv

namespace Cv
open PySem PySem.Spec PyProof.Rows L2
/-! small facts for the readings -/
theorem pl {j : Int} (h : 0 < j := by decide) : 0 < j := h
theorem at_map (xs : List Int) (k : Nat) (h : k < xs.length) : atI (xs.map V.int) (k : Int) = some (V.int (xs.getD k 0)) := by
  refine atI_nat ?_
  rw [List.getElem?_map, List.getElem?_eq_getElem h]
  simp [List.getD_eq_getElem?_getD, List.getElem?_eq_getElem h]
theorem at_mapZ (xs : List Int) (k : Int) (h0 : 0 ≤ k) (h : k < (xs.length : Int)) : atI (xs.map V.int) k = some (V.int (xs.getD k.toNat 0)) := by
  have e : k = ((k.toNat : Nat) : Int) := by omega
  have q := at_map xs k.toNat (by omega)
  rw [← e] at q
  exact q
theorem getD_nn {xs : List Int} (h : ∀ x ∈ xs, 0 ≤ x) (k : Nat) : 0 ≤ xs.getD k 0 := by
  rw [List.getD_eq_getElem?_getD]
  cases e : xs[k]? with
  | none => simp
  | some v => exact h v (List.mem_of_getElem? e)
theorem atI_lt {α : Type} (xs : List α) (i : Int) (h0 : 0 ≤ i) (h1 : i < (xs.length : Int)) : ∃ v, atI xs i = some v ∧ v ∈ xs := by
  have e : i = ((i.toNat : Nat) : Int) := by omega
  have hl : i.toNat < xs.length := by omega
  refine ⟨xs[i.toNat], ?_, List.getElem_mem hl⟩
  have q := atI_nat (xs := xs) (j := i.toNat) (v := xs[i.toNat]) (List.getElem?_eq_getElem hl)
  rw [← e] at q
  exact q
theorem p30 : (10 : Int) ^ (30 : Int).toNat = 1000000000000000000000000000000 := by decide
theorem pos30 : (0 : Int) < (10 : Int) ^ (30 : Int).toNat := by rw [p30]; decide
theorem sz_of {n : Nat} {x : Int} {b : Nat} (h1 : x.natAbs ≤ b) (h2 : b < 2 ^ n) : Sz n x := ⟨Nat.lt_of_le_of_lt h1 h2⟩
/-- a drawn top -/
theorem gcd_abs (t b : Int) : Int.gcd (if t < 0 then -t else t) b = Int.gcd t b := by
  split
  · rw [Int.neg_gcd]
  · rfl
theorem emod_gcd (a b : Int) (hb : 0 < b) : Int.gcd b (a % b) = Int.gcd a b := by
  have := gcd_step a b
  rw [Int.fmod_eq_emod_of_nonneg a (by omega)] at this
  exact this
theorem dec_int_ne {a b : Int} (h : a ≠ b) : (!decide (V.int a = V.int b)) = true := by simp [h]
theorem kit_ii (K : PySem.W.Frag) : PySem.W.kitOne K (.type "int") (.type "int") = some true := rfl
theorem kit_ib (K : PySem.W.Frag) : PySem.W.kitOne K (.type "int") (.type "bool") = some false := rfl
theorem kit_tt (K : PySem.W.Frag) : PySem.W.kitOne K (.type "tuple") (.type "tuple") = some true := rfl
theorem kit_bb (K : PySem.W.Frag) : PySem.W.kitOne K (.type "bool") (.type "bool") = some true := rfl
theorem kit_ll (K : PySem.W.Frag) : PySem.W.kitOne K (.type "list") (.type "list") = some true := rfl
end Cv

namespace Cv
open PySem PySem.Spec PyProof.Rows L2
/-! ### an exception on its way, with none ahead of it -/
structure TrX (h B : Heap) (e : Addr) (cls fl : Value) : Prop where
  ex : ∃ (oe : Obj) (vs : Array Value) (T : Addr) (oT : Obj) (ts : Array Value), (h.get? e = some oe ∧ oe.cls = cls ∧ oe.data = .fields vs ∧ oe.dict = none) ∧ (vs[2]? = some .none ∧ vs[1]? = some (.ref T)) ∧ (B.get? T = none ∧ T ≠ e) ∧ h.get? T = some oT ∧ oT.data = .fields ts ∧ ts[3]? = some fl
structure FlyX (B : Heap) (l : List Env) (e : Addr) (cls fl : Value) (h : Heap) : Prop where
  stays : B.StaysIn h
  new : B.get? e = none
  frames : h.FunFrames B l
  tr : TrX h B e cls fl
theorem mf_dict (f : Array Value → Array Value) (o : Obj) : (Obj.mapFields f o).dict = o.dict := by
  unfold Obj.mapFields
  split <;> rfl
theorem FlyX.there {B h : Heap} {l : List Env} {e : Addr} {cls fl : Value} (x : FlyX B l e cls fl h) : ∃ o vs, h.get? e = some o ∧ o.cls = cls ∧ o.data = .fields vs ∧ vs[2]? = some .none ∧ o.dict = none := by
  obtain ⟨o, vs, _, _, _, ⟨a, b, c, f⟩, ⟨d, _⟩, _⟩ := x.tr.ex
  exact ⟨o, vs, a, b, c, d, f⟩
section
variable {M : Model} {A : Around} {E : Value → Shared → Prop} {s : Shared} {B : Heap} {env : Env} {outer : List Env} {L e : Addr}
theorem entX {oe : Obj} {vs : Array Value} {hd : Value} {b : Bool} {Q : Unit → Shared → Prop} (hfr : A.frames = some (env :: outer)) (hf : env.frame = some L) (st : B.StaysIn s.heap) (ne : B.get? e = none)
    (ff : s.heap.FunFrames B (env :: outer)) (he : s.heap.get? e = some oe) (dt : oe.data = .fields vs) (dn : oe.dict = none) (v2 : vs[2]? = some .none)
    (k : ∀ h', FlyX B (env :: outer) e oe.cls (rawInt L) h' → s.heap.UpToSlots h' → Q () { s with heap := h' }) :
    wpAny M A (frameOf env >>= fun a => entryPlaceOf L b >>= fun pl => EntryCells.newEntry hd a .none (rawInt L) .none pl >>= fun t => setField (.ref e) 1 t) Q E s := by
  have v2s : 2 < vs.size := (Array.getElem?_eq_some_iff.mp v2).1
  have nfr : e ∉ (env :: outer).filterMap (·.frame) := by
    intro hm
    obtain ⟨_, o, ho, q⟩ := ff.mem hm
    cases he.symm.trans ho
    exact q vs dt
  refine wpAny_bind (wpAny_frameOf_fun hfr ff hf fun h1 so => ?_)
  refine wpAny_bind (wpAny_entryPlaceOf fun pl ip => ?_)
  unfold EntryCells.newEntry newFields
  refine wpAny_bind (wpAny_newObj_type ?_ (ip.sizeOk5 _ _ _ _ _))
  have e1 : h1.get? e = some oe := (so.2.1 e nfr).trans he
  have st1 : B.StaysIn h1 := fun c o q => (so.2.1 c fun hm => by rw [(ff.mem hm).1] at q; cases q).trans (st c o q)
  have t3 : (([hd, Value.ref L, Value.none, rawInt L, Value.none] ++ (if pl.isEmpty then List.replicate 6 Value.none else pl)).toArray)[3]? = some (rawInt L) := by
    rw [List.getElem?_toArray]; rfl
  have tT : h1.objs.size ≠ e := Nat.ne_of_gt (Heap.lt_size e1)
  generalize hts : ([hd, Value.ref L, Value.none, rawInt L, Value.none] ++ (if pl.isEmpty then List.replicate 6 Value.none else pl)).toArray = ts at t3 ⊢
  have e2 := Heap.get?_push_of_some (h := h1) { cls := .type "traceback", dict := none, data := .fields ts } e1
  refine wpAny_setField e2 dt (by omega) (k _ ?_ ?_)
  all_goals
    have d3 := Obj.data_mapFields dt (·.setIfInBounds 1 (Value.ref h1.objs.size))
    have e3 := Heap.get?_update_self (Obj.mapFields (·.setIfInBounds 1 (Value.ref h1.objs.size))) e2 (Obj.isFreed_of_fields d3)
    have up : ∀ c o, c ≠ e → h1.get? c = some o → ((h1.push { cls := .type "traceback", dict := none, data := .fields ts }).update e (Obj.mapFields (·.setIfInBounds 1 (Value.ref h1.objs.size)))).get? c = some o := fun c o q z => by
      rw [Heap.get?_update_other _ _ (Ne.symm q)]; exact Heap.get?_push_of_some _ z
    have nr : ∀ c o, s.heap.get? c = some o → (∀ us, o.data ≠ .fields us) → c ≠ e := fun c o z nf q => by
      subst q; cases he.symm.trans z; exact nf vs dt
  · refine ⟨fun c o z => up c o (fun q => by rw [q, ne] at z; cases z) (st1 c o z), ne, ff.of_keeps fun c o z nf => ?_, ⟨_, _, h1.objs.size, _, _, ⟨e3, Obj.cls_mapFields _ _, d3, (mf_dict _ _).trans dn⟩, ⟨by rw [Array.getElem?_setIfInBounds_ne (by decide)]; exact v2, by simp [show 1 < vs.size by omega]⟩, ⟨st1.fresh, tT⟩, (Heap.get?_update_other _ _ (Ne.symm tT)).trans (Heap.get?_push_size h1 rfl), rfl, t3⟩⟩
    obtain ⟨sl, q⟩ := so.2.2 c o z
    exact ⟨_, up c _ (nr c o z nf) q, rfl⟩
  · intro c o z nf
    obtain ⟨sl, q⟩ := so.2.2 c o z
    exact ⟨sl, up c _ (nr c o z nf) q⟩
/-- the flight's mark is taken off -/
theorem offX {l : List Env} {cls fl : Value} {Q : Unit → Shared → Prop} (x : FlyX B l e cls fl s.heap) (k : ∀ h', FlyX B l e cls .none h' → s.heap.UpToSlots h' → Q () { s with heap := h' }) : wpAny M A (setFlight (.ref e) none) Q E s := by
  obtain ⟨oe, vs, T, oT, ts, ⟨a1, a2, a3, a4⟩, ⟨b1, b2⟩, ⟨c1, c2⟩, d1, d2, d3⟩ := x.tr.ex
  have t3 : 3 < ts.size := (Array.getElem?_eq_some_iff.mp d3).1
  unfold setFlight
  refine wpAny_bind (wpAny_field a1 a3 b2 ?_)
  rw [if_pos (by simp : (Value.ref T != Value.none) = true)]
  refine wpAny_setField d1 d2 t3 (k _ ?_ ?_)
  all_goals
    have ot : ∀ c, c ≠ T → (s.heap.update T (Obj.mapFields (·.setIfInBounds 3 ((none : Option Addr).elim Value.none fun f => rawInt f)))).get? c = s.heap.get? c := fun c q => Heap.get?_update_other _ _ (Ne.symm q)
    have nr : ∀ c o, s.heap.get? c = some o → (∀ us, o.data ≠ .fields us) → c ≠ T := fun c o z nf q => by
      subst q; cases d1.symm.trans z; exact nf ts d2
  · exact ⟨fun c o z => (ot c fun q => by rw [q, c1] at z; cases z).trans (x.stays c o z), x.new, x.frames.of_keeps fun c o z nf => ⟨o, (ot c (nr c o z nf)).trans z, rfl⟩,
      ⟨oe, vs, T, _, _, ⟨(ot e (Ne.symm c2)).trans a1, a2, a3, a4⟩, ⟨b1, b2⟩, ⟨c1, c2⟩, Heap.get?_update_self _ d1 (Obj.isFreed_of_fields (Obj.data_mapFields d2 _)), Obj.data_mapFields d2 _, by simp [t3]⟩⟩
  · exact fun c o z nf => ⟨o.slots, (ot c (nr c o z nf)).trans z⟩
/-- the next frame is noted -/
theorem noteX {cls : Value} {Q : Unit → Shared → Prop} (hfr : A.frames = some (env :: outer)) (hf : env.frame = some L) (x : FlyX B (env :: outer) e cls .none s.heap)
    (k : ∀ h', FlyX B (env :: outer) e cls (rawInt L) h' → s.heap.UpToSlots h' → Q () { s with heap := h' }) : wpAny M A (noteFrame (.ref e) env) Q E s := by
  obtain ⟨oe, vs, T, oT, ts, ⟨a1, a2, a3, a4⟩, ⟨b1, b2⟩, ⟨c1, c2⟩, d1, d2, d3⟩ := x.tr.ex
  subst a2
  have t3 : 3 < ts.size := (Array.getElem?_eq_some_iff.mp d3).1
  unfold noteFrame
  simp only [hf]
  refine wpAny_bind (wpAny_field a1 a3 b2 ?_)
  rw [if_pos (by simp : (Value.ref T != Value.none) = true)]
  refine wpAny_bind (wpAny_field d1 d2 d3 ?_)
  rw [if_neg (by simp [rawInt] : ¬ ((Value.none == rawInt L) = true))]
  refine wpAny_bind (wpAny_setField d1 d2 t3 ?_)
  have ot : ∀ c, c ≠ T → (s.heap.update T (Obj.mapFields (·.setIfInBounds 3 Value.none))).get? c = s.heap.get? c := fun c q => Heap.get?_update_other _ _ (Ne.symm q)
  have nr : ∀ c o, s.heap.get? c = some o → (∀ us, o.data ≠ .fields us) → c ≠ T := fun c o z nf q => by
    subst q; cases d1.symm.trans z; exact nf ts d2
  refine entX hfr hf (fun c o z => (ot c fun q => by rw [q, c1] at z; cases z).trans (x.stays c o z)) x.new (x.frames.of_keeps fun c o z nf => ⟨o, (ot c (nr c o z nf)).trans z, rfl⟩) ((ot e (Ne.symm c2)).trans a1) a3 a4 b1 fun h' f u => k h' f ?_
  exact fun c o z nf => u c o ((ot c (nr c o z nf)).trans z) nf
theorem FlyX.tail {cls fl : Value} {h : Heap} (x : FlyX B (env :: outer) e cls fl h) : FlyX B outer e cls fl h := by
  obtain ⟨a, b, ⟨_, _, c⟩, d⟩ := x
  exact ⟨a, b, c, d⟩
theorem madeX {h : Heap} {cls : Value} {args : List Value} {Q : Unit → Shared → Prop} (hfr : A.frames = some (env :: outer)) (hf : env.frame = some L) (st : B.StaysIn h) (ff : h.FunFrames B (env :: outer)) (hx : Heap.MadeExcOf h s.heap e cls args)
    (k : ∀ h', FlyX B outer e cls .none h' → s.heap.UpToSlots h' → Q () { s with heap := h' }) : wpAny M A (leaving env (.ref e)) Q E s := by
  obtain ⟨t, he, _, _⟩ := hx.there
  have nb : B.get? e = none := by
    cases q : B.get? e with
    | none => rfl
    | some o => have := st e o q; rw [hx.new] at this; cases this
  unfold leaving noteFrame
  simp only [hf]
  refine wpAny_bind (wpAny_bind (wpAny_field he rfl (x := .none) rfl ?_))
  rw [if_neg (by decide)]
  refine entX hfr hf (fun c o z => hx.keeps c o (st c o z)) nb (ff.of_keeps fun c o z _ => ⟨o, hx.keeps c o z, rfl⟩) he rfl rfl rfl fun h1 f1 u1 => ?_
  exact offX f1 fun h2 f2 u2 => k h2 f2.tail (u1.trans u2)
end
end Cv

namespace Cv
open PySem PySem.Spec PyProof.Rows L2
/-! ### an exception that flies -/
/-- from a call's entry (H, h) to the flight: B holds all that stays, frames aside; h' is the heap of the flight -/
structure UnB (fs : List Addr) (H H' : Hp) (h B h' : Heap) : Prop where
  keep : ∀ b o, h.get? b = some o → H b = none → b ∉ fs → B.get? b = some o
  slot : ∀ b o, h.get? b = some o → H b = none → b ∈ fs → ∃ sl, h'.get? b = some { o with slots := sl }
  free : ∀ b o, h.get? b = some o → H b = none → H' b = none
  there : ∀ b o, h.get? b = some o → b ∉ fs → ∃ o', B.get? b = some o'
  tups : ∀ b xs, H b = some (.tup xs) → H' b = some (.tup xs)
  frzs : ∀ b o u, H b = some (.frz o u) → H' b = some (.frz o u)
  tbls : ∀ b ps, H b = some (.tbl ps) → ∃ more, H' b = some (.tbl (ps ++ more))
theorem UnB.un {fs : List Addr} {H H' : Hp} {h B h' : Heap} (u : UnB fs H H' h B h') (hB : B.StaysIn h') (hf : ∀ b ∈ fs, H b = none) : Un fs [] H H' h h' where
  keep := fun b o e n hb _ => hB b o (u.keep b o e n hb)
  slot := fun b o e n hb _ => u.slot b o e n hb
  free := fun b o e n _ => u.free b o e n
  there := fun b o e _ => by
    by_cases hb : b ∈ fs
    · obtain ⟨sl, q⟩ := u.slot b o e (hf b hb) hb
      exact ⟨_, q⟩
    · obtain ⟨o', q⟩ := u.there b o e hb
      exact ⟨o', hB b o' q⟩
  tups := u.tups
  frzs := u.frzs
  tbls := u.tbls
/-- the flight goes on: slots may change -/
theorem UnB.on {fs : List Addr} {H H' : Hp} {h B h' h'' : Heap} (u : UnB fs H H' h B h') (hf : ∀ b ∈ fs, ∀ o, h.get? b = some o → ∀ vs, o.data ≠ .fields vs) (up : h'.UpToSlots h'') : UnB fs H H' h B h'' where
  keep := u.keep
  slot := fun b o e n hb => by
    obtain ⟨sl, q⟩ := u.slot b o e n hb
    obtain ⟨sl', q'⟩ := up b _ q (hf b hb o e)
    exact ⟨sl', q'⟩
  free := u.free
  there := u.there
  tups := u.tups
  frzs := u.frzs
  tbls := u.tbls
noncomputable def CXx (P : Program) (w : World) : CXT := fun outer H s E e s' => ∃ (x : Addr) (cls : Value) (H' : Hp) (B : Heap), e = .ref x ∧ s'.os = s.os ∧ AllBare s'.gens ∧ UnB (frs outer) H H' s.heap B s'.heap ∧
  HOk P w H' B ∧ FlyX B outer x cls .none s'.heap ∧ E cls none H'
/-- a raise in the body of X reaches what X wants -/
noncomputable def Throws (X : Cx) (E : XK) : Prop := ∀ (pins : List (Addr × Obj)) (σ : L2.St) (H : Hp) (s : Shared) (e : Addr) (h' : Heap) (cls : Value) (vs : List Value), Inv X pins σ H s → Heap.MadeExcOf s.heap h' e cls vs → E cls none H → X.xe (.ref e) { s with heap := h' }
section
variable {X : Cx} {pins : List (Addr × Obj)} {σ : L2.St} {H H' : Hp} {s : Shared}
theorem fdata (I : Inv X pins σ H s) : ∀ b ∈ frs X.stack, ∀ o, s.heap.get? b = some o → ∀ vs, o.data ≠ .fields vs := fun b hb o e vs => by
  obtain ⟨_, o', e', d⟩ := I.stack.mem hb
  rw [e] at e'
  cases e'
  exact d vs
theorem hok_hide (I : Inv X pins σ H s) : HOk X.prog X.w H (PySem.W.hideAll s.heap (frs X.stack)) := fun a o e =>
  (I.hok a o e).stay (fun b u hb q => PySem.W.hideAll_get _ q fun hm => by
    have n := I.stkFree b hm
    rcases hb with rfl | hb
    · rw [e] at n; cases n
    · rw [hb] at n; cases n) (fun _ q => q) fun _ _ q => q
/-- a new exception, seen from a frame that is to be left or that catches -/
theorem made_un (I : Inv X pins σ H s) {e : Addr} {h' : Heap} {cls : Value} {vs : List Value} (hx : Heap.MadeExcOf s.heap h' e cls vs) : UnB (frs X.stack) H H s.heap (PySem.W.hideAll s.heap (frs X.stack)) h' where
  keep := fun b o q n hb => PySem.W.hideAll_get _ q hb
  slot := fun b o q n hb => ⟨o.slots, hx.keeps b o q⟩
  free := fun _ _ _ n => n
  there := fun b o q hb => ⟨o, PySem.W.hideAll_get _ q hb⟩
  tups := fun _ _ q => q
  frzs := fun _ _ _ q => q
  tbls := fun b ps q => ⟨#[], by rw [q]; simp⟩
/-- seen from the frame's own caller -/
theorem out_un {B h' : Heap} (I : Inv X pins σ H s) (hst : X.stack = X.env :: X.outer) (hfr : X.env.frame = some X.env.locals) (hex : X.ex = []) (u : UnB (frs X.stack) H H' s.heap B h') : UnB X.fs X.H₀ H' X.s₀.heap B h' := by
  have hs : frs X.stack = X.env.locals :: X.fs := by
    rw [hst]; unfold frs; rw [List.filterMap_cons, hfr]; rfl
  have nx : ∀ b, b ∉ X.ex := fun b z => by rw [hex] at z; cases z
  have ne : ∀ b o, X.s₀.heap.get? b = some o → b ≠ X.env.locals := fun b o e => Nat.ne_of_lt (Nat.lt_of_lt_of_le (Heap.lt_size e) I.ok.above)
  have nin : ∀ b o, X.s₀.heap.get? b = some o → b ∉ X.fs → b ∉ frs X.stack := fun b o e hb z => by
    rw [hs] at z
    rcases List.mem_cons.mp z with z | z
    · exact ne b o e z
    · exact hb z
  refine ⟨fun b o e n hb => ?_, fun b o e n hb => ?_, fun b o e n => ?_, fun b o e hb => ?_, fun b xs q => u.tups b xs (I.base.tups b xs q), fun b o xs q => u.frzs b o xs (I.base.frzs b o xs q), fun b ps q => ?_⟩
  · exact u.keep b o (I.base.keep b o e n hb (nx b)) (I.base.free b o e n (nx b)) (nin b o e hb)
  · obtain ⟨sl, q⟩ := I.base.slot b o e n hb (nx b)
    obtain ⟨sl', q'⟩ := u.slot b _ q (I.base.free b o e n (nx b)) (by rw [hs]; exact List.mem_cons_of_mem _ hb)
    exact ⟨sl', q'⟩
  · obtain ⟨o', q⟩ := I.base.there b o e (nx b)
    exact u.free b o' q (I.base.free b o e n (nx b))
  · obtain ⟨o', q⟩ := I.base.there b o e (nx b)
    exact u.there b o' q (nin b o e hb)
  · obtain ⟨m1, e1⟩ := I.base.tbls b ps q
    obtain ⟨m2, e2⟩ := u.tbls b _ e1
    exact ⟨m1 ++ m2, by rw [e2, Array.append_assoc]⟩
end
section
variable {P : Program} {w : World} {K : PySem.W.Frag} {mg : Str → Option Value} {base : Heap} {N : List Str} {qual : Str} {scope : Scope} {f : Addr} {cd : Value} {A : Around} {outer : List Env} {s : Shared} {H : Hp} {E : XK}
theorem throws_cx : Throws (cxOf (CXx P w) P w K mg base N qual scope f cd A outer s H E) E := by
  intro pins σ H1 s1 e h' cls vs I hx hE
  have hfr : (cxOf (CXx P w) P w K mg base N qual scope f cd A outer s H E).A.frames = some (cxOf (CXx P w) P w K mg base N qual scope f cd A outer s H E).stack := I.ok.frames
  have st : (PySem.W.hideAll s1.heap (frs (cxOf (CXx P w) P w K mg base N qual scope f cd A outer s H E).stack)).StaysIn s1.heap := fun b o q => PySem.W.of_hideAll _ q
  have ff : s1.heap.FunFrames (PySem.W.hideAll s1.heap (frs (cxOf (CXx P w) P w K mg base N qual scope f cd A outer s H E).stack)) (cxOf (CXx P w) P w K mg base N qual scope f cd A outer s H E).stack :=
    PySem.W.funFrames_hide I.stack fun env he b hb => List.mem_filterMap.mpr ⟨env, he, hb⟩
  refine madeX hfr rfl st ff hx fun h'' x1 x4 => ?_
  have u1 := made_un I hx
  have u2 : UnB (frs (cxOf (CXx P w) P w K mg base N qual scope f cd A outer s H E).stack) H1 H1 s1.heap _ h'' := u1.on (fdata I) x4
  exact ⟨e, cls, H1, _, rfl, I.os, I.bare, out_un I rfl rfl rfl u2, hok_hide I, x1, hE⟩
end

/-! ### a def whose exceptions fly on -/
section
variable {P : Program} {w : World} {K : PySem.W.Frag} {mg : Str → Option Value} {base : Heap}
theorem def_okX {x : Str} {st : Stmt} {N ps : List Str} {k : Nat} {sp : Sp} (F : FunAt K mg x st ps) (S : FnScope N ps (defScope st)) (len : ∀ vs H Q E, sp vs H Q E → vs.length = ps.length)
    (hbody : ∀ (f : Addr) (cdv : Value) (A : Around) (outer : List Env) (s : Shared) (H : Hp) (vs : List V) (Q : VK) (E : XK), Room k (A.deeper (envOfC x (defScope st) s.heap.objs.size f cdv)) → sp vs H Q E →
      ∃ t, PSs (cxOf (CXx P w) P w K mg base N x (defScope st) f cdv A outer s H E) (defBody st) t ∧ t { nx := fun _ H' => Q .non H', rt := Q } (start N vs) H) : DefOk P w K mg base (CXx P w) (k + 1) x ps sp := by
  obtain ⟨f, fd, F, hm, hb⟩ := F.ex
  obtain ⟨oc, od, kV, doc, pm, an, cdv, ct, osl, rfl, lk, hcd⟩ := F.ex
  exact ⟨f, _, fn_of lk hcd S len fun A outer s H vs Q E hr h => hbody f cdv A outer s H vs Q E hr h, hm, F.kp, hb, oc, od, osl, lk⟩
end
/-! ### the classes of refusals -/
noncomputable abbrev mroV : List Value := [.type "ValueError", .type "Exception", .type "BaseException", .type "object"]
/-- an own class of exceptions, as the top left it -/
structure XCls (K : PySem.W.Frag) (mg : Str → Option Value) (x : Str) (C : Addr) : Prop where
  bound : mg x = some (.ref C)
  obj : ∃ nm q N bs bm hdct sn sub ab col dd k0 k1 k2 k3 k5, K.lookup C = some (excClassObj nm q C N bs bm hdct sn sub ab col dd k0 k1 k2 k3 k5 "ValueError.__new__") ∧
    PySem.W.nsOkIn K N = true ∧ PySem.W.nsIn K N "__init__" = some none ∧ PySem.W.tailIn K mroV bm = true
theorem XCls.own {K : PySem.W.Frag} {mg : Str → Option Value} {x : Str} {C : Addr} {h : Heap} (c : XCls K mg x C) (X : K.In h) : OwnCls x C mroV "ValueError.__new__" mg h := by
  obtain ⟨nm, q, N, bs, bm, hdct, sn, sub, ab, col, dd, k0, k1, k2, k3, k5, l, h1, h2, h3⟩ := c.obj
  exact ⟨c.bound, bm, N, nm, q, bs, hdct, sn, sub, ab, col, dd, k0, k1, k2, k3, k5, _, X _ _ l, .of_isNs (PySem.W.isNs_of_in X h1), PySem.W.nsMap_none_of_in X h1 h2, PySem.W.tail_of_in X h3⟩
section
variable {X : Cx} {x : Str} {C : Addr} {np cpos pos : Pos} {E : XK} {e₀ : Expr} {ta : TA}
/-- raise x(e₀) -/
noncomputable def tRaise (E : XK) (C : Addr) (ta : TA) : TS := fun _ σ H => ta σ H fun vs H1 => vs.length ≤ sizeLine ∧ E (.ref C) none H1
theorem ps_raise (th : Throws X E) (c : XCls X.K X.mg x C) (ha : PA X [e₀] ta) (hc : X.calm = true := by rfl) (hg : Gl X x := by rfl) (he : starEach [e₀] X.env = [(false, eval e₀ X.env)] := by rfl)
    (hd : (x == ("__debug__" : Str)) = false := by decide) : PS X (.Raise (some (.Call (.Name x np) [e₀] [] cpos)) none pos) (tRaise E C ta) := by
  intro pins s σ H D I h
  have O : OwnCls x C mroV "ValueError.__new__" X.mg s.heap := c.own I.kIn
  obtain ⟨tl, N, nm, q, bs, hdct, sn, sub, ab, col, dd, k0, k1, k2, k3, k5, mN, hC, hN, hni, T⟩ := O.obj
  obtain ⟨tl', N', nm', q', bs', hdct', sn', sub', ab', col', dd', k0', k1', k2', k3', k5', mN', hC', hN', hni', T'⟩ := (c.own I.mod.kin).obj
  have FB := PySem.F.excBase_ValueError
  refine wpAny_Raise_call_subT (C := C) (nm := nm') (q := q') (N := N') (bs := bs') (bm := tl') (hdct := hdct') (sn := sn') (sub := sub') (ab := ab') (col := col') (dd := dd') (k0 := k0') (k1 := k1') (k2 := k2') (k3 := k3') (k5 := k5')
    FB (mN := mN') (T'.hasType FB.hasBase) (I.ok.hd hc) (by rw [he]; rfl) hni' (ld_glob I hg c.bound ⟨rfl, ?_⟩ hd)
  have h2 := ha cpos pins s σ H _ I h
  rw [he] at h2 ⊢
  exact Calls.evalArgs_plain (wpAny_mono h2 (fun us s2 ⟨vs, H2, I2, r, hz, hE⟩ => ⟨rfl, (by rw [← r.length]; exact hz), I2.bk _ _ hC', hN'.keeps I2.bk, T'.keeps I2.bk, fun h' e hm => th pins σ H2 s2 e h' _ _ I2 hm hE⟩) fun _ _ y => y)
end

/-! ### try, except C as n -/
theorem obj_some {P : Program} {w : World} {H : Hp} {h : Heap} {a : Addr} {o : HO} (x : ObjOk P w H h a o) : ∃ ob, h.get? a = some ob := by
  induction o with
  | lst xs => obtain ⟨_, _, _, _, e⟩ := x; exact ⟨_, e⟩
  | tup xs => obtain ⟨_, _, _, _, e, _⟩ := x; exact ⟨_, e⟩
  | dK kvs => obtain ⟨_, _, _, _, _, _, _, e, _⟩ := x; exact ⟨_, e⟩
  | dT kvs => obtain ⟨_, _, _, _, _, _, _, e, _⟩ := x; exact ⟨_, e⟩
  | set S n => obtain ⟨_, _, _, _, e, _⟩ := x; exact ⟨_, e⟩
  | ins C dx fs => obtain ⟨_, _, _, e, _⟩ := x; exact ⟨_, e⟩
  | own y => exact x
  | xd fs => obtain ⟨_, ⟨_, _, _, e, _⟩, _⟩ := x; exact ⟨_, e⟩
  | rng lo hi => obtain ⟨_, _, _, e⟩ := x; exact ⟨_, e⟩
  | frz ob u _ => exact ⟨_, x.1⟩
  | tbl ps => exact ⟨_, x⟩
  | met f y => exact ⟨_, x⟩
  | ext p => exact x.2.1
noncomputable abbrev tryX (X : Cx) (xe : Value → Shared → Prop) (pn : List (Addr × Obj)) : Cx := { X with xe := xe, pn := pn }
noncomputable abbrev suiteX (X : Cx) (x : Addr) : Cx := { X with A := X.A.mark (some (.ref x)), calm := false, xe := fun _ _ => False }
section
variable {X : Cx} {pins pins' : List (Addr × Obj)} {σ : L2.St} {H H' : Hp} {s : Shared}
theorem toTry (I : Inv X pins σ H s) (xe : Value → Shared → Prop) : Inv (tryX X xe (X.pn ++ pins)) pins σ H s :=
  ⟨⟨I.ok.mod, I.ok.kind, I.ok.glob, I.ok.blt, I.ok.above, I.ok.inj, I.ok.has, I.ok.cab, I.ok.hd, I.ok.frames, I.ok.stk, I.ok.exf, I.ok.bs, I.ok.bsz, I.ok.noex, I.ok.exfs, I.ok.funs, I.ok.frf⟩,
    I.os, I.bare, I.base, I.loc, I.cell, I.free, I.freeC, fun p hp => I.pin p ((List.mem_append.mp hp).elim id fun z => List.mem_append_right _ z), I.hok, I.len⟩
theorem ofTry {xe : Value → Shared → Prop} (I : Inv (tryX X xe (X.pn ++ pins)) pins' σ H s) : Inv X pins σ H s :=
  ⟨⟨I.ok.mod, I.ok.kind, I.ok.glob, I.ok.blt, I.ok.above, I.ok.inj, I.ok.has, I.ok.cab, I.ok.hd, I.ok.frames, I.ok.stk, I.ok.exf, I.ok.bs, I.ok.bsz, I.ok.noex, I.ok.exfs, I.ok.funs, I.ok.frf⟩,
    I.os, I.bare, I.base, I.loc, I.cell, I.free, I.freeC, fun p hp => I.pin p (List.mem_append_left _ hp), I.hok, I.len⟩
theorem toSuite (I : Inv X pins σ H s) (x : Addr) : Inv (suiteX X x) pins σ H s :=
  ⟨⟨I.ok.mod, I.ok.kind, I.ok.glob, I.ok.blt, I.ok.above, I.ok.inj, I.ok.has, I.ok.cab, fun z => absurd z Bool.false_ne_true, I.ok.frames, I.ok.stk, I.ok.exf, I.ok.bs, I.ok.bsz, I.ok.noex, I.ok.exfs, I.ok.funs, I.ok.frf⟩,
    I.os, I.bare, I.base, I.loc, I.cell, I.free, I.freeC, I.pin, I.hok, I.len⟩
theorem ofSuite {x : Addr} (hd : X.calm = true → X.A.handled = none) (I : Inv (suiteX X x) pins σ H s) : Inv X pins σ H s :=
  ⟨⟨I.ok.mod, I.ok.kind, I.ok.glob, I.ok.blt, I.ok.above, I.ok.inj, I.ok.has, I.ok.cab, hd, I.ok.frames, I.ok.stk, I.ok.exf, I.ok.bs, I.ok.bsz, I.ok.noex, I.ok.exfs, I.ok.funs, I.ok.frf⟩,
    I.os, I.bare, I.base, I.loc, I.cell, I.free, I.freeC, I.pin, I.hok, I.len⟩
/-- the frame's names are forgotten -/
theorem inv_forget {h' : Heap} {m' : Str → Option Value} {tk : Nat} (I : Inv X pins σ H s) (hn : h'.Ns X.env.locals m') (hs : Heap.SameBut X.env.locals s.heap h') : Inv X pins (List.replicate X.N.length none) H { s with heap := h', toks := tk } := by
  have old : ∀ b o, X.s₀.heap.get? b = some o → b ≠ X.env.locals := fun b o e => Nat.ne_of_lt (Nat.lt_of_lt_of_le (Heap.lt_size e) I.ok.above)
  refine ⟨I.ok, I.os, I.bare, ⟨fun b o e n hb hx => (hs.2 b (old b o e)).trans (I.base.keep b o e n hb hx), fun b o e n hb hx => ?_, I.base.free, fun b o e hx => ?_, I.base.tups, I.base.frzs, I.base.tbls⟩,
    ⟨m', hn, fun i y v _ e2 _ => ?_⟩, fun y c e => ?_, I.free, I.freeC, fun p hp => ?_, fun b o e => ?_, List.length_replicate⟩
  · obtain ⟨sl, q⟩ := I.base.slot b o e n hb hx
    exact ⟨sl, (hs.2 b (old b o e)).trans q⟩
  · obtain ⟨o', q⟩ := I.base.there b o e hx
    exact ⟨o', (hs.2 b (old b o e)).trans q⟩
  · rw [List.getElem?_replicate] at e2
    split at e2 <;> cases e2
  · obtain ⟨v, z⟩ := I.cell y c e
    exact ⟨v, z.sameBut hs (I.cne y c e)⟩
  · obtain ⟨e, n, ne, nf, d⟩ := I.pin p hp
    exact ⟨(hs.2 p.1 ne).trans e, n, ne, nf, d⟩
  · refine (I.hok b o e).stay (fun c u hc q => (hs.2 c fun z => ?_).trans q) (fun _ q => q) fun _ _ q => q
    have fr := I.free
    rcases hc with hc | hc
    · rw [← z, hc, e] at fr; cases fr
    · rw [← z, hc] at fr; cases fr
end
/-- an exception that was caught -/
noncomputable def ExcO (x : Addr) (cls : Value) : HO := .ext fun h => ∃ o vs, h.get? x = some o ∧ o.cls = cls ∧ o.data = .fields vs ∧ vs[2]? = some .none ∧ o.dict = none
noncomputable def tTry (K : PySem.W.Frag) (n : Nat) (SC : Addr) (tb : XK → TS) (ts : Addr → TS) : TS := fun D σ H => ∃ Ex : XK, tb Ex D σ H ∧ ∀ cls x H' (σ' : L2.St), Ex cls none H' → H' x = none → σ'.length = σ.length →
  PySem.W.exmOne K cls (.ref SC) = some true ∧ ts x { nx := fun _ _ => False, rt := D.rt } (σ'.set n (some (.ref x))) (upd H' x (ExcO x cls))
section
variable {X : Cx}
theorem ps_try1 {n : Nat} {nm c : Str} {SC : Addr} {body : List Stmt} {b0 : Stmt} {suite : List Stmt} {np hpos pos : Pos} {tb : XK → TS} {ts : Addr → TS} (cb : X.mg c = some (.ref SC)) (hN : X.N.Nodup)
    (hb : ∀ xe pn Ex, Passes (CXx X.prog X.w) (tryX X xe pn) Ex → PSs (tryX X xe pn) body (tb Ex)) (hs : ∀ x, PSs (suiteX X x) (b0 :: suite) (ts x))
    (hi : X.N[n]? = some nm := by rfl) (hx : X.env.scope.names.lookup nm = some .local := by rfl) (hg : Gl X c := by rfl) (hst : X.stack = X.env :: X.outer := by rfl) (hfr : X.env.frame = some X.env.locals := by rfl)
    (hd : (c == ("__debug__" : Str)) = false := by decide) :
    PS X (.Try body [.ExceptHandler (some (.Name c np)) (some nm) (b0 :: suite) hpos] [] [] pos) (tTry X.K n SC tb ts) := by
  intro pins s σ H D I hread
  obtain ⟨Ex, hbd, hcat⟩ := hread
  refine wpAny_Try_except ?_
  have hp : Passes (CXx X.prog X.w) (tryX X (fun e s₁ => wpAny (model X.prog X.w) X.A (noteFrame e X.env) (fun _ s₂ => wpAny (model X.prog X.w) X.A (setFlight e none) (fun _ s₃ =>
      wpAny (model X.prog X.w) X.A (handleBy e X.env [.ExceptHandler (some (.Name c np)) (some nm) (b0 :: suite) hpos]) (SP X pins D) X.xe s₃) X.xe s₂) X.xe s₁) (X.pn ++ pins)) Ex := by
    rintro pins' σ1 H1 s1 e s' J ⟨x, cls, H', B, rfl, hos, hba, u, hok, hfl, hE⟩
    show wpAny (model X.prog X.w) X.A (noteFrame (.ref x) X.env) _ _ s'
    have hfl' : FlyX B (X.env :: X.outer) x cls .none s'.heap := by rw [← hst]; exact hfl
    have hfr' : X.A.frames = some (X.env :: X.outer) := by rw [← hst]; exact J.ok.frames
    have hBx : B.get? x = none := hfl.new
    have hHx : H' x = none := by
      cases q : H' x with
      | none => rfl
      | some o =>
        obtain ⟨ob, z⟩ := obj_some (hok x o q)
        rw [hBx] at z; cases z
    have hnew : ∀ o, s1.heap.get? x = some o → False := fun o e => by
      by_cases hm : x ∈ frs X.stack
      · obtain ⟨_, o', e', d⟩ := J.stack.mem hm
        obtain ⟨sl, q⟩ := u.slot x o' e' (J.stkFree x hm) hm
        obtain ⟨oe, vs, he, _, hde, _⟩ := hfl.there
        rw [q] at he
        cases he
        exact d vs hde
      · obtain ⟨o', q⟩ := u.there x o e hm
        rw [hBx] at q; cases q
    have un6 : ∀ h6, B.StaysIn h6 → s'.heap.UpToSlots h6 → Un (frs X.stack) [] H1 H' s1.heap h6 := fun h6 hB up => (u.on (fdata J) up).un hB J.stkFree
    have back : ∀ h6, B.StaysIn h6 → s'.heap.UpToSlots h6 → Inv X pins σ1 H' { s' with heap := h6 } := fun h6 hB up =>
      ofTry (J.call' (s' := { s' with heap := h6 }) (ch := []) hos (un6 h6 hB up) (hok.kept hB) hba fun b z => nomatch z)
    refine noteX hfr' hfr hfl' fun h4 held up4 => ?_
    refine offX held fun h5 fl5 up5 => ?_
    have up45 := up4.trans up5
    have I5 := back h5 fl5.stays up45
    have cat := hcat cls x H' σ1 hE hHx (J.len.trans I.len.symm)
    refine wpAny_handleBy_cons (codeAny_handlers_test ?_) (by intro q; cases q)
    refine ld_glob (X := suiteX X x) (toSuite I5 x) hg cb ?_ hd
    obtain ⟨oe, _, he, hcl, _⟩ := fl5.there
    have LT : PySem.W.Looks (model X.prog X.w) h5 (typeOf (.ref x)) cls := by
      subst hcl
      exact (PySem.W.Looks.ld he).andThen .now
    refine (PySem.W.exm_one (M := model X.prog X.w) I5.kIn LT cat.1).here ?_
    refine codeAny_handlers_suite_as ?_
    refine offX fl5 fun h6 fl6 up6 => ?_
    have up456 := up45.trans up6
    have hok6 : HOk X.prog X.w H' h6 := hok.kept fl6.stays
    obtain ⟨oe6, vs6, he6, hcl6, hd6, hn6⟩ := fl6.there
    have I6 : Inv X pins σ1 (upd H' x (ExcO x cls)) { s' with heap := h6 } := by
      have u6 := un6 h6 fl6.stays up456
      refine ofTry (J.call' (s' := { s' with heap := h6 }) (ch := []) hos ⟨u6.keep, u6.slot, fun b o e nn hx' => ?_, u6.there, fun b xs q => ?_, fun b o v q => ?_, fun b ps q => ?_⟩ (fun b o q => ?_) hba fun b z => nomatch z)
      · rw [upd_ne (fun z => by rw [z] at e; exact hnew o e)]; exact u6.free b o e nn hx'
      · rw [upd_ne (ne_of_none (u6.tups b xs q) hHx)]; exact u6.tups b xs q
      · rw [upd_ne (ne_of_none (u6.frzs b o v q) hHx)]; exact u6.frzs b o v q
      · obtain ⟨more, z⟩ := u6.tbls b ps q
        exact ⟨more, by rw [upd_ne (ne_of_none z hHx)]; exact z⟩
      · by_cases hbx : b = x
        · subst hbx
          rw [upd_same] at q
          cases q
          exact ⟨⟨oe6, vs6, he6, hcl6, hd6, hn6⟩, ⟨oe6, he6⟩, fun h1 h2 ⟨o1, v1, e1, c1⟩ k => ⟨o1, v1, k o1 e1, c1⟩⟩
        · rw [upd_ne hbx] at q
          exact (hok6 b o q).stay (fun _ _ _ z => z) (fun c' z => by rw [upd_ne (ne_of_none z hHx)]; exact z) fun c' ys z => by rw [upd_ne (ne_of_none z hHx)]; exact z
    refine store_ok (X := suiteX X x) (toSuite I6 x) hN hi (.inl hx) (v := .ref x) rfl (fun s7 I7 => ?_) (.inr hx)
    refine wpAny_mono (hs x pins s7 _ _ _ I7 cat.2) (fun f s8 h8 => ?_) fun _ _ hf => hf.elim
    have hcls : (X.env.scope.kind == .class || (X.env.scope.kind == .module && X.env.locals != X.env.globals)) = false := by rw [I.ok.kind]; rfl
    cases f with
    | ret v =>
      obtain ⟨v', σ8, H8, J8, rv, q8⟩ := h8
      obtain ⟨m, hn, _⟩ := J8.loc
      refine wpAny_nameGoes hx hn hcls fun h' m' hn' hsb => ?_
      exact ⟨v', _, H8, inv_forget (ofSuite I.ok.hd J8) hn' hsb, rv, q8⟩
    | next => obtain ⟨_, _, _, q8⟩ := h8; exact q8.elim
    | brk => obtain ⟨_, _, _, q8⟩ := h8; exact q8.elim
    | cont => obtain ⟨_, _, _, q8⟩ := h8; exact q8.elim
  refine wpAny_mono (hb _ _ Ex hp pins s σ H D (toTry I _) hbd) (fun f s1 h1 => ?_) fun _ _ h => h
  cases f with
  | next => obtain ⟨σ', H', J, d⟩ := h1; exact wpAny_execs_nil ⟨σ', H', ofTry J, d⟩
  | brk => obtain ⟨σ', H', J, d⟩ := h1; exact ⟨σ', H', ofTry J, d⟩
  | cont => obtain ⟨σ', H', J, d⟩ := h1; exact ⟨σ', H', ofTry J, d⟩
  | ret v => obtain ⟨v', σ', H', J, r, d⟩ := h1; exact ⟨v', σ', H', ofTry J, r, d⟩
end
end Cv

namespace Cv
open PySem PySem.Spec PyProof.Rows L2
/-! ### isinstance of a caught exception -/
/-- what is told of a class of exceptions, for what is none of another one -/
structure XNot (K : PySem.W.Frag) (C : Addr) : Prop where
  hg : PySem.W.findIn K (.ref C) "__getattribute__" = some (some (.builtin "BaseException.__getattribute__"))
  hk : PySem.W.findIn K (.ref C) "__getattr__" = some none
  hd : (PySem.W.clsIn K C).isSome = true
  ha : PySem.W.findIn K (.ref C) "__class__" = some (some (.builtin "object.__class__"))
  hn : PySem.W.specialIn K (.builtin "object.__class__") "__get__" = some (some (.builtin "getset_descriptor.__get__"))
  ht : PySem.W.takesIn K (.builtin "object.__class__") = some true
  hm : PySem.W.mroIn K C (.type "object") = some true
  hb : PySem.W.mroIn K C (.type "BaseException") = some true
theorem exc_cls {K : PySem.W.Frag} {x C : Addr} {prog : Program} {w : World} {A : Around} {E : Value → Shared → Prop} {s : Shared} {o : Obj} {Q : Option Value → Shared → Prop} (n : XNot K C) (KX : K.In s.heap) (I : PySem.W.InstAt s.heap x o C none)
    (hf : PySem.W.findObj K C none "__class__" = some (.bind (.builtin "getset_descriptor.__get__") (.builtin "object.__class__"))) (h : Q (some (.ref C)) { s with toks := s.toks + 1 }) : wpAny (model prog w) A (getAttr? (.ref x) "__class__") Q E s := by
  obtain ⟨hh, g, d, t, os⟩ := s
  have L0 := I.type (M := model prog w)
  have L1 := PySem.W.looks_findIn (M := model prog w) KX n.hg
  have L2 := PySem.W.looks_findIn (M := model prog w) KX n.hk
  have L3 := PySem.W.looks_find (M := model prog w) KX I hf
  have L4 := PySem.W.looks_mroIn (M := model prog w) KX n.hb
  have hx2 : (Value.builtin "BaseException.__getattribute__" == Value.builtin "object.__getattribute__") = false := by decide +kernel
  have hx1 : (onTheHeap (Value.ref C) && Value.builtin "BaseException.__getattribute__" == Value.builtin "object.__getattribute__") = false := by rw [hx2]; rfl
  have hb := F.excAttr_ValueError.ga.bind (.ref x)
  unfold getAttr? getAttrBy? getAttrBy
  refine wpAny_bind (wpAny_mkText (wpAny_bind (wpAny_attempt (wpAny_holding (wpAny_bind (L0.at (wpAny_bind (L1.at ?_))))))))
  dsimp only
  rw [hx1, if_neg Bool.false_ne_true]
  unfold getAttrByItsOwn hookBefore
  refine wpAny_bind (L2.at ?_)
  refine wpAny_bind (wpAny_attempt (wpAny_holding ?_))
  unfold callGetattribute boundAndCalled
  rw [Bool.false_and, if_neg Bool.false_ne_true, hb]
  refine wpAny_bind (wpAny_pure ?_)
  refine wpAny_call (codeAny_call_builtin F.excAttr_ValueError.ga.plain F.entry_bexc_ga ?_)
  have hk : builtinKind "BaseException.__getattribute__" = some .slot := by decide +kernel
  have hsp : splitId "BaseException.__getattribute__" = some ("BaseException", "__getattribute__") := by decide +kernel
  have hz := F.args_bexc_ga (.ref x) (.str "__class__" t)
  simp only [checkBuiltinCall, hk, hsp]
  refine wpAny_bind ?_
  unfold isInstance
  refine wpAny_bind (L0.at (L4.at ?_))
  repeat wp_step
  refine wpAny_loadPart I.at_ (wpAny_pure ?_)
  rw [I.cls]
  refine wpAny_bind (L3.at ?_)
  unfold Builtin.ObjectAttr.bindTo
  dsimp only
  refine wpAny_bind (wpAny_holding (wpAny_call (PySem.W.class_get (s := { heap := hh, gens := g, drawn := d, toks := t + 1, os := os }) (ox := o) (od := none) KX I n.hm ?_)))
  refine wpAny_pure ?_
  exact PySem.W.handed_on rfl (wpAny_pure h)
/-- an exception of an own class, as it lies there -/
noncomputable def XAt (x C : Addr) (h : Heap) : Prop := ∃ o vs, h.get? x = some o ∧ o.cls = .ref C ∧ o.data = .fields vs ∧ vs[2]? = some .none ∧ o.dict = none
theorem XAt.inst {x C : Addr} {h : Heap} (p : XAt x C h) : ∃ o, PySem.W.InstAt h x o C none := by
  obtain ⟨o, vs, a, b, c, _, d⟩ := p
  exact ⟨o, a, b, by unfold PySem.W.notCls; rw [c], by rw [d]; exact True.intro⟩
theorem cls_some {K : PySem.W.Frag} {C : Addr} (h : (PySem.W.clsIn K C).isSome = true) : ∃ c d cd sl, K.lookup C = some ⟨c, d, .cls cd, sl⟩ := by
  obtain ⟨cd, hc⟩ := Option.isSome_iff_exists.mp h
  unfold PySem.W.clsIn at hc
  split at hc
  · exact ⟨_, _, _, _, by assumption⟩
  · cases hc
theorem kitx_exc {K : PySem.W.Frag} {x C : Addr} (n : XNot K C) : PySem.W.KitX K (.ref x) (.ref C) (XAt x C) where
  ty := fun _ _ _ p => by obtain ⟨o, I⟩ := p.inst; exact I.type
  it := fun _ _ KX _ => by
    obtain ⟨c, d, cd, sl, hk⟩ := cls_some n.hd
    intro A' Q' E' s' kk q
    unfold isType loadHead
    exact wpAny_bind (wpAny_loadPart (kk _ _ (KX _ _ hk)) (wpAny_pure q))
  ne := fun h tp dd its m sl KX e => by
    obtain ⟨c, d, cd, sl', hk⟩ := cls_some n.hd
    refine Bool.eq_false_iff.mpr fun q => ?_
    cases Value.ref.inj (beq_iff_eq.mp q)
    cases (KX _ _ hk).symm.trans e
  ca := fun {_ _ _ _ _ s} KX p q => by
    obtain ⟨o, I⟩ := p.inst
    obtain ⟨c, d, cd, sl', hk⟩ := cls_some n.hd
    have hf : PySem.W.findObj K C none "__class__" = some (.bind (.builtin "getset_descriptor.__get__") (.builtin "object.__class__")) := by
      have hc : PySem.W.clsIn K C = some cd := by unfold PySem.W.clsIn; rw [hk]
      unfold PySem.W.findObj
      rw [hc, Option.bind_some, n.ha, Option.bind_some]
      simp [n.hn, n.ht]
    exact exc_cls n KX I hf q
section
variable {X : Cx}
/-- a class, as a value: one of the text's or a built-in one -/
noncomputable def clsOf : V → Option Value
  | .ref a => some (.ref a)
  | .ty n => some (.type n)
  | _ => none
theorem clsOf_rel {y : V} {c v : Value} (e : clsOf y = some c) (r : RelV y v) : v = c := by
  cases y with
  | ref a => cases e; exact r
  | ty n => cases e; exact r
  | _ => cases e
theorem call_isx : CallR X (.builtin "isinstance") (fun xs H Q => ∃ x C y c b, xs = [.ref x, y] ∧ H x = some (ExcO x (.ref C)) ∧ clsOf y = some c ∧ XNot X.K C ∧ PySem.W.kitOne X.K (.ref C) c = some b ∧ Q (.bl b) H) := by
  intro pins s σ H xs us Q I r h
  obtain ⟨x, C, y, c, b, rfl, hx, ry, n, e, q⟩ := h
  obtain ⟨u, v, rfl, ru, rv⟩ := vals_two r
  cases ru
  cases clsOf_rel ry rv
  have hO : XAt x C s.heap := (I.hok x _ hx).1
  exact PySem.W.kia_one (kitx_exc n) I.kIn hO e (fun z => nomatch z) fun tk => ⟨.bl b, H, I.tok tk, rfl, q⟩
end
end Cv
namespace Cv
open PySem PySem.Spec PyProof.Rows L2
/-! ### promises with refusals -/
theorem Bd.one : Bd 4000 (1 : Rat) := ⟨Sz.one.mono (by decide), Sz.one.mono (by decide)⟩
theorem kit_self (K : PySem.W.Frag) (a : Addr) : PySem.W.kitOne K (.ref a) (.ref a) = some true := by
  unfold PySem.W.kitOne
  rw [if_pos (beq_self_eq_true _)]
end Cv

namespace Cv
open PySem PySem.Spec PyProof.Rows L2
/-! ### a list comprehension: one clause, no test -/
noncomputable abbrev cxComp (X : Cx) (scope : Scope) (cl : List (Str × Addr)) (Nc : List Str) (C : Addr) (s0 : Shared) (H0 : Hp) (fp : List Addr) : Cx where
  prog := X.prog
  w := X.w
  K := X.K
  mg := X.mg
  base := X.base
  A := X.A
  N := Nc
  s₀ := s0
  H₀ := H0
  env := compEnvC scope cl C X.env
  outer := X.stack
  stack := X.stack
  ex := fp
  fn := fun _ => false
  calm := X.calm
  pn := []
  xe := fun _ _ => False
noncomputable def capd (σ : L2.St) (ix : List Nat) : L2.St := ix.map fun j => (σ[j]?).getD none
section
variable {X : Cx}
end
end Cv

namespace Cv
open PySem PySem.Spec PyProof.Rows L2
/-! ### closures of a comprehension's block -/
theorem closure_go {env : Env} : ∀ (names : List (Str × NameKind)) (acc : List (Str × Addr)), (∀ y ∈ names, y.2 = .free → ∃ c, env.cells.lookup y.1 = some c) →
    ∃ cl, (forIn names acc fun (x : Str × NameKind) (r : List (Str × Addr)) => if (x.2 == NameKind.free) = true then (do let c ← cellOf env x.1; pure (ForInStep.yield ((x.1, c) :: r))) else pure (ForInStep.yield r) : Sem (List (Str × Addr))) = pure cl ∧
      ((∀ y c, acc.lookup y = some c → env.cells.lookup y = some c) → ∀ y c, cl.lookup y = some c → env.cells.lookup y = some c) ∧
      (∀ y, (∃ c, acc.lookup y = some c) → ∃ c, cl.lookup y = some c) ∧ ∀ y ∈ names, y.2 = .free → ∃ c, cl.lookup y.1 = some c
  | [], acc, _ => ⟨acc, by simp, fun h => h, fun _ h => h, fun _ h => nomatch h⟩
  | (n, k) :: r, acc, h => by
    rw [List.forIn_cons]
    by_cases hk : k = .free
    · subst hk
      obtain ⟨c, hc⟩ := h (n, .free) (.head _) rfl
      obtain ⟨cl, e, h1, h2, h3⟩ := closure_go (env := env) r ((n, c) :: acc) fun y hy => h y (.tail _ hy)
      refine ⟨cl, ?_, fun ha => h1 fun y d hd => ?_, fun y hy => h2 y ?_, fun y hy hf => ?_⟩
      · have ec : cellOf env n = pure c := by
          unfold cellOf
          have hc' : env.cells.lookup n = some c := hc
          rw [hc']
        simp only [ec]
        exact e
      · rw [List.lookup_cons] at hd
        by_cases hy : y == n
        · rw [hy] at hd
          cases hd
          rw [eq_of_beq hy]; exact hc
        · rw [Bool.not_eq_true] at hy
          rw [hy] at hd
          exact ha y d hd
      · rw [List.lookup_cons]
        by_cases hyn : y == n
        · rw [hyn]; exact ⟨_, rfl⟩
        · rw [Bool.not_eq_true] at hyn
          rw [hyn]; exact hy
      · rcases List.mem_cons.mp hy with rfl | hy
        · exact h2 n ⟨c, by rw [List.lookup_cons]; simp⟩
        · exact h3 y hy hf
    · obtain ⟨cl, e, h1, h2, h3⟩ := closure_go (env := env) r acc fun y hy => h y (.tail _ hy)
      refine ⟨cl, ?_, h1, h2, fun y hy hf => ?_⟩
      · have hk' : (k == NameKind.free) = false := by
          cases k <;> first | rfl | exact absurd rfl hk
        simp only [hk']
        exact e
      · rcases List.mem_cons.mp hy with rfl | hy
        · exact absurd hf hk
        · exact h3 y hy hf
theorem closure_of {scope : Scope} {env : Env} (h : ∀ y ∈ scope.names, y.2 = .free → ∃ c, env.cells.lookup y.1 = some c) :
    ∃ cl, closureFor scope env = pure cl ∧ (∀ y c, cl.lookup y = some c → env.cells.lookup y = some c) ∧ ∀ y ∈ scope.names, y.2 = .free → ∃ c, cl.lookup y.1 = some c := by
  obtain ⟨cl, e, h1, _, h3⟩ := closure_go (env := env) scope.names [] h
  refine ⟨cl, ?_, h1 (fun _ _ z => nomatch z), h3⟩
  unfold closureFor
  have := congrArg (fun (m : Sem (List (Str × Addr))) => m >>= fun r => pure r) e
  first
    | exact e
    | simpa using e
    | (simp only [bind_pure] at this ⊢; exact this)
/-- the names of the block, by their kinds in the def around it -/
theorem relabel_lookup {env : Env} : ∀ {names : List (Str × NameKind)} {y : Str} {k : NameKind}, (∀ z ∈ names, z.2 ≠ .cell) →
    (names.map fun (n, k) => if (k == NameKind.free && env.scope.kind == .function && env.kindOf n == some .cell) then (n, NameKind.cell) else (n, k)).lookup y = some k → (k = .cell ∨ k = .free) → (y, NameKind.free) ∈ names
  | [], _, _, _, h, _ => by simp at h
  | (n, q) :: r, y, k, hc, h, hk => by
    rw [List.map_cons] at h
    by_cases hy : y == n
    · have e : y = n := eq_of_beq hy
      subst e
      by_cases ht : (q == NameKind.free && env.scope.kind == .function && env.kindOf y == some .cell) = true
      · have : q = .free := by
          simp only [Bool.and_eq_true] at ht
          exact eq_of_beq ht.1.1
        rw [this]; exact .head _
      · simp only [ht] at h
        rw [List.lookup_cons] at h
        simp at h
        subst h
        rcases hk with rfl | rfl
        · exact absurd rfl (hc _ (.head _))
        · exact .head _
    · rw [Bool.not_eq_true] at hy
      refine .tail _ (relabel_lookup (env := env) (fun z hz => hc z (.tail _ hz)) ?_ hk)
      by_cases ht : (q == NameKind.free && env.scope.kind == .function && env.kindOf n == some .cell) = true
      · simp only [ht] at h
        rw [List.lookup_cons] at h
        have h' := h
        (simp [hy] at h'; simpa using h')
      · simp only [ht] at h
        rw [List.lookup_cons] at h
        have h' := h
        (simp [hy] at h'; simpa using h')
section
variable {prog : Program} {w : World} {A : Around} {R : Result → Shared → Prop} {s : Shared}
theorem compLoop_listG {elt target iter : Expr} {scope : Scope} {pos : Pos} {it acc : Value} {env : Env} (I : Nat → Shared → Prop)
    (turn : ∀ n s, I n s → wpAny (model prog w) A (pyNext it) (fun r s₁ => match r with
      | none => R (.ok .next) s₁
      | some v => wpAny (model prog w) A (letOwnedTupleGo target it v) (fun _ s₁' => wpAny (model prog w) A (assign target env v) (fun _ s₂ => wpAny (model prog w) A (eval elt env) (fun x s₃ =>
          wpAny (model prog w) A (call (.builtin "list.append") [acc, x]) (fun _ s₄ => ∃ m, m < n ∧ I m s₄) (notedBy (model prog w) A env fun e s' => R (.error e) s') s₃)
          (notedBy (model prog w) A env fun e s' => R (.error e) s') s₂) (notedBy (model prog w) A env fun e s' => R (.error e) s') s₁') (notedBy (model prog w) A env fun e s' => R (.error e) s') s₁) (notedBy (model prog w) A env fun e s' => R (.error e) s') s)
    (n : Nat) (h : I n s) :
    codeAny (model prog w) A (.compLoop (.ListComp elt [⟨target, iter, [], 0⟩] scope pos) 0 it acc env) R s := by
  refine codeAny_loop rfl I (fun n s hI => ?_) n h
  show wpAny _ _ ((compTurn (.ListComp elt [⟨target, iter, [], 0⟩] scope pos) 0 it acc env).onRaise (fun x => do noteFrame x env; theTreesLotGoes x)) _ _ s
  refine wpAny_noted ?_
  rw [compTurn_list1]
  refine wpAny_bind (wpAny_standAt (wpAny_bind (wpAny_mono (turn n s hI) (fun r s₁ h₁ => ?_) fun _ _ h' => h')))
  cases r with
  | none => exact wpAny_pure h₁
  | some v =>
    refine wpAny_bind (wpAny_mono h₁ (fun _ s₁' h₁' => ?_) fun _ _ h' => h')
    exact wpAny_bind (wpAny_mono h₁' (fun _ s₂ h₂ => wpAny_bind (wpAny_bind (wpAny_mono h₂ (fun x s₃ h₃ => wpAny_bind (wpAny_mono h₃
      (fun _ s₄ h₄ => wpAny_pure (wpAny_pure ⟨rfl, h₄⟩)) fun _ _ h' => h')) fun _ _ h' => h'))) fun _ _ h' => h')
end
noncomputable def CompGoal (k : Nat) (J : It) (H1 : Hp) (g : TG) (te : TE) (cs : L2.St) (Q : VK) : Prop := ∀ D, H1 D = none → ∃ W : Nat → Nat → List V → Hp → Prop, (∃ m, W 0 m [] (upd H1 D (.lst []))) ∧
  ∀ i m ys H2, W i m ys H2 → (J.stop i H2 ∧ Q (.ref D) H2) ∨ (J.go i H2 ∧ ∀ x H', J.yld i H2 x H' → ∀ own : L2.St, own.length = k → g x (own ++ cs) H' fun σ2 H4 => (∃ own' : L2.St, own'.length = k ∧ σ2 = own' ++ cs) ∧
    te σ2 H4 fun v H3 => H3 D = some (.lst ys) ∧ ys.length < sizeLine ∧ ∃ m', m' < m ∧ W (i + 1) m' (ys ++ [v]) (upd H3 D (.lst (ys ++ [v]))))
noncomputable def tCompG (k : Nat) (wi : TI) (g : TG) (te : TE) (ix : List Nat) : TE := fun σ H Q => wi σ H fun J H1 => CompGoal k J H1 g te (capd σ ix) Q
section
variable {X : Cx}
theorem comp_core {tg elt iter : Expr} {os : List Str} {pos ipos : Pos} {scope : Scope} {wi : TI} {g : TG} {te : TE} {caps : List (Nat × Str)} {pins : List (Addr × Obj)} {s : Shared} {σ : L2.St} {H : Hp} {Q : VK} {use : Option (Value → Sem Unit)} {R : Value → Shared → Prop} (hi : PI X tg iter wi)
    (hg : ∀ cl C s0 H0 fp, PG (cxComp X scope cl (os ++ caps.map (·.2)) C s0 H0 fp) tg g)
    (he : ∀ cl C s0 H0 fp, PE (cxComp X scope cl (os ++ caps.map (·.2)) C s0 H0 fp) elt te)
    (hfree : ∀ y ∈ scope.names, y.2 = .free → X.env.kindOf y.1 = some .cell)
    (hcap : ∀ p ∈ caps, X.N[p.1]? = some p.2 ∧ X.env.kindOf p.2 = some .cell ∧ ((relabel scope X.env).names.lookup p.2 = some .cell ∨ (relabel scope X.env).names.lookup p.2 = some .free))
    (hkind : scope.kind = .function) (hcell : ∀ y ∈ scope.names, y.2 ≠ .cell)
    (hnames : ∀ y ∈ scope.names, y.2 = .local → scope.names.lookup y.1 = some .local) (hc : X.calm = true) (hfs : ∀ v, foldedSetIterable iter X.env v = pure v)
    (hfin : ∀ D C H5 s6 m6, Inv X pins σ H5 s6 → s6.heap.Ns C m6 → FpOk X pins H5 C → Q (.ref D) H5 → compPost (model X.prog X.w) X.A X.xe use R (.ref D) C (.ok .next) s6)
    (I : Inv X pins σ H s) (h : tCompG os.length wi g te (caps.map (·.1)) σ H Q) :
    wpAny (model X.prog X.w) X.A (comprehension (.ListComp elt [⟨tg, iter, [], 0⟩] scope pos) scope X.env ipos (newList []) false (eval iter X.env) use) R X.xe s := by
  obtain ⟨cl, hclos, hcl, hin⟩ := closure_of (scope := scope) (env := X.env) fun y hy hf => I.ok.has y.1 (.inl (hfree y hy hf))
  have hhas : ∀ y, ((relabel scope X.env).names.lookup y = some .cell ∨ (relabel scope X.env).names.lookup y = some .free) → ∃ c, cl.lookup y = some c := fun y hy => by
    rcases hy with hy | hy
    · exact hin (y, .free) (relabel_lookup (env := X.env) hcell hy (.inl rfl)) rfl
    · exact hin (y, .free) (relabel_lookup (env := X.env) hcell hy (.inr rfl)) rfl
  refine wpAny_comprehension_free (use := use) rfl hfs hclos hkind hnames ?_
  refine thn (hi pins s σ H _ I h) fun v s1 h1 => thn h1 fun itv s2 h2 => ?_
  obtain ⟨it, fp, tn, J, H1, rfl, I2, T, st2, f2, rd⟩ := h2
  refine wpAny_newObj_type ?_ (by show 0 ≤ sizeLine; decide)
  have hD : H1 s2.heap.objs.size = none := I2.hok.fresh (Nat.le_refl _)
  obtain ⟨W, ⟨m0, w0⟩, turn⟩ := rd s2.heap.objs.size hD
  generalize eD : s2.heap.objs.size = D at hD w0 turn
  have I3 : Inv X pins σ (upd H1 D (.lst [])) { s2 with heap := s2.heap.push { cls := .type "list", data := .seq ([] : List Value).toArray } } := by
    subst eD
    exact I2.laid (t' := s2.toks) (fun b u e => Heap.get?_push_of_some _ e) (Nat.le_refl _) ⟨Nat.zero_le _, [], 0, .nil, Heap.get?_push_size _ rfl⟩
  generalize e3 : ({ s2 with heap := s2.heap.push { cls := .type "list", data := .seq ([] : List Value).toArray } } : Shared) = s3 at I3
  have hs3 : s3.heap.objs.size = D + 1 := by rw [← e3, ← eD]; simp
  have k23 : ∀ b o, s2.heap.get? b = some o → s3.heap.get? b = some o := fun b o e => by rw [← e3]; exact Heap.get?_push_of_some _ e
  refine wpAny_newFunctionEnv hcell (by intro y hy; simp at hy) (fun h4 hn4 hs4 => ?_) hkind
  have k34 : ∀ b o, s3.heap.get? b = some o → h4.get? b = some o := fun b o e => (hs4.2 b (Nat.ne_of_lt (Heap.lt_size e))).trans (Heap.get?_push_of_some _ e)
  generalize eC : s3.heap.objs.size = C at hn4 hs4
  have hfpC : ∀ b ∈ fp, b ≠ C := fun b hb z => by
    obtain ⟨o, e, _⟩ := T.obj 0 _ st2 b hb
    have h1 := Heap.lt_size e
    rw [z, ← eC, hs3, eD] at h1
    exact absurd h1 (Nat.not_lt.mpr (Nat.le_succ D))
  have hfps : ∀ b ∈ fp, b ∉ frs X.stack := fun b hb z => by
    rcases List.mem_cons.mp (I2.stkSub b z) with q | q
    · exact (f2 b hb).2.1 q
    · exact (f2 b hb).2.2.1 q
  have hfpD : ∀ b ∈ fp, b ≠ D := fun b hb z => by
    obtain ⟨o, e, _⟩ := T.obj 0 _ st2 b hb
    have h1 := Heap.lt_size e
    rw [z, eD] at h1
    exact Nat.lt_irrefl _ h1
  have okc : (cxComp X scope cl (os ++ caps.map (·.2)) C s3 (upd H1 D (.lst [])) fp).Ok := by
    refine ⟨I3.ok.mod, hkind, I3.ok.glob, I3.ok.blt, Nat.le_of_eq eC, fun y z c h1 h2 => I3.ok.inj y z c (hcl y c h1) (hcl z c h2), fun y hy => hhas y hy, fun y c hf => absurd hf Bool.false_ne_true, I3.ok.hd, I3.ok.frames, .inl rfl,
      fun b hb => ⟨hfpC b hb, fun y c e => (f2 b hb).2.2.2.2.1 y c (hcl y c e)⟩, I3.bs, Nat.le_trans I3.ok.bsz I3.sz, fun b o e hb => ?_, fun b hb => hfps b hb, I3.stack, I3.stkFree⟩
    rcases (f2 b hb).2.2.2.1 with z | z
    · exact I3.ok.noex b o e z
    · exact Nat.lt_irrefl _ (Nat.lt_of_lt_of_le (Heap.lt_size (I3.ok.bs b o e).1) z)
  have capS : (capd σ (caps.map (·.1))).length = caps.length := by unfold capd; rw [List.length_map, List.length_map]
  have Ic : Inv (cxComp X scope cl (os ++ caps.map (·.2)) C s3 (upd H1 D (.lst [])) fp) [] (List.replicate os.length none ++ capd σ (caps.map (·.1))) (upd H1 D (.lst [])) { s3 with heap := h4, toks := s3.toks + ([] : List (Str × Value)).length } := by
    refine ⟨okc, rfl, I3.bare, Un.kept k34, ⟨_, hn4, fun i y v e1 e2 e3' => ?_⟩, fun y c e => ?_, I3.hok.fresh (Nat.le_of_eq eC), fun y c e => I3.freeC y c (hcl y c e), fun p hp => absurd hp (by simp), I3.hok.kept k34, ?_⟩
    · by_cases hik : i < os.length
      · rw [List.getElem?_append_left (by rw [List.length_replicate]; exact hik), List.getElem?_replicate] at e2
        split at e2 <;> cases e2
      · have e1' : (caps.map (·.2))[i - os.length]? = some y := by
          have z : (os ++ caps.map (·.2))[i]? = some y := e1
          rw [List.getElem?_append_right (by omega)] at z
          exact z
        have e2' : (capd σ (caps.map (·.1)))[i - os.length]? = some (some v) := by
          rw [List.getElem?_append_right (by rw [List.length_replicate]; omega), List.length_replicate] at e2
          exact e2
        generalize i - os.length = i at e1' e2'
        rw [List.getElem?_map] at e1'
        unfold capd at e2'
        rw [List.getElem?_map, List.getElem?_map] at e2'
        cases q : caps[i]? with
        | none => rw [q] at e1'; cases e1'
        | some p =>
          rw [q] at e1' e2'
          have ey : p.2 = y := Option.some.inj e1'
          have ev : (σ[p.1]?).getD none = some v := Option.some.inj e2'
          have es : σ[p.1]? = some (some v) := by
            cases z : σ[p.1]? with
            | none => rw [z] at ev; cases ev
            | some w' => rw [z] at ev; exact congrArg some ev
          obtain ⟨hN, hk, hv⟩ := hcap p (List.mem_of_getElem? q)
          obtain ⟨m, _, hl⟩ := I3.loc
          obtain ⟨u, r, lk⟩ := hl p.1 p.2 v hN es (.inr (.inl hk))
          rw [ey] at hk hv lk
          refine ⟨u, r, .inr ⟨hv, ?_⟩⟩
          obtain ⟨c, hc'⟩ := hhas y hv
          rcases lk with ⟨z, _⟩ | ⟨_, c2, z, ic⟩
          · rw [hk] at z; cases z
          · have ec := (hcl y c hc').symm.trans z
            cases ec
            obtain ⟨o, ho, hd⟩ := ic
            exact ⟨c, hc', o, k34 _ _ ho, hd⟩
    · obtain ⟨v, o, ho, hd⟩ := I3.cell y c (hcl y c e)
      exact ⟨v, o, k34 _ _ ho, hd⟩
    · show (List.replicate os.length (none : Option V) ++ capd σ (caps.map fun p => p.1)).length = (os ++ caps.map fun p => p.2).length
      rw [List.length_append, List.length_append, List.length_replicate, capS, List.length_map]
  have fpc : ∀ H', (∀ b ∈ fp, H' b = none) → ∀ b ∈ fp, FpOk (cxComp X scope cl (os ++ caps.map (·.2)) C s3 (upd H1 D (.lst [])) fp) [] H' b := fun H' hn b hb =>
    ⟨hn b hb, hfpC b hb, hfps b hb, .inl hb, fun y c e => (f2 b hb).2.2.2.2.1 y c (hcl y c e), fun p hp => absurd hp (by simp)⟩
  have st4 : tn 0 h4 := T.keep _ _ _ (T.keep _ _ _ st2 fun b _ o e => k23 b o e) fun b _ o e => k34 b o e
  have fp0 : ∀ b ∈ fp, (upd H1 D (.lst [])) b = none := fun b hb => by rw [upd_ne (hfpD b hb)]; exact (f2 b hb).1
  have loop : codeAny (model X.prog X.w) X.A (.compLoop (.ListComp elt [⟨tg, iter, [], 0⟩] scope pos) 0 (.ref it) (.ref D) (compEnvC scope cl C X.env)) (compPost (model X.prog X.w) X.A X.xe use R (.ref D) C)
      { s3 with heap := h4, toks := s3.toks + ([] : List (Str × Value)).length } := by
    refine compLoop_listG (fun n s' => ∃ i ys own H', own.length = os.length ∧ Inv (cxComp X scope cl (os ++ caps.map (·.2)) C s3 (upd H1 D (.lst [])) fp) [] (own ++ capd σ (caps.map (·.1))) H' s' ∧ tn i s'.heap ∧ (∀ b ∈ fp, H' b = none) ∧ W i n ys H') ?_ m0 ⟨0, [], List.replicate os.length none, _, List.length_replicate, Ic, st4, fp0, w0⟩
    rintro n s5 ⟨i, ys, own, H5, ho5, I5, st5, fr5, w5⟩
    rcases turn i n ys H5 w5 with ⟨stop, qn⟩ | ⟨go, step⟩
    · refine thn (T.done (cxComp X scope cl (os ++ caps.map (·.2)) C s3 (upd H1 D (.lst [])) fp) rfl rfl rfl hc i [] s5 _ H5 _ I5 (fpc H5 fr5) st5 stop) fun r s6 ⟨hr, I6⟩ => ?_
      subst hr
      obtain ⟨m6, hn6, _⟩ := I6.loc
      have hs' : Heap.SameBut C s6.heap s6.heap := ⟨rfl, fun _ _ => rfl⟩
      generalize eh' : s6.heap = h' at hs'
      have hs' : Heap.SameBut C s6.heap h' := by rw [eh']; exact hs'
      have neC : ∀ b o, s3.heap.get? b = some o → b ≠ C := fun b o e => Nat.ne_of_lt (eC ▸ Heap.lt_size e)
      have ns : ∀ b o, s2.heap.get? b = some o → b ≠ D := fun b o e => Nat.ne_of_lt (eD ▸ Heap.lt_size e)
      have B := I6.base
      have uu : Un (frs X.stack) fp H1 H5 s2.heap h' := by
        refine ⟨fun b o e nn hb hf => ?_, fun b o e nn hb hf => ?_, fun b o e nn hf => ?_, fun b o e hf => ?_, fun b xs e => ?_, fun b o u' e => ?_, fun b ps e => ?_⟩
        · exact (hs'.2 b (neC b o (k23 b o e))).trans (B.keep b o (k23 b o e) (by show (upd H1 D _) b = none; rw [upd_ne (ns b o e)]; exact nn) hb hf)
        · obtain ⟨sl, z⟩ := B.slot b o (k23 b o e) (by show (upd H1 D _) b = none; rw [upd_ne (ns b o e)]; exact nn) hb hf
          exact ⟨sl, (hs'.2 b (neC b o (k23 b o e))).trans z⟩
        · exact B.free b o (k23 b o e) (by show (upd H1 D _) b = none; rw [upd_ne (ns b o e)]; exact nn) hf
        · obtain ⟨o', z⟩ := B.there b o (k23 b o e) hf
          exact ⟨o', (hs'.2 b (neC b o (k23 b o e))).trans z⟩
        · exact B.tups b xs (by show (upd H1 D _) b = _; rw [upd_ne (ne_of_none e hD)]; exact e)
        · exact B.frzs b o u' (by show (upd H1 D _) b = _; rw [upd_ne (ne_of_none e hD)]; exact e)
        · exact B.tbls b ps (by show (upd H1 D _) b = _; rw [upd_ne (ne_of_none e hD)]; exact e)
      have hok' : HOk X.prog X.w H5 h' := fun b o e => by
        refine (I6.hok b o e).stay (fun c' u' hc' z => (hs'.2 c' fun zz => ?_).trans z) (fun _ z => z) fun _ _ z => z
        have fr : H5 C = none := I6.free
        rcases hc' with hc' | hc'
        · rw [← zz, hc', e] at fr; cases fr
        · rw [← zz, hc'] at fr; cases fr
      have ho6 : s6.os = s2.os := I6.os.trans (by show s3.os = s2.os; rw [← e3])
      subst eh'
      have hC2 : s2.heap.objs.size ≤ C := by rw [← eC, hs3, eD]; exact Nat.le_succ D
      exact hfin D C H5 s6 m6 (I2.call' (s' := s6) (ch := fp) ho6 uu hok' I6.bare (fun b hb => ⟨(f2 b hb).2.2.2.1, (f2 b hb).2.1, (f2 b hb).2.2.2.2.1, (f2 b hb).2.2.2.2.2⟩)) hn6 (I2.fpOk hC2 I6.free) qn
    · refine thn (T.item (cxComp X scope cl (os ++ caps.map (·.2)) C s3 (upd H1 D (.lst [])) fp) rfl rfl rfl hc i [] s5 _ H5 _ I5 (fpc H5 fr5) st5 go) fun r s6 ⟨u, hr, h6⟩ => ?_
      subst hr
      refine (thn h6 fun _ s7 ⟨y, H7, I7, r7, y7, st7, fr7⟩ => ?_)
      have I7' := I7.pinned (fpc H7 fr7) (T.obj _ _ st7)
      refine wpAny_mono (hg cl C s3 _ fp _ s7 _ H7 y u _ I7' r7 (step y H7 y7 own ho5)) (fun _ s8 ⟨σ8, H8, I8, ⟨own', ho8, e8⟩, q8⟩ => ?_) fun _ _ z => z.elim
      subst e8
      refine wpAny_mono (he cl C s3 _ fp _ s8 _ H8 _ I8 q8) (fun xv s9 ⟨v9, H9, I9, r9, d9, l9, m9, lt9, w9⟩ => ?_) fun _ _ z => z.elim
      refine wpAny_mono (mt_append (X := (cxComp X scope cl (os ++ caps.map (·.2)) C s3 (upd H1 D (.lst [])) fp)) _ s9 _ H9 (.ref D) [v9] (.ref D) [xv] (fun _ H10 => H10 = upd H9 D (.lst (ys ++ [v9]))) I9 rfl (.cons r9 .nil) ⟨D, ys, v9, rfl, rfl, d9, l9, rfl⟩) (fun _ s10 ⟨_, H10, I10, _, e10⟩ => ?_) fun _ _ z => z.elim
      subst e10
      refine ⟨m9, lt9, i + 1, ys ++ [v9], own', _, ho8, I10.unpinned, T.keep _ _ _ st7 fun b hb o e => (I10.pin (b, o) (List.mem_append_right _ (List.mem_append_right _ (mem_pinsAt hb e)))).1, fun b hb => ?_, w9⟩
      obtain ⟨o, e, _⟩ := T.obj _ _ st7 b hb
      exact (I10.pin (b, o) (List.mem_append_right _ (List.mem_append_right _ (mem_pinsAt hb e)))).2.1
  exact codeAny_compStart_list loop (T.self _ 0 _ _ _ st4 loop)

theorem pe_compG {tg elt iter : Expr} {os : List Str} {pos : Pos} {scope : Scope} {wi : TI} {g : TG} {te : TE} {caps : List (Nat × Str)} (hi : PI X tg iter wi)
    (hg : ∀ cl C s0 H0 fp, PG (cxComp X scope cl (os ++ caps.map (·.2)) C s0 H0 fp) tg g)
    (he : ∀ cl C s0 H0 fp, PE (cxComp X scope cl (os ++ caps.map (·.2)) C s0 H0 fp) elt te)
    (hfree : ∀ y ∈ scope.names, y.2 = .free → X.env.kindOf y.1 = some .cell)
    (hcap : ∀ p ∈ caps, X.N[p.1]? = some p.2 ∧ X.env.kindOf p.2 = some .cell ∧ ((relabel scope X.env).names.lookup p.2 = some .cell ∨ (relabel scope X.env).names.lookup p.2 = some .free))
    (hkind : scope.kind = .function) (hcell : ∀ y ∈ scope.names, y.2 ≠ .cell)
    (hnames : ∀ y ∈ scope.names, y.2 = .local → scope.names.lookup y.1 = some .local) (hc : X.calm = true) (hfs : ∀ v, foldedSetIterable iter X.env v = pure v) :
    PE X (.ListComp elt [⟨tg, iter, [], 0⟩] scope pos) (tCompG os.length wi g te (caps.map (·.1))) := by
  intro pins s σ H Q I h
  rw [eval_ListComp]
  refine comp_core (Q := Q) (use := none) (R := EP X pins σ Q) hi hg he hfree hcap hkind hcell hnames hc hfs (fun D C H5 s6 m6 I6 n6 f6 q6 => ?_) I h
  refine ⟨m6, n6, fun h' hs' => ⟨.ref D, H5, ?_, rfl, q6⟩⟩
  exact I6.turned (t' := s6.toks) (fun b o hb e => (hs'.2 b hb).trans e) f6.1 f6.2.1 f6.2.2.2.1 f6.2.2.2.2.1 f6.2.2.2.2.2
/-- name = a comprehension, the name a plain local: the store comes ahead of the letting go -/
theorem ps_compG {tg elt iter : Expr} {os : List Str} {i : Nat} {y : Str} {py pos spos : Pos} {scope : Scope} {wi : TI} {g : TG} {te : TE} {caps : List (Nat × Str)} (hN : X.N.Nodup) (hy : X.N[i]? = some y) (hl : X.env.kindOf y = some .local) (hi : PI X tg iter wi)
    (hg : ∀ cl C s0 H0 fp, PG (cxComp X scope cl (os ++ caps.map (·.2)) C s0 H0 fp) tg g)
    (he : ∀ cl C s0 H0 fp, PE (cxComp X scope cl (os ++ caps.map (·.2)) C s0 H0 fp) elt te)
    (hfree : ∀ y ∈ scope.names, y.2 = .free → X.env.kindOf y.1 = some .cell)
    (hcap : ∀ p ∈ caps, X.N[p.1]? = some p.2 ∧ X.env.kindOf p.2 = some .cell ∧ ((relabel scope X.env).names.lookup p.2 = some .cell ∨ (relabel scope X.env).names.lookup p.2 = some .free))
    (hkind : scope.kind = .function) (hcell : ∀ y ∈ scope.names, y.2 ≠ .cell)
    (hnames : ∀ y ∈ scope.names, y.2 = .local → scope.names.lookup y.1 = some .local) (hc : X.calm = true) (hfs : ∀ v, foldedSetIterable iter X.env v = pure v)
    (hsw : swapsWith (.ListComp elt [⟨tg, iter, [], 0⟩] scope pos) (some (.Name y py)) spos.line X.env = pure true) :
    PS X (.Assign [.Name y py] (.ListComp elt [⟨tg, iter, [], 0⟩] scope pos) spos) (tAsg (tCompG os.length wi g te (caps.map (·.1))) (gName i)) := by
  intro pins s σ H D I h
  rw [exec_Assign_Name_used _ _ _ _ hsw]
  refine wpAny_bind (wpAny_standAt (wpAny_bind ?_))
  show wpAny _ X.A (do let _ ← comprehension (.ListComp elt [⟨tg, iter, [], 0⟩] scope pos) scope X.env _ (newList []) false (eval iter X.env) (some (assign (.Name y py) X.env))) _ _ s
  refine wpAny_bind (wpAny_mono (comp_core (Q := fun x H1 => gName i x σ H1 D.nx) (use := some (assign (.Name y py) X.env)) (R := fun _ s' => SP X pins D .next s') hi hg he hfree hcap hkind hcell hnames hc hfs (fun D' C H5 s6 m6 I6 n6 f6 q6 => ?_) I h) (fun _ s' hq => wpAny_pure (wpAny_pure hq)) fun _ _ e => e)
  show wpAny _ X.A (assign (.Name y py) X.env (.ref D')) _ _ s6
  obtain ⟨oC, es, ep, hoC, rC⟩ := n6
  have dC : ∀ v, oC.data ≠ .cell v := fun v z => by
    first
      | (rw [rC.2.1] at z; cases z)
      | (obtain ⟨_, hd, _⟩ := rC; rw [hd] at z; cases z)
      | (obtain ⟨hd, _⟩ := rC; rw [hd] at z; cases z)
  have Ip : Inv X (pins ++ [(C, oC)]) σ H5 s6 := I6.pins_of fun p hp => (List.mem_append.mp hp).elim (fun z => I6.pin p (List.mem_append_right _ z)) fun z => by
    have e : p = (C, oC) := by simpa using z
    subst e
    exact ⟨hoC, f6.1, f6.2.1, f6.2.2.1, dC⟩
  refine wpAny_assign_Name (store_ok Ip hN hy (.inl hl) (v := .ref D') rfl (fun s7 I7 => ?_) (.inr hl))
  have h7 := (I7.pin (C, oC) (List.mem_append_right _ (List.mem_append_right _ (by simp)))).1
  refine ⟨m6, ⟨oC, es, ep, h7, rC⟩, fun h' hs' => ⟨_, H5, ?_, q6⟩⟩
  have I8 := I7.unpinned
  exact I8.turned (t' := s7.toks) (fun b o hb e => (hs'.2 b hb).trans e) f6.1 f6.2.1 f6.2.2.2.1 f6.2.2.2.2.1 f6.2.2.2.2.2
end
end Cv

namespace Cv
open PySem PySem.Spec PyProof.Rows L2
/-! ### what a comprehension asks of the scopes, by one reckoning -/
noncomputable def compOk (N : List Str) (sc scope : Scope) (caps : List (Nat × Str)) : Bool :=
  decide (scope.kind = .function) && scope.names.all (fun y => decide (y.2 ≠ .cell) && (!decide (y.2 = .free) || decide (sc.names.lookup y.1 = some .cell)) && (!decide (y.2 = .local) || decide (scope.names.lookup y.1 = some .local))) &&
    caps.all fun p => decide (N[p.1]? = some p.2) && decide (sc.names.lookup p.2 = some .cell) && decide (scope.names.lookup p.2 = some .free)
theorem relabel_free {env : Env} : ∀ {names : List (Str × NameKind)} {y : Str}, names.lookup y = some .free →
    (names.map fun (n, k) => if (k == NameKind.free && env.scope.kind == .function && env.kindOf n == some .cell) then (n, NameKind.cell) else (n, k)).lookup y = some .cell ∨
    (names.map fun (n, k) => if (k == NameKind.free && env.scope.kind == .function && env.kindOf n == some .cell) then (n, NameKind.cell) else (n, k)).lookup y = some .free
  | [], _, h => by simp at h
  | (n, q) :: r, y, h => by
    rw [List.lookup_cons] at h
    rw [List.map_cons]
    by_cases hy : y == n
    · rw [hy] at h
      cases h
      by_cases ht : (NameKind.free == NameKind.free && env.scope.kind == .function && env.kindOf n == some .cell) = true
      · left; simp only [ht]; rw [List.lookup_cons]; simp [eq_of_beq hy]
      · right; simp only [ht]; rw [List.lookup_cons]; simp [eq_of_beq hy]
    · rw [Bool.not_eq_true] at hy
      rw [hy] at h
      have ih := relabel_free (env := env) h
      by_cases ht : (q == NameKind.free && env.scope.kind == .function && env.kindOf n == some .cell) = true
      · simp only [ht]; rw [List.lookup_cons]; simpa [hy] using ih
      · simp only [ht]; rw [List.lookup_cons]; simpa [hy] using ih
section
variable {X : Cx}
theorem pe_compS {tg elt iter : Expr} {os : List Str} {pos : Pos} {scope : Scope} {wi : TI} {g : TG} {te : TE} {caps : List (Nat × Str)} (N : List Str) (sc : Scope) (hi : PI X tg iter wi)
    (hg : ∀ cl C s0 H0 fp, PG (cxComp X scope cl (os ++ caps.map (·.2)) C s0 H0 fp) tg g)
    (he : ∀ cl C s0 H0 fp, PE (cxComp X scope cl (os ++ caps.map (·.2)) C s0 H0 fp) elt te)
    (ok : compOk N sc scope caps = true) (hN : X.N = N := by rfl) (hsc : X.env.scope = sc := by rfl) (hc : X.calm = true := by rfl) (hfs : ∀ v, foldedSetIterable iter X.env v = pure v := by intro _; rfl) :
    PE X (.ListComp elt [⟨tg, iter, [], 0⟩] scope pos) (tCompG os.length wi g te (caps.map (·.1))) := by
  subst hN hsc
  unfold compOk at ok
  simp only [Bool.and_eq_true, List.all_eq_true, decide_eq_true_eq, Bool.or_eq_true, Bool.not_eq_true', decide_eq_false_iff_not] at ok
  obtain ⟨⟨h1, h2⟩, h3⟩ := ok
  refine pe_compG hi hg he (fun y hy hf => ?_) (fun p hp => ?_) h1 (fun y hy => (h2 y hy).1.1) (fun y hy hl => ?_) hc hfs
  · rcases (h2 y hy).1.2 with z | z
    · exact absurd hf z
    · exact z
  · obtain ⟨⟨a, b⟩, c⟩ := h3 p hp
    exact ⟨a, b, relabel_free c⟩
  · rcases (h2 y hy).2 with z | z
    · exact absurd hl z
    · exact z
theorem ps_compS {tg elt iter : Expr} {os : List Str} {i : Nat} {y : Str} {py pos spos : Pos} {scope : Scope} {wi : TI} {g : TG} {te : TE} {caps : List (Nat × Str)} (N : List Str) (sc : Scope) (hNd : X.N.Nodup) (hy : X.N[i]? = some y) (hl : X.env.kindOf y = some .local) (hi : PI X tg iter wi)
    (hg : ∀ cl C s0 H0 fp, PG (cxComp X scope cl (os ++ caps.map (·.2)) C s0 H0 fp) tg g)
    (he : ∀ cl C s0 H0 fp, PE (cxComp X scope cl (os ++ caps.map (·.2)) C s0 H0 fp) elt te)
    (ok : compOk N sc scope caps = true) (hN : X.N = N := by rfl) (hsc : X.env.scope = sc := by rfl) (hc : X.calm = true := by rfl) (hfs : ∀ v, foldedSetIterable iter X.env v = pure v := by intro _; rfl)
    (hsw : swapsWith (.ListComp elt [⟨tg, iter, [], 0⟩] scope pos) (some (.Name y py)) spos.line X.env = pure true := by rfl) :
    PS X (.Assign [.Name y py] (.ListComp elt [⟨tg, iter, [], 0⟩] scope pos) spos) (tAsg (tCompG os.length wi g te (caps.map (·.1))) (gName i)) := by
  subst hN hsc
  unfold compOk at ok
  simp only [Bool.and_eq_true, List.all_eq_true, decide_eq_true_eq, Bool.or_eq_true, Bool.not_eq_true', decide_eq_false_iff_not] at ok
  obtain ⟨⟨h1, h2⟩, h3⟩ := ok
  refine ps_compG hNd hy hl hi hg he (fun y hy hf => ?_) (fun p hp => ?_) h1 (fun y hy => (h2 y hy).1.1) (fun y hy hl => ?_) hc hfs hsw
  · rcases (h2 y hy).1.2 with z | z
    · exact absurd hf z
    · exact z
  · obtain ⟨⟨a, b⟩, c⟩ := h3 p hp
    exact ⟨a, b, relabel_free c⟩
  · rcases (h2 y hy).2 with z | z
    · exact absurd hl z
    · exact z
end
/-! ### tuples never change -/
noncomputable def Tup (H H' : Hp) : Prop := ∀ b xs, H b = some (.tup xs) → H' b = some (.tup xs)
theorem _root_.L2.Same.tup {H H' : Hp} (h : Same H H') : Tup H H' := fun b xs e => h b _ e
theorem Tup.refl (H : Hp) : Tup H H := fun _ _ e => e
theorem Tup.trans {H H1 H2 : Hp} (a : Tup H H1) (b : Tup H1 H2) : Tup H H2 := fun c xs e => b c xs (a c xs e)
theorem Tup.lst {H : Hp} {D : Addr} {ys : List V} {o : HO} (h : H D = some (.lst ys)) : Tup H (upd H D o) := fun b xs e => by
  rw [upd_ne (fun z => by rw [z, h] at e; cases e)]; exact e
theorem Tup.new {H : Hp} {D : Addr} {o : HO} (h : H D = none) : Tup H (upd H D o) := L2.Same.tup (Same.new h)
theorem ShV.tup {H H' : Hp} {v : V} {q : Rat} (h : ShV H v q) (e : Tup H H') : ShV H' v q := by
  obtain ⟨a, rfl, h⟩ := h
  exact ⟨a, rfl, e _ _ h⟩
/-! ### comprehensions by what their items are -/
/-- an iterator of n items that are known ahead -/
noncomputable def Plain1 (J : It) (H1 : Hp) (n : Nat) (f : Nat → V) : Prop := ∀ H2, Same H1 H2 → ∀ i, (i < n → J.go i H2 ∧ ∀ x H', J.yld i H2 x H' → H' = H2 ∧ x = f i) ∧ (i = n → J.stop i H2)
/-- .. of n pairs (tuples that are new, or known ahead) -/
noncomputable def Plain2 (K : PySem.W.Frag) (J : It) (H1 : Hp) (n : Nat) (f g : Nat → V) : Prop := ∀ H2, Same H1 H2 → ∀ i, (i < n → J.go i H2 ∧ ∀ x H', J.yld i H2 x H' → Same H2 H' ∧ ∃ a, x = .ref a ∧ SqT K H' a [f i, g i]) ∧ (i = n → J.stop i H2)
theorem plain_list {K : PySem.W.Frag} {a : Addr} {xs : List V} {H1 : Hp} (h : SqL K H1 a xs) : Plain1 (Itl K a) H1 xs.length fun i => (xs[i]?).getD .non := fun H2 s i =>
  ⟨fun hi => ⟨⟨xs, xs[i], s.seq h, by simp [hi]⟩, fun x H' y => ⟨y.1, by show x = (xs[i]?).getD .non; rw [y.2 xs (s.seq h)]; rfl⟩⟩, fun e => by subst e; exact ⟨xs, s.seq h, Nat.le_refl _⟩⟩
theorem plain_tup {K : PySem.W.Frag} {a : Addr} {xs : List V} {H1 : Hp} (h : SqT K H1 a xs) : Plain1 (Itt K a) H1 xs.length fun i => (xs[i]?).getD .non := fun H2 s i =>
  ⟨fun hi => ⟨⟨xs, xs[i], SqT.same s h, by simp [hi]⟩, fun x H' y => ⟨y.1, by show x = (xs[i]?).getD .non; rw [y.2 xs (SqT.same s h)]; rfl⟩⟩, fun e => by subst e; exact ⟨xs, SqT.same s h, Nat.le_refl _⟩⟩
theorem small_line {n : Nat} (h : n ≤ 100000) : n < sizeLine := Nat.lt_of_le_of_lt h (by rw [sizeLine_eq]; decide)
section
variable {K : PySem.W.Frag} {J : It} {H1 : Hp} {te : TE} {cs : L2.St} {Q : VK} {n : Nat}
theorem comp1 {f : Nat → V} (hJ : Plain1 J H1 n f) (hn : n ≤ 100000) (R : Nat → V → Hp → Prop) (hR : ∀ i v H H', Tup H H' → R i v H → R i v H')
    (he : ∀ i H2 (k : VK), i < n → Same H1 H2 → (∀ v H3, Same H2 H3 → R i v H3 → k v H3) → te (some (f i) :: cs) H2 k)
    (hq : ∀ D ys H2, H1 D = none → Same H1 H2 → H2 D = some (.lst ys) → ys.length = n → (∀ i v, ys[i]? = some v → R i v H2) → Q (.ref D) H2) :
    CompGoal 1 J H1 (gName 0) te cs Q := by
  intro D hD
  refine ⟨fun i m ys H2 => m = n - i ∧ i ≤ n ∧ ys.length = i ∧ Same H1 H2 ∧ H2 D = some (.lst ys) ∧ ∀ j v, ys[j]? = some v → R j v H2, ⟨n, by simp, Nat.zero_le _, rfl, Same.new hD, upd_same, fun j v e => by simp at e⟩, ?_⟩
  rintro i m ys H2 ⟨rfl, hi, hl, s2, d2, r2⟩
  by_cases hlt : i < n
  · refine .inr ⟨((hJ H2 s2 i).1 hlt).1, fun x H' y own ho => ?_⟩
    obtain ⟨rfl, rfl⟩ := ((hJ H2 s2 i).1 hlt).2 x H' y
    cases own with
    | nil => cases ho
    | cons o1 r =>
      cases r with
      | cons _ _ => cases ho
      | nil =>
        refine ⟨⟨[some (f i)], rfl, rfl⟩, he i _ _ hlt s2 fun v H3 s3 r3 => ⟨s3 _ _ d2, small_line (by omega), n - (i + 1), by omega, rfl, hlt, by rw [List.length_append, hl]; rfl, fun b o e => ?_, upd_same, fun j w e => ?_⟩⟩
        · rw [upd_ne (ne_of_none e hD)]; exact s3 _ _ (s2 _ _ e)
        · have t3 : Tup H3 (upd H3 D (.lst (ys ++ [v]))) := Tup.lst (s3 _ _ d2)
          by_cases hj : j < ys.length
          · rw [List.getElem?_append_left hj] at e
            exact hR _ _ _ _ (s3.tup.trans t3) (r2 j w e)
          · rw [List.getElem?_append_right (by omega)] at e
            have hj0 : j - ys.length = 0 := by
              cases q : j - ys.length with
              | zero => rfl
              | succ k => rw [q] at e; simp at e
            rw [hj0] at e
            have e' : v = w := by simpa using e
            have hji : j = i := by omega
            rw [← e', hji]
            exact hR _ _ _ _ t3 r3
  · have e : i = n := by omega
    subst e
    exact .inl ⟨(hJ H2 s2 i).2 rfl, hq D ys H2 hD s2 d2 hl r2⟩
theorem comp2 {f g : Nat → V} (hJ : Plain2 K J H1 n f g) (hn : n ≤ 100000) (R : Nat → V → Hp → Prop) (hR : ∀ i v H H', Tup H H' → R i v H → R i v H')
    (he : ∀ i H2 (k : VK), i < n → Same H1 H2 → (∀ v H3, Same H2 H3 → R i v H3 → k v H3) → te (some (f i) :: some (g i) :: cs) H2 k)
    (hq : ∀ D ys H2, H1 D = none → Same H1 H2 → H2 D = some (.lst ys) → ys.length = n → (∀ i v, ys[i]? = some v → R i v H2) → Q (.ref D) H2) :
    CompGoal 2 J H1 (gTup K 2 (gCons (gName 0) (gCons (gName 1) gNil))) te cs Q := by
  intro D hD
  refine ⟨fun i m ys H2 => m = n - i ∧ i ≤ n ∧ ys.length = i ∧ Same H1 H2 ∧ H2 D = some (.lst ys) ∧ ∀ j v, ys[j]? = some v → R j v H2, ⟨n, by simp, Nat.zero_le _, rfl, Same.new hD, upd_same, fun j v e => by simp at e⟩, ?_⟩
  rintro i m ys H2 ⟨rfl, hi, hl, s2, d2, r2⟩
  by_cases hlt : i < n
  · refine .inr ⟨((hJ H2 s2 i).1 hlt).1, fun x H' y own ho => ?_⟩
    obtain ⟨s2', a, rfl, ht⟩ := ((hJ H2 s2 i).1 hlt).2 x H' y
    cases own with
    | nil => cases ho
    | cons o1 r =>
      cases r with
      | nil => cases ho
      | cons o2 r =>
        cases r with
        | cons _ _ => cases ho
        | nil =>
          refine ⟨a, _, rfl, ht, rfl, _, _, rfl, _, _, rfl, rfl, ⟨[some (f i), some (g i)], rfl, rfl⟩, he i _ _ hlt (s2.trans s2') fun v H3 s3 r3 => ⟨s3 _ _ (s2' _ _ d2), small_line (by omega), n - (i + 1), by omega, rfl, hlt, by rw [List.length_append, hl]; rfl, fun b o e => ?_, upd_same, fun j w e => ?_⟩⟩
          · rw [upd_ne (ne_of_none e hD)]; exact s3 _ _ (s2' _ _ (s2 _ _ e))
          · have t3 : Tup H3 (upd H3 D (.lst (ys ++ [v]))) := Tup.lst (s3 _ _ (s2' _ _ d2))
            by_cases hj : j < ys.length
            · rw [List.getElem?_append_left hj] at e
              exact hR _ _ _ _ ((s2'.trans s3).tup.trans t3) (r2 j w e)
            · rw [List.getElem?_append_right (by omega)] at e
              have hj0 : j - ys.length = 0 := by
                cases q : j - ys.length with
                | zero => rfl
                | succ k => rw [q] at e; simp at e
              rw [hj0] at e
              have e' : v = w := by simpa using e
              have hji : j = i := by omega
              rw [← e', hji]
              exact hR _ _ _ _ t3 r3
  · have e : i = n := by omega
    subst e
    exact .inl ⟨(hJ H2 s2 i).2 rfl, hq D ys H2 hD s2 d2 hl r2⟩
end
/-! ### rules that name K plainly (a comprehension's block hands on no context) -/
section
variable {X : Cx}
theorem ix_listK (K : PySem.W.Frag) (h : X.K = K := by rfl) : IxR X (rIxL K) := by subst h; exact ix_list
theorem ix_tupK (K : PySem.W.Frag) (h : X.K = K := by rfl) : IxR X (rIxT K) := by subst h; exact ix_tup
theorem sl_listK (K : PySem.W.Frag) (h : X.K = K := by rfl) : SlR X (rSlL K) := by subst h; exact sl_list
theorem op_eqDK (K : PySem.W.Frag) (hu : X.A.units + 64 < cLine) (h : X.K = K := by rfl) : OpR X (compareOp .Eq) (rEqD K) := by subst h; exact op_eqD hu
theorem op_neDK (K : PySem.W.Frag) (hu : X.A.units + 64 < cLine) (h : X.K = K := by rfl) : OpR X (compareOp .NotEq) (rNeD K) := by subst h; exact op_neD hu
theorem call_lenK (K : PySem.W.Frag) (h : X.K = K := by rfl) : CallR X (.builtin "len") (fun xs H Q => ∃ p ys, xs = [.ref p] ∧ (SqL K H p ys ∨ SqT K H p ys) ∧ Q (.int ys.length) H) := by subst h; exact call_len_seq
theorem call_isiK (K : PySem.W.Frag) (h : X.K = K := by rfl) : CallR X (.builtin "isinstance") (fun xs H Q => ∃ x T t b, xs = [x, .ty T] ∧ TyOf K H x t ∧ PySem.W.kitOne K t (.type T) = some b ∧ Q (.bl b) H) := by subst h; exact call_isi
theorem pg_tupK (K : PySem.W.Frag) {es : List Expr} {k : Nat} {t : TGs} {n : Nat} {pos : Pos} (hc : X.calm = true) (h : PGs X es t) (hK : X.K = K := by rfl)
    (hn : (assignEach es X.env).length = n := by rfl) (hst : (assignEach es X.env).findIdx? (·.1) = none := by rfl) : PG X (.Tuple es k pos) (gTup K n t) := by subst hK; exact pg_tup hc h hn hst
end
end Cv

namespace Cv
open PySem PySem.Spec PyProof.Rows L2
/-! ### reversed of a list, walked -/
noncomputable def Itv (K : PySem.W.Frag) (a : Addr) (n : Nat) : It :=
  ⟨fun i H => ∃ xs x, SqL K H a xs ∧ xs.length = n ∧ i < n ∧ xs[n - 1 - i]? = some x, fun i H x H' => H' = H ∧ ∀ xs, SqL K H a xs → xs[n - 1 - i]? = some x, fun i H => n = i⟩
theorem turn_rev {P : Program} {w : World} {K : PySem.W.Frag} {tg : Expr} (a it : Addr) (n : Nat) : Turn P w K tg (Itv K a n) [it] it (fun i h => h.IsRevIter it a ((n : Int) - 1 - (i : Int))) where
  mem := by simp
  obj := fun i h st b hb => by
    have e : b = it := by simpa using hb
    subst e
    obtain ⟨o, e, c, d⟩ := st
    exact ⟨o, e, fun v z => by rw [d] at z; cases z⟩
  keep := fun i h h' st k => st.at fun o e => k it (by simp) o e
  item := by
    intro X hP hw hK hc i pins s σ H E I hf st hg
    subst hP hw hK
    obtain ⟨xs, x, hq, hn, hi, hx⟩ := hg
    obtain ⟨its, rv, p, hz⟩ := I.list hq
    obtain ⟨u, hu, ru⟩ := rv.get hx
    obtain ⟨f0, f1, f2, f3, f4, f5⟩ := hf it (by simp)
    have e : (n : Int) - 1 - (i : Int) = ((n - 1 - i : Nat) : Int) := by omega
    have st1 : s.heap.IsRevIter it a ((n - 1 - i : Nat) : Int) := by rw [← e]; exact st
    refine wpAny_pyNext_rev_item st1 p.isList (x := u) (by simpa using hu) fun h' st' sb => ?_
    have I1 : Inv X pins σ H { s with heap := h' } := I.turned (t' := s.toks) (fun b o hb e => (sb.2 b hb).trans e) f0 f1 f3 f4 f5
    have e2 : ((n - 1 - i : Nat) : Int) - 1 = (n : Int) - 1 - ((i + 1 : Nat) : Int) := by omega
    rw [e2] at st'
    obtain ⟨o, eo, c, d⟩ := id st'
    exact ⟨u, rfl, go_of (s := { s with heap := h' }) eo c d (by decide) ⟨x, H, I1, ru, ⟨rfl, fun ys hy => by rw [I.list_inj hy hq]; exact hx⟩, st', fun b hb => (hf b hb).1⟩⟩
  done := by
    intro X hP hw hK hc i pins s σ H E I hf st hg
    subst hP hw hK
    have hg' : n = i := hg
    subst hg'
    obtain ⟨f0, f1, f2, f3, f4, f5⟩ := hf it (by simp)
    have e : (n : Int) - 1 - (n : Int) = -1 := by omega
    have st1 : s.heap.IsRevIter it a (-1) := by rw [← e]; exact st
    exact wpAny_pyNext_rev_end (I.ok.hd hc) st1 fun h' eb => ⟨rfl, I.turned (t' := s.toks) (fun b o hb e => eb b o hb e) f0 f1 f3 f4 f5⟩
  self := fun _ _ _ _ _ st h => wpAny_pyIter_revIter st h
section
variable {X : Cx} {tg : Expr}
noncomputable def iRev (K : PySem.W.Frag) (ta : TA) : TI := fun σ H R => ta σ H fun vs H1 => ∃ (a : Addr) (xs : List V), vs = [.ref a] ∧ SqL K H1 a xs ∧ R (Itv K a xs.length) H1
theorem pi_rev {a : Expr} {ta : TA} {p pos : Pos} (hg : Gl X "reversed") (hm : X.mg "reversed" = none) (ha : PA X [a] ta) (he : starEach [a] X.env = (false, eval a X.env) :: starEach [] X.env := by rfl)
    (hpl : (backTo pos (starEach [] X.env)).any (·.1) = false := by rfl) : PI X tg (.Call (.Name "reversed" p) [a] [] pos) (iRev X.K ta) := by
  intro pins s σ H R I h
  refine wpAny_Call_Name_kw (ld_blt I hg hm boot_reversed ?_ (by decide) (by decide))
  refine PyProof.Rows.callWith_type1 (thn (ha pos pins s σ H _ I h) fun us s1 ⟨vs, H1, I1, r1, q1⟩ => ?_) he hpl
  obtain ⟨l, xs, rfl, hq, q⟩ := q1
  obtain ⟨u, rfl, e1⟩ := vals_one r1
  cases e1
  obtain ⟨its, rv, p1, hz⟩ := I1.list hq
  refine call_reversed_list p1.isList ?_
  have hsz : ((its.toArray.size : Nat) : Int) - 1 = (xs.length : Int) - 1 - ((0 : Nat) : Int) := by rw [List.size_toArray, ← rv.length]; omega
  have st : Heap.IsRevIter (s1.heap.push (revObj l ((its.toArray.size : Int) - 1))) s1.heap.objs.size l ((xs.length : Int) - 1 - ((0 : Nat) : Int)) := by
    rw [← hsz]; exact ⟨_, Heap.get?_push_size _ rfl, rfl, rfl⟩
  refine wpAny_pyIter_revIter (s := { s1 with heap := s1.heap.push (revObj l ((its.toArray.size : Int) - 1)) }) st ?_
  refine ⟨s1.heap.objs.size, [s1.heap.objs.size], _, _, H1, rfl, I1.kept (t' := s1.toks) fun b o e => Heap.get?_push_of_some _ e, turn_rev l _ xs.length, st, fun b hb => ?_, q⟩
  have e : b = s1.heap.objs.size := by simpa using hb
  subst e
  exact I1.fpOk (Nat.le_refl _) (I1.hok.fresh (Nat.le_refl _))
end
end Cv

namespace Cv
open PySem PySem.Spec PyProof.Rows L2
section
variable {prog : Program} {w : World} {A : Around} {E : Value → Shared → Prop} {s : Shared}
end
section
variable {X : Cx}
end
end Cv

namespace Cv
open PySem PySem.Spec PyProof.Rows L2
section
variable {X : Cx} {pins : List (Addr × Obj)} {σ : L2.St} {H : Hp} {s : Shared} {h' : Heap}
/-- untracked records of ours have turned, a new object is laid and tracked -/
theorem turnedLay {t' : Nat} {ch : List Addr} {a : Addr} {o : HO} (I : Inv X pins σ H s) (hf : ∀ b ∈ ch, FpOk X pins H b) (k : ∀ b o, b ∉ ch → s.heap.get? b = some o → h'.get? b = some o)
    (ha : s.heap.objs.size ≤ a) (new : ObjOk X.prog X.w (upd H a o) h' a o) : Inv X pins σ (upd H a o) { s with heap := h', toks := t' } := by
  have hna : H a = none := I.hok.fresh ha
  have nit : ∀ b u, H b = some u → b ∉ ch := fun b u e z => by rw [(hf b z).1] at e; cases e
  have up : ∀ b u, H b = some u → upd H a o b = some u := fun b u e => by rw [upd_ne (ne_of_none e hna)]; exact e
  refine I.step (g' := s.gens) (d' := s.drawn) (ch := ch) (fun b hb => ⟨(hf b hb).2.2.2.1, (hf b hb).2.1, (hf b hb).2.2.2.2.1, (hf b hb).2.2.2.2.2⟩) (fun b o _ _ hc e _ => k b o hc e) (fun b o _ _ hc e _ => ⟨o.slots, k b o hc e⟩) (fun b o _ e n => ?_)
    (fun b o hc e => ⟨o, k b o hc e⟩) (fun _ _ e => up _ _ e) (fun _ _ _ e => up _ _ e) (fun b ps e => ⟨#[], by rw [up _ _ e]; simp⟩) (fun m hm => ?_) (fun b u e => ?_) I.bare
  · rw [upd_ne (fun z => by rw [z] at e; exact absurd (Heap.lt_size e) (Nat.not_lt.mpr ha))]; exact n
  · obtain ⟨o, es, ep, ho, r⟩ := hm
    exact ⟨o, es, ep, k _ o (fun z => (hf _ z).2.1 rfl) ho, r⟩
  · by_cases hb : b = a
    · subst hb
      rw [upd_same] at e
      cases e
      exact new
    · rw [upd_ne hb] at e
      refine (I.hok b u e).stay (fun c v hc q => k c v ?_ q) (fun _ q => up _ _ q) fun _ _ q => up _ _ q
      rcases hc with z | z
      · rw [z]; exact nit b u e
      · exact nit c _ z
theorem turnedL {t' : Nat} {ch : List Addr} (I : Inv X pins σ H s) (hf : ∀ b ∈ ch, FpOk X pins H b) (k : ∀ b o, b ∉ ch → s.heap.get? b = some o → h'.get? b = some o) : Inv X pins σ H { s with heap := h', toks := t' } := by
  have nit : ∀ b u, H b = some u → b ∉ ch := fun b u e z => by rw [(hf b z).1] at e; cases e
  refine I.step (g' := s.gens) (d' := s.drawn) (ch := ch) (fun b hb => ⟨(hf b hb).2.2.2.1, (hf b hb).2.1, (hf b hb).2.2.2.2.1, (hf b hb).2.2.2.2.2⟩) (fun b o _ _ hc e _ => k b o hc e) (fun b o _ _ hc e _ => ⟨o.slots, k b o hc e⟩) (fun _ _ _ _ n => n)
    (fun b o hc e => ⟨o, k b o hc e⟩) (fun _ _ e => e) (fun _ _ _ e => e) (fun b ps e => ⟨#[], by rw [e]; simp⟩) (fun m hm => ?_) (fun b u e => ?_) I.bare
  · obtain ⟨o, es, ep, ho, r⟩ := hm
    exact ⟨o, es, ep, k _ o (fun z => (hf _ z).2.1 rfl) ho, r⟩
  · refine (I.hok b u e).stay (fun c v hc q => k c v ?_ q) (fun _ q => q) fun _ _ q => q
    rcases hc with z | z
    · rw [z]; exact nit b u e
    · exact nit c _ z
end
/-! ### zip of two lists, walked by pairs of names -/
noncomputable def Itz (K : PySem.W.Frag) (l1 l2 : Addr) : It :=
  ⟨fun i H => ∃ xs ys x y, SqL K H l1 xs ∧ SqL K H l2 ys ∧ xs[i]? = some x ∧ ys[i]? = some y,
   fun i H v H' => ∃ T a b, v = .ref T ∧ H T = none ∧ H' = upd H T (.tup [a, b]) ∧ (∀ xs, SqL K H l1 xs → xs[i]? = some a) ∧ ∀ ys, SqL K H l2 ys → ys[i]? = some b,
   fun i H => ∃ xs ys, SqL K H l1 xs ∧ SqL K H l2 ys ∧ (xs[i]? = none ∨ ys[i]? = none)⟩
theorem turn_zip {P : Program} {w : World} {K : PySem.W.Frag} {elts : List Expr} {k0 : Nat} {pos : Pos} {z TI TO i1 i2 l1 l2 : Addr} (D : ZipApart z TI TO i1 i2 l1 l2) : Turn P w K (.Tuple elts k0 pos) (Itz K l1 l2) [z, TI, TO, i1, i2] z
    (fun i h => IsZip h z TI TO .none ∧ IsPair h TI (.ref i1) (.ref i2) ∧ (∃ a b, IsPair h TO a b) ∧ h.IsListIter i1 l1 i ∧ h.IsListIter i2 l2 i) where
  mem := by simp
  obj := fun i h st b hb => by
    obtain ⟨hz, hTI, ⟨a, b', hTO⟩, ⟨o1, e1, c1, d1⟩, ⟨o2, e2, c2, d2⟩⟩ := st
    simp only [List.mem_cons, List.not_mem_nil, or_false] at hb
    rcases hb with rfl | rfl | rfl | rfl | rfl
    · exact ⟨_, hz, fun v q => by have q' : Data.fields _ = Data.cell v := q; cases q'⟩
    · exact ⟨_, hTI, fun v q => by have q' : Data.seq _ _ = Data.cell v := q; cases q'⟩
    · exact ⟨_, hTO, fun v q => by have q' : Data.seq _ _ = Data.cell v := q; cases q'⟩
    · exact ⟨_, e1, fun v q => by rw [d1] at q; cases q⟩
    · exact ⟨_, e2, fun v q => by rw [d2] at q; cases q⟩
  keep := fun i h h' st k => by
    obtain ⟨hz, hTI, ⟨a, b, hTO⟩, h1, h2⟩ := st
    exact ⟨k z (by simp) _ hz, k TI (by simp) _ hTI, ⟨a, b, k TO (by simp) _ hTO⟩, h1.at fun o e => k i1 (by simp) o e, h2.at fun o e => k i2 (by simp) o e⟩
  item := by
    intro X hP hw hK hc i pins s σ H E I hf st hg
    subst hP hw hK
    obtain ⟨xs, ys, x, y, hq1, hq2, hx, hy⟩ := hg
    obtain ⟨hz, hTI, ⟨a, b, hTO⟩, h1, h2⟩ := st
    obtain ⟨its1, rv1, p1, hz1⟩ := I.list hq1
    obtain ⟨its2, rv2, p2, hz2⟩ := I.list hq2
    obtain ⟨u1, hu1, ru1⟩ := rv1.get hx
    obtain ⟨u2, hu2, ru2⟩ := rv2.get hy
    refine wpAny_pyNext_zip_item D hz hTI hTO h1 h2 p1.isList p2.isList (x := u1) (y := u2) (by simpa using hu1) (by simpa using hu2) fun h' a1 a2 a3 a4 a5 a6 a7 => ?_
    refine ⟨_, rfl, wpAny_letOwnedTupleGo_zip a1 fun h'' b1 b2 => ?_⟩
    have hT : H s.heap.objs.size = none := I.hok.fresh (Nat.le_refl _)
    have neT : ∀ {c o}, s.heap.get? c = some o → c ≠ s.heap.objs.size := fun e => Nat.ne_of_lt (Heap.lt_size e)
    have kk : ∀ b o, b ∉ [z, TI, TO, i1, i2] → s.heap.get? b = some o → h''.get? b = some o := fun b o hb e => by
      simp only [List.mem_cons, List.not_mem_nil, or_false, not_or] at hb
      exact b2.extBut b o hb.1 (a7 b o hb.1 hb.2.2.1 hb.2.2.2.1 hb.2.2.2.2 e)
    have tT : h''.get? s.heap.objs.size = some { cls := .type "tuple", data := .seq #[u1, u2] } := b2.extBut _ _ (Ne.symm (neT hz)) a5
    have I1 := turnedLay (t' := s.toks) (a := s.heap.objs.size) (o := .tup [x, y]) (h' := h'') I hf kk (Nat.le_refl _) ⟨by show 2 ≤ sizeLine; decide, [u1, u2], .cons ru1 (.cons ru2 .nil), ⟨_, tT, rfl, _, rfl⟩⟩
    refine ⟨.ref s.heap.objs.size, _, I1, rfl, ⟨s.heap.objs.size, x, y, rfl, hT, rfl, fun xs' hx' => by rw [I.list_inj hx' hq1]; exact hx, fun ys' hy' => by rw [I.list_inj hy' hq2]; exact hy⟩, ?_, fun c hc => ?_⟩
    · exact ⟨b1, b2.extBut _ _ D.TIz (a7 _ _ D.TIz D.TITO D.TIi1 D.TIi2 hTI), ⟨_, _, b2.extBut _ _ D.TOz a2⟩, a3.extBut b2.extBut D.i1z, a4.extBut b2.extBut D.i2z⟩
    · have e0 := (hf c hc).1
      rw [upd_ne ?_]
      · exact e0
      · intro q
        obtain ⟨o1, e1, _⟩ := h1
        obtain ⟨o2, e2, _⟩ := h2
        simp only [List.mem_cons, List.not_mem_nil, or_false] at hc
        rcases hc with rfl | rfl | rfl | rfl | rfl
        · exact neT hz q
        · exact neT hTI q
        · exact neT hTO q
        · exact neT e1 q
        · exact neT e2 q
  done := by
    intro X hP hw hK hc i pins s σ H E I hf st hg
    subst hP hw hK
    obtain ⟨xs, ys, hq1, hq2, hend⟩ := hg
    obtain ⟨hz, hTI, ⟨a, b, hTO⟩, h1, h2⟩ := st
    obtain ⟨its1, rv1, p1, hz1⟩ := I.list hq1
    obtain ⟨its2, rv2, p2, hz2⟩ := I.list hq2
    refine wpAny_pyNext_zip_end (I.ok.hd hc) D hz hTI hTO h1 h2 p1.isList p2.isList (hend.imp (fun e => by simpa using rv1.none_of e) fun e => by simpa using rv2.none_of e) fun h' kk => ⟨rfl, turnedL (t' := s.toks) I hf fun b o hb e => ?_⟩
    simp only [List.mem_cons, List.not_mem_nil, or_false, not_or] at hb
    exact kk b o hb.1 hb.2.2.1 hb.2.2.2.1 hb.2.2.2.2 e
  self := fun _ _ _ _ _ st h => wpAny_pyIter_zip st.1 h
section
variable {X : Cx}
noncomputable def iZip (K : PySem.W.Frag) (ta : TA) : TI := fun σ H R => ta σ H fun vs H1 => ∃ l1 l2, vs = [.ref l1, .ref l2] ∧ (∃ xs, SqL K H1 l1 xs) ∧ (∃ ys, SqL K H1 l2 ys) ∧ R (Itz K l1 l2) H1
theorem pi_zip {a b : Expr} {ta : TA} {p pos ppos : Pos} {elts : List Expr} {k0 : Nat} (hg : Gl X "zip") (hm : X.mg "zip" = none) (ha : PA X [a, b] ta) (he : starEach [a, b] X.env = (false, eval a X.env) :: starEach [b] X.env := by rfl)
    (hpl : (backTo pos (starEach [b] X.env)).any (·.1) = false := by rfl) : PI X (.Tuple elts k0 ppos) (.Call (.Name "zip" p) [a, b] [] pos) (iZip X.K ta) := by
  intro pins s σ H R I h
  refine wpAny_Call_Name_kw (ld_blt I hg hm boot_zip ?_ (by decide) (by decide))
  refine PyProof.Rows.callWith_type1 (thn (ha pos pins s σ H _ I h) fun us s1 ⟨vs, H1, I1, r1, q1⟩ => ?_) he hpl
  obtain ⟨l1, l2, rfl, ⟨xs, hq1⟩, ⟨ys, hq2⟩, q⟩ := q1
  obtain ⟨u1, u2, rfl, e1, e2⟩ := vals_two r1
  cases e1; cases e2
  obtain ⟨its1, rv1, p1, hz1⟩ := I1.list hq1
  obtain ⟨its2, rv2, p2, hz2⟩ := I1.list hq2
  have a1 : l1 < s1.heap.objs.size := by obtain ⟨_, e, _⟩ := p1.isList; exact Heap.lt_size e
  have a2 : l2 < s1.heap.objs.size := by obtain ⟨_, e, _⟩ := p2.isList; exact Heap.lt_size e
  refine call_zip_2 p1.isList p2.isList fun h' hz hTI hTO hi1 hi2 _ hk => ?_
  refine wpAny_pyIter_zip hz ?_
  refine ⟨_, [s1.heap.objs.size + 4, s1.heap.objs.size + 2, s1.heap.objs.size + 3, s1.heap.objs.size, s1.heap.objs.size + 1], _, _, H1, rfl, I1.kept (t' := s1.toks) hk, turn_zip (zipApart_new a1 a2), ⟨hz, hTI, ⟨_, _, hTO⟩, hi1, hi2⟩, fun c hc => ?_, q⟩
  have hge : s1.heap.objs.size ≤ c := by
    simp only [List.mem_cons, List.not_mem_nil, or_false] at hc
    rcases hc with rfl | rfl | rfl | rfl | rfl <;> omega
  exact I1.fpOk hge (I1.hok.fresh hge)
theorem plain_zip {K : PySem.W.Frag} {l1 l2 : Addr} {xs ys : List V} {H1 : Hp} (h1 : SqL K H1 l1 xs) (h2 : SqL K H1 l2 ys) : Plain2 K (Itz K l1 l2) H1 (min xs.length ys.length) (fun i => (xs[i]?).getD .non) (fun i => (ys[i]?).getD .non) := fun H2 s i => by
  refine ⟨fun hi => ⟨⟨xs, ys, xs[i]'(by omega), ys[i]'(by omega), s.seq h1, s.seq h2, by simp [show i < xs.length by omega], by simp [show i < ys.length by omega]⟩, fun x H' y => ?_⟩, fun e => ⟨xs, ys, s.seq h1, s.seq h2, ?_⟩⟩
  · obtain ⟨T, a, b, rfl, hT, rfl, e1, e2⟩ := y
    refine ⟨Same.new hT, T, rfl, ?_⟩
    show SqT K _ T [(xs[i]?).getD .non, (ys[i]?).getD .non]
    rw [e1 xs (s.seq h1), e2 ys (s.seq h2)]
    exact SqT.of upd_same
  · rcases Nat.le_total xs.length ys.length with h | h
    · exact .inl (List.getElem?_eq_none (by omega))
    · exact .inr (List.getElem?_eq_none (by omega))
/-! ### all, any of a list of truths -/
theorem all_range (bs : List Bool) : (List.range bs.length).all (fun i => (bs[i]?).getD false) = bs.all id := by
  rw [Bool.eq_iff_iff, List.all_eq_true, List.all_eq_true]
  constructor
  · intro h b hb
    obtain ⟨i, hi, rfl⟩ := List.getElem_of_mem hb
    have := h i (List.mem_range.mpr hi)
    simpa [hi] using this
  · intro h i hi
    have hi' := List.mem_range.mp hi
    have := h bs[i] (List.getElem_mem hi')
    simpa [hi'] using this
theorem any_range (bs : List Bool) : (List.range bs.length).any (fun i => (bs[i]?).getD false) = bs.any id := by
  rw [Bool.eq_iff_iff, List.any_eq_true, List.any_eq_true]
  constructor
  · rintro ⟨i, hi, h⟩
    have hi' := List.mem_range.mp hi
    exact ⟨bs[i], List.getElem_mem hi', by simpa [hi'] using h⟩
  · rintro ⟨b, hb, h⟩
    obtain ⟨i, hi, rfl⟩ := List.getElem_of_mem hb
    exact ⟨i, List.mem_range.mpr hi, by simpa [hi] using h⟩
theorem rel_bools {bs : List Bool} {us : List Value} (r : Vals (bs.map V.bl) us) : us = bs.map Value.bool := by
  induction bs generalizing us with
  | nil => cases r; rfl
  | cons b r' ih =>
    cases r with
    | cons p q => rw [List.map_cons, ← ih q]; cases p; rfl
theorem call_allB (hc : X.calm = true) : CallR X (.builtin "all") (fun xs H Q => ∃ (p : Addr) (bs : List Bool), xs = [.ref p] ∧ SqL X.K H p (bs.map V.bl) ∧ Q (.bl (bs.all id)) H) := by
  intro pins s σ H xs us Q I r h
  obtain ⟨p, bs, rfl, hq, q⟩ := h
  obtain ⟨u, rfl, ru⟩ := vals_one r
  cases ru
  obtain ⟨its, rv, pl, hz⟩ := I.list hq
  have e := rel_bools rv
  subst e
  have a1 : p < s.heap.objs.size := by obtain ⟨_, e, _⟩ := pl.isList; exact Heap.lt_size e
  have hne : p ≠ s.heap.objs.size := Nat.ne_of_lt a1
  refine call_all_walk (wpAny_pyIter_list pl.isList ⟨_, _, _, _, _, _, fun i => (bs[i]?).getD false, rfl, Walks.list (A := X.A.in1) (show X.A.in1.handled = none from I.ok.hd hc) _ p hne _, ⟨⟨_, Heap.get?_push_size _ rfl, rfl, rfl⟩, Heap.IsList.push pl.isList _⟩, fun i v s' Q' E' hv hQ => ?_, fun h' tk hk => ?_⟩)
  · have hv' : (bs.map Value.bool)[i]? = some v := by simpa using hv
    have hQ : Q' ((bs[i]?).getD false) s' := hQ
    rw [List.getElem?_map] at hv'
    cases eb : bs[i]? with
    | none => rw [eb] at hv'; cases hv'
    | some b =>
      rw [eb] at hv' hQ
      cases hv'
      exact wpAny_truthy_bool hQ
  · have ea : (List.range (bs.map Value.bool).toArray.size).all (fun i => (bs[i]?).getD false) = bs.all id := by
      rw [← all_range bs]; simp
    rw [ea]
    exact ⟨.bl _, H, I.kept (h' := h') (t' := tk) (fun b o eb => hk b o (by
      intro hm
      have : b = s.heap.objs.size := by simpa using hm
      rw [this] at eb
      exact absurd (Heap.lt_size eb) (Nat.lt_irrefl _)) (Heap.get?_push_of_some _ eb)), rfl, q⟩
end
end Cv

namespace Cv
open PySem PySem.Spec PyProof.Rows L2
/-! ### the end of a list while an exception is handled; any of a list of truths there -/
theorem ent_unchain : entryFor table "proto.unchain" = some Builtin.«proto.unchain» := entryFor_of_fast (by kernel_rfl)
section
variable {prog : Program} {w : World} {A : Around} {E : Value → Shared → Prop} {s : Shared}
theorem raiseH {x e C : Addr} {oe : Obj} {es : Array Value} {α : Type} {Q : α → Shared → Prop} (hh : A.handled = some (.ref x)) (hx : XAt x C s.heap) (he : s.heap.get? e = some oe) (de : oe.data = .fields es) (d2 : 2 < es.size) (hne : x ≠ e)
    (k : E (.ref e) { s with heap := s.heap.update e (Obj.mapFields (·.setIfInBounds 2 (.ref x))) }) : wpAny (model prog w) A (raiseNew (.ref e) : Sem α) Q E s := by
  obtain ⟨o, vs, a, b, c, d, _⟩ := hx
  unfold raiseNew
  refine wpAny_bind (wpAny_handled ?_)
  rw [hh]
  dsimp only
  have nb : (Value.ref x != Value.ref e) = true := by
    rw [bne_iff_ne]; intro q; cases q; exact hne rfl
  rw [if_pos nb]
  refine wpAny_bind (wpAny_holding (wpAny_runValue (codeAny_builtin ent_unchain ?_)))
  unfold Builtin.«proto.unchain»
  dsimp only
  refine wpAny_bind (wpAny_field a c d ?_)
  rw [if_pos (by decide)]
  refine wpAny_pure ?_
  refine wpAny_bind (show wpAny _ _ (setField (.ref e) 2 (.ref x)) _ _ _ from wpAny_setField he de d2 ?_)
  exact wpAny_throw k
theorem nextEndH {x C it l : Addr} {i : Nat} {items : Array Value} {Q : Option Value → Shared → Prop} (hh : A.handled = some (.ref x)) (hx : XAt x C s.heap) (hxi : x ≠ it)
    (hit : s.heap.IsListIter it l i) (hl : s.heap.IsList l items) (hn : items[i]? = none)
    (hQ : ∀ h', Heap.ExtBut it s.heap h' → Q none { s with heap := h' }) : wpAny (model prog w) A (pyNext (.ref it)) Q E s := by
  obtain ⟨o, ho, hc, hd⟩ := id hit
  obtain ⟨ol, hol, _, nl, hdl⟩ := hl
  unfold pyNext
  refine wpAny_bind (wpAny_attempt (wpAny_callSpecial?_slot (name := Str.ofString "__next__") hit.typeIs slot_listiter_next (wpAny_call_entry slot_listiter_next hit.typeIs entry_listiter_next ?_ (args_listiter_next _))))
  refine (show wpAny _ _ (field (.ref it) 0 >>= _) _ _ s from wpAny_bind (wpAny_field ho hd (x := .ref l) rfl ?_))
  refine (show wpAny _ _ (if (Value.ref l == Value.none) = true then _ else _) _ _ s from ?_)
  rw [if_neg (by simp : ¬ ((Value.ref l == Value.none) = true))]
  refine (show wpAny _ _ (field (.ref it) 1 >>= _) _ _ s from wpAny_bind (wpAny_field ho hd (x := .int i 0) rfl ?_))
  refine (show wpAny _ _ (seqItems? (.ref l) >>= _) _ _ s from wpAny_bind (wpAny_seqItems hol hdl ?_))
  simp only [Int.toNat_natCast, hn]
  refine wpAny_bind (wpAny_rule (wpAny_bind (wpAny_setField ho hd (by simp) ?_)))
  refine (show wpAny _ _ (newExc (.type "StopIteration") [] >>= _) _ _ _ from wpAny_bind ?_)
  simp only [newExc, newTuple]
  refine wpAny_bind (wpAny_newObj_type ?_ (by size_fits))
  refine wpAny_bind (m := firstArgMember _ _) (wpAny_of_eq (a := Value.none) (by first | rfl | (simp only [firstArgMember]; rfl)) ?_)
  refine wpAny_newObj_type ?_ (by size_fits)
  generalize hg : s.heap.update it (Obj.mapFields (·.setIfInBounds 0 Value.none)) = h1
  have x1 : Heap.ExtBut it s.heap h1 := by subst hg; exact (Heap.SameBut.update ..).extBut
  generalize hg2 : h1.push { cls := .type "tuple", dict := none, data := .seq [].toArray } = h2
  have x2 : Heap.ExtBut it s.heap h2 := by subst hg2; exact x1.push _
  have x3 := x2.push { cls := .type "StopIteration", dict := none, data := .fields (#[.ref h1.objs.size, .none, .none, .none, .bool false, .none] ++ ownMembersOf (.type "StopIteration") []) }
  obtain ⟨ox, vx, a, b, c, d, dn⟩ := hx
  have lx : x < h2.objs.size := Heap.lt_size (x2 x ox hxi a)
  refine raiseH (A := A.in1) (x := x) (C := C) (e := h2.objs.size) hh ⟨ox, vx, x3 x ox hxi a, b, c, d, dn⟩ (Heap.get?_push_size _ rfl) rfl (by simp [ownMembersOf]) (Nat.ne_of_lt lx) ?_
  refine wpAny_bind (wpAny_isInstance (T := "StopIteration") (b := true) ⟨_, Heap.get?_update_self _ (Heap.get?_push_size _ rfl) rfl, rfl⟩ isSubtype_stop ?_)
  refine wpAny_pure (hQ _ fun q oq nq eq => ?_)
  rw [Heap.get?_update_other _ _ (Nat.ne_of_gt (Heap.lt_size (x2 q oq nq eq)))]
  exact x3 q oq nq eq
theorem walksH {x C : Addr} (hh : A.handled = some (.ref x)) (I ax : Addr) (hne : ax ≠ I) (hx : x ≠ I) (items : Array Value) :
    Walks prog w A I [I, ax, x] [I] items.size (fun i v => items[i]? = some v) (fun i h => (h.IsListIter I ax i ∧ h.IsList ax items) ∧ XAt x C h) where
  sub := fun b hb => by simp at hb; simp [hb]
  frame := fun _ _ _ st hk => ⟨⟨st.1.1.at fun o e => hk I (by simp) o e, st.1.2.at fun o e => hk ax (by simp) o e⟩, by
    obtain ⟨o, vs, a, r⟩ := st.2
    exact ⟨o, vs, hk x (by simp) o a, r⟩⟩
  item := fun i s Q E hi st hQ => by
    refine wpAny_pyNext_list_item st.1.1 st.1.2 (x := items[i]) (by simp [hi]) fun h' t1 t2 => hQ _ h' s.toks (by simp [hi]) ⟨⟨t1, st.1.2.extBut t2.extBut hne⟩, ?_⟩ fun b o hb e => t2.extBut b o (fun h => hb (by simp [h])) e
    obtain ⟨o, vs, a, r⟩ := st.2
    exact ⟨o, vs, t2.extBut x o hx a, r⟩
  done := fun s Q E st hQ => nextEndH hh st.2 hx st.1.1 st.1.2 (by simp) fun h' t => hQ h' s.toks fun b o hb e => t b o (fun h => hb (by simp [h])) e
  self := fun _ _ _ _ st hQ => wpAny_pyIter_listiter st.1.1 hQ
end
section
variable {X : Cx}
theorem call_anyX {x : Addr} (hh : X.A.handled = some (.ref x)) : CallR X (.builtin "any") (fun xs H Q => ∃ (p : Addr) (bs : List Bool) (C : Addr), xs = [.ref p] ∧ SqL X.K H p (bs.map V.bl) ∧ H x = some (ExcO x (.ref C)) ∧ Q (.bl (bs.any id)) H) := by
  intro pins s σ H xs us Q I r h
  obtain ⟨p, bs, C, rfl, hq, hx, q⟩ := h
  obtain ⟨u, rfl, ru⟩ := vals_one r
  cases ru
  obtain ⟨its, rv, pl, hz⟩ := I.list hq
  have e := rel_bools rv
  subst e
  have hO : XAt x C s.heap := (I.hok x _ hx).1
  have a1 : p < s.heap.objs.size := by obtain ⟨_, e, _⟩ := pl.isList; exact Heap.lt_size e
  have a2 : x < s.heap.objs.size := by obtain ⟨_, _, e, _⟩ := hO; exact Heap.lt_size e
  refine call_any_walk (wpAny_pyIter_list pl.isList ⟨_, _, _, _, _, _, fun i => (bs[i]?).getD false, rfl, walksH (C := C) (A := X.A.in1) hh _ p (Nat.ne_of_lt a1) (Nat.ne_of_lt a2) _, ⟨⟨⟨_, Heap.get?_push_size _ rfl, rfl, rfl⟩, Heap.IsList.push pl.isList _⟩, ?_⟩, fun i v s' Q' E' hv hQ => ?_, fun h' tk hk => ?_⟩)
  · obtain ⟨o, vs, a, r⟩ := hO
    exact ⟨o, vs, Heap.get?_push_of_some _ a, r⟩
  · have hv' : (bs.map Value.bool)[i]? = some v := by simpa using hv
    have hQ : Q' ((bs[i]?).getD false) s' := hQ
    rw [List.getElem?_map] at hv'
    cases eb : bs[i]? with
    | none => rw [eb] at hv'; cases hv'
    | some b =>
      rw [eb] at hv' hQ
      cases hv'
      exact wpAny_truthy_bool hQ
  · have ea : (List.range (bs.map Value.bool).toArray.size).any (fun i => (bs[i]?).getD false) = bs.any id := by
      rw [← any_range bs]; simp
    rw [ea]
    refine ⟨.bl _, H, I.kept (h' := h') (t' := tk) (fun b o eb => hk b o ?_ (Heap.get?_push_of_some _ eb)), rfl, q⟩
    intro hm
    have : b = s.heap.objs.size := by simpa using hm
    rw [this] at eb
    exact absurd (Heap.lt_size eb) (Nat.lt_irrefl _)
end
end Cv

namespace Cv
open PySem PySem.Spec PyProof.Rows L2
/-! ### promises of what is refused -/
theorem st4 {l : L2.St} (h : l.length = 4) : ∃ a b c d, l = [a, b, c, d] := by
  match l, h with
  | [a, b, c, d], _ => exact ⟨a, b, c, d, rfl⟩
/-! ### is, is not of two truths -/
section
variable {X : Cx}
theorem op_is_bl : OpR X (compareOp .Is) (fun x y H Q => ∃ a b, x = .bl a ∧ y = .bl b ∧ Q (.bl (a == b)) H) := by
  intro pins s σ H x y v u Q I rx ry h
  obtain ⟨a, b, rfl, rfl, q⟩ := h
  cases rx
  cases ry
  refine wpAny_pure (a := Value.bool (Value.bool a == Value.bool b)) ?_
  exact ⟨_, H, I, (by cases a <;> cases b <;> rfl), q⟩
end
end Cv
namespace Cv
open PySem PySem.Spec PyProof.Rows L2
/-! ### what goes on is read once -/
theorem ifF_elim {A B : Prop} (h : if false = true then A else B) : B := by rw [if_neg Bool.false_ne_true] at h; exact h
end Cv

namespace Cv
open PySem PySem.Spec PyProof.Rows L2
section
set_option autoImplicit true
@[irreducible] noncomputable def PEi (X : Cx) (e : Expr) (t : TE) : Prop := PE X e t
@[irreducible] noncomputable def PAi (X : Cx) (e : List Expr) (t : TA) : Prop := PA X e t
@[irreducible] noncomputable def PTi (X : Cx) (e : Expr) (t : TT) : Prop := PT X e t
@[irreducible] noncomputable def PWi (X : Cx) (e : Expr) (t : TT) : Prop := PW X e t
@[irreducible] noncomputable def PSi (X : Cx) (e : Stmt) (t : TS) : Prop := PS X e t
@[irreducible] noncomputable def PSsi (X : Cx) (e : List Stmt) (t : TS) : Prop := PSs X e t
@[irreducible] noncomputable def PGi (X : Cx) (e : Expr) (t : TG) : Prop := PG X e t
@[irreducible] noncomputable def PGsi (X : Cx) (e : List Expr) (t : TGs) : Prop := PGs X e t
@[irreducible] noncomputable def PIi (X : Cx) (tg e : Expr) (t : TI) : Prop := PI X tg e t
@[irreducible] noncomputable def POi (X : Cx) (e : Option Expr) (t : TO) : Prop := PO X e t
theorem pvI  (i : Nat) {x : Str} {pos : Pos} (hN : X.N[i]? = some x := by rfl) (hv : Vis X.env.scope x := by first | exact Or.inl rfl | exact Or.inr (Or.inl rfl) | exact Or.inr (Or.inr rfl)) (hd : (x == ("__debug__" : Str)) = false := by decide) (hcd : (x == ("__classdict__" : Str)) = false := by decide) : PEi X (.Name x pos) (tVar i) := by with_unfolding_all exact pv (i := i) (hN := hN) (hv := hv) (hd := hd) (hcd := hcd)
theorem pe_intI  {i j pos} : PEi X (.Constant (.int i) j pos) (tC (.int i)) := by with_unfolding_all exact pe_int 
theorem pe_blI  {b j pos} : PEi X (.Constant (.bool b) j pos) (tC (.bl b)) := by with_unfolding_all exact pe_bl 
theorem pe_nonI  {j pos} : PEi X (.Constant .none j pos) (tC .non) := by with_unfolding_all exact pe_non 
theorem pe_strI  {x j pos} : PEi X (.Constant (.str x) j pos) (tC (.str x)) := by with_unfolding_all exact pe_str 
theorem pe_globI  {x : Str} {v : V} {u : Value} {pos : Pos} (hg : Gl X x) (hm : X.mg x = some u) (r : RelV v u) (hd : (x == ("__debug__" : Str)) = false := by decide) : PEi X (.Name x pos) (tC v) := by with_unfolding_all exact pe_glob (hg := hg) (hm := hm) (r := r) (hd := hd)
theorem pe_bltnI  {x : Str} {v : V} {u : Value} {pos : Pos} (hg : Gl X x) (hm : X.mg x = none) (hv : bootBuiltins x = some u) (r : RelV v u) (hn : x ≠ "__name__" := by decide) (hd : (x == ("__debug__" : Str)) = false := by decide) : PEi X (.Name x pos) (tC v) := by with_unfolding_all exact pe_bltn (hg := hg) (hm := hm) (hv := hv) (r := r) (hn := hn) (hd := hd)
theorem pe_opI  {op : Operator} {r : R2} (ho : OpR X (binaryOp op) r) (ha : PEi X a ta) (hb : PEi X b tb) : PEi X (.BinOp a op b pos) (tOp r ta tb) := by with_unfolding_all exact pe_op (ho := ho) (ha := ha) (hb := hb)
theorem pe_unI  {op : UnaryOp} {r : V → Hp → VK → Prop} (ho : UnR X (unaryOp op) r) (ha : PEi X a ta) : PEi X (.UnaryOp op a pos) (tUn r ta) := by with_unfolding_all exact pe_un (ho := ho) (ha := ha)
theorem pe_cmpRI  {op : CmpOp} {r : R2} (ho : OpR X (compareOp op) r) (ha : PEi X a ta) (hb : PEi X b tb) (hm : behindInMarks op b = false) : PEi X (.Compare a [op] [b] pos) (tOp r ta tb) := by with_unfolding_all exact pe_cmpR (ho := ho) (ha := ha) (hb := hb) (hm := hm)
theorem pe_andI {rest : List Expr} (ha : PEi X a ta) (hb : PEi X (.BoolOp .And (b :: rest) pos) tb) : PEi X (.BoolOp .And (a :: b :: rest) pos) (tAndV ta tb) := by with_unfolding_all exact pe_and (ha := ha) (hb := hb)
theorem pe_oneI  {op} {t : TE} (h : PEi X a t) : PEi X (.BoolOp op [a] pos) t := by with_unfolding_all exact pe_one (h := h)
theorem pe_notI  (ha : PEi X a ta) : PEi X (.UnaryOp .Not a pos) (tNotV ta) := by with_unfolding_all exact pe_not (ha := ha)
theorem pe_fnI  (D : DefOk X.prog X.w X.K X.mg X.base CX k x ps sp) (hr : Room j X.A) (hx : Passes CX X E) (ha : PAi X (e :: es) t) (hk : k ≤ j := by decide) (hg : Gl X x := by rfl) (hdb : (x == ("__debug__" : Str)) = false := by decide) (he : starEach (e :: es) X.env = (false, eval e X.env) :: starEach es X.env := by rfl) (hpl : (backTo pos (starEach es X.env)).any (·.1) = false := by rfl) : PEi X (.Call (.Name x p) (e :: es) [] pos) (tFn sp E t) := by with_unfolding_all exact pe_fn (D := D) (hr := hr) (hx := hx) (ha := ha) (hk := hk) (hg := hg) (hdb := hdb) (he := he) (hpl := hpl)
theorem pe_callBI {id : String} (hc : CallR X (.builtin id) r) (hg : Gl X x) (hm : X.mg x = none) (hv : bootBuiltins x = some (.builtin id)) (ha : PAi X (e :: es) t) (hn : x ≠ "__name__" := by decide) (hdb : (x == ("__debug__" : Str)) = false := by decide) (he : starEach (e :: es) X.env = (false, eval e X.env) :: starEach es X.env := by rfl) (hpl : (backTo pos (starEach es X.env)).any (·.1) = false := by rfl) : PEi X (.Call (.Name x p) (e :: es) [] pos) (tCB r t) := by with_unfolding_all exact pe_callB (hc := hc) (hg := hg) (hm := hm) (hv := hv) (ha := ha) (hn := hn) (hdb := hdb) (he := he) (hpl := hpl)
theorem pe_callTyI  (hc : CallR X (.type T) r) (hg : Gl X x) (hm : X.mg x = none) (hv : bootBuiltins x = some (.type T)) (ha : PAi X (e :: es) t) (hn : x ≠ "__name__" := by decide) (hdb : (x == ("__debug__" : Str)) = false := by decide) (he : starEach (e :: es) X.env = (false, eval e X.env) :: starEach es X.env := by rfl) (hpl : (backTo pos (starEach es X.env)).any (·.1) = false := by rfl) : PEi X (.Call (.Name x p) (e :: es) [] pos) (tCB r t) := by with_unfolding_all exact pe_callTy (hc := hc) (hg := hg) (hm := hm) (hv := hv) (ha := ha) (hn := hn) (hdb := hdb) (he := he) (hpl := hpl)
theorem pe_bmI {id : String} (pa : PlainAttrs T) (slot : Slot T name id) (hty : typeOf (.builtin id) = pure (.type "method_descriptor")) (hm : MtR X id r) (ho : PEi X o to) (ha : PAi X (e :: es) t) (hbase : attributeBase o name X.env (eval o X.env) = eval o X.env := by rfl) (hfew : ((backTo cpos (starEach (e :: es) X.env)).all (fun x => !x.1) && (backToKw cpos (keywordEach [] X.env)).all (fun x => x.1.isSome)
      && decide ((e :: es).length + ([] : List Keyword).length + (if ([] : List Keyword).isEmpty then 0 else 1) < 30)) = true := by rfl) (hline : (apos.endLine == cpos.line) = true := by rfl) (hs : starEach (e :: es) X.env = (false, eval e X.env) :: starEach es X.env := by rfl) (hplain : (backTo cpos (starEach es X.env)).any (·.1) = false := by rfl) : PEi X (.Call (.Attribute o name apos) (e :: es) [] cpos) (tBM X.K T r to t) := by with_unfolding_all exact pe_bm (pa := pa) (slot := slot) (hty := hty) (hm := hm) (ho := ho) (ha := ha) (hbase := hbase) (hfew := hfew) (hline := hline) (hs := hs) (hplain := hplain)
theorem pe_ixI  {r : R2} (hr : IxR X r) (ha : PEi X a ta) (hb : PEi X b tb) (hs : PlainIx b) : PEi X (.Subscript a b pos) (tOp r ta tb) := by with_unfolding_all exact pe_ix (hr := hr) (ha := ha) (hb := hb) (hs := hs)
theorem pe_sliceI {lo hi : Option Expr} {r : V → Option Int → Option Int → Hp → VK → Prop} (hr : SlR X r) (he : PEi X e te) (hl : POi X lo tl) (hu : POi X hi th) : PEi X (.Subscript e (.Slice lo hi none p2) pos) (tSl r te tl th) := by with_unfolding_all exact pe_slice (hr := hr) (he := he) (hl := hl) (hu := hu)
theorem pe_tupI  {x1} (h : PAi X es t) : PEi X (.Tuple es x1 pos) (tTup t) := by with_unfolding_all exact pe_tup (h := h)
theorem pe_lstI  (h : PAi X es t) : PEi X (.List es pos) (tLst t) := by with_unfolding_all exact pe_lst (h := h)
theorem pe_compSI  {tg elt iter : Expr} {os : List Str} {pos : Pos} {scope : Scope} {wi : TI} {g : TG} {te : TE} {caps : List (Nat × Str)} (N : List Str) (sc : Scope) (hi : PIi X tg iter wi) (hg : ∀ cl C s0 H0 fp, PGi (cxComp X scope cl (os ++ caps.map (·.2)) C s0 H0 fp) tg g) (he : ∀ cl C s0 H0 fp, PEi (cxComp X scope cl (os ++ caps.map (·.2)) C s0 H0 fp) elt te) (ok : compOk N sc scope caps = true) (hN : X.N = N := by rfl) (hsc : X.env.scope = sc := by rfl) (hc : X.calm = true := by rfl) (hfs : ∀ v, foldedSetIterable iter X.env v = pure v := by intro _; rfl) : PEi X (.ListComp elt [⟨tg, iter, [], 0⟩] scope pos) (tCompG os.length wi g te (caps.map (·.1))) := by with_unfolding_all exact pe_compS (N := N) (sc := sc) (hi := hi) (hg := hg) (he := he) (ok := ok) (hN := hN) (hsc := hsc) (hc := hc) (hfs := hfs)
theorem pa_nilI   : PAi X [] tNil := by with_unfolding_all exact pa_nil 
theorem pa_consI  (ha : PEi X e te) (hr : PAi X es t) (hs : starEach (e :: es) X.env = (false, eval e X.env) :: starEach es X.env := by rfl) : PAi X (e :: es) (tCons te t) := by with_unfolding_all exact pa_cons (ha := ha) (hr := hr) (hs := hs)
theorem pt_cmpRI  {op : CmpOp} {r : R2} (ho : OpR X (compareOp op) r) (ha : PEi X a ta) (hb : PEi X b tb) (hm : behindInMarks op b = false) : PTi X (.Compare a [op] [b] pos) (tTest (tOp r ta tb)) := by with_unfolding_all exact pt_cmpR (ho := ho) (ha := ha) (hb := hb) (hm := hm)
theorem pt_notI  (ha : PTi X a tA) : PTi X (.UnaryOp .Not a pos) (tNot tA) := by with_unfolding_all exact pt_not (ha := ha)
theorem pt_valI  {e : Expr} {t : TE} (h : PEi X e t) (he : ∀ whole, isTrue e X.env whole = (do let v ← whole; standAt e.pos; holding [v] (truthy v)) := by intro _; rfl) : PTi X e (tB t) := by with_unfolding_all exact pt_val (h := h) (he := he)
theorem PW_ptI  {X : Cx} {e : Expr} {t : TT} (h : PWi X e t) : PTi X e t := by with_unfolding_all exact L2.PW.pt (h := h)
theorem pw_and1I  (ha : PTi X a tA) : PWi X (.BoolOp .And [a] pos) tA := by with_unfolding_all exact pw_and1 (ha := ha)
theorem pw_or1I  (ha : PTi X a tA) : PWi X (.BoolOp .Or [a] pos) tA := by with_unfolding_all exact pw_or1 (ha := ha)
theorem pw_andI {rest : List Expr} (ha : PTi X a tA) (hb : PWi X (.BoolOp .And (b :: rest) pos) tB') : PWi X (.BoolOp .And (a :: b :: rest) pos) (tAnd tA tB') := by with_unfolding_all exact pw_and (ha := ha) (hb := hb)
theorem pw_orI {rest : List Expr} (ha : PTi X a tA) (hb : PWi X (.BoolOp .Or (b :: rest) pos) tB') : PWi X (.BoolOp .Or (a :: b :: rest) pos) (tOr tA tB') := by with_unfolding_all exact pw_or (ha := ha) (hb := hb)
theorem pss_nilI   : PSsi X [] tNext := by with_unfolding_all exact pss_nil 
theorem pss_consI {st : Stmt} {rest : List Stmt} (h1 : PSi X st t) (h2 : PSsi X rest u) : PSsi X (st :: rest) (tSeq t u) := by with_unfolding_all exact pss_cons (h1 := h1) (h2 := h2)
theorem pss_oneI {st : Stmt} (h1 : PSi X st t) : PSsi X [st] t := by with_unfolding_all exact pss_one (h1 := h1)
theorem ps_exprI  (he : PEi X e te) (hs : swapsWith e none pos.line X.env = pure false := by rfl) : PSi X (.Expr e pos) (tDrop te) := by with_unfolding_all exact ps_expr (he := he) (hs := hs)
theorem ps_retI  (he : PEi X e te) : PSi X (.Return (some e) pos) (tRet te) := by with_unfolding_all exact ps_ret (he := he)
theorem ps_ifI  {c : Expr} {a b : List Stmt} {tc : TT} (hc : PTi X c tc) (ha : PSsi X a t) (hb : PSsi X b u) : PSi X (.If c a b pos) (tIfS tc t u) := by with_unfolding_all exact ps_if (hc := hc) (ha := ha) (hb := hb)
theorem ps_asgI  {tg e : Expr} {te : TE} {g : TG} (he : PEi X e te) (hg : PGi X tg g) (hs : swapsWithSole [tg] e pos.line X.env = pure false := by rfl) (hw : swappedStores [tg] e X.env = pure none := by rfl) (h1 : (assignEach [tg] X.env).map (·.2) = [assign tg X.env] := by rfl) : PSi X (.Assign [tg] e pos) (tAsg te g) := by with_unfolding_all exact ps_asg (he := he) (hg := hg) (hs := hs) (hw := hw) (h1 := h1)
theorem ps_setI  {i : Nat} {x : Str} {e : Expr} {te : TE} {pos' : Pos} (hN : X.N.Nodup) (hi : X.N[i]? = some x) (hx : Loc X.env.scope x) (he : PEi X e te) (hs : swapsWith e (some (.Name x pos')) pos.line X.env = pure false := by rfl) (hf : X.fn x = true ∨ X.env.scope.names.lookup x = some .local := by first | exact .inl rfl | exact .inr rfl | assumption) : PSi X (.Assign [.Name x pos'] e pos) (tAsg te (gName i)) := by with_unfolding_all exact ps_set (hN := hN) (hi := hi) (hx := hx) (he := he) (hs := hs) (hf := hf)
theorem ps_parI  {i j : Nat} {x y : Str} {a b : Expr} {ta : TA} {px py pt : Pos} {kt k2 pt2} (hc : X.calm = true) (hN : X.N.Nodup) (hi : X.N[i]? = some x) (hj : X.N[j]? = some y) (hij : i ≠ j) (hx : X.env.scope.names.lookup x = some .local) (hy : X.env.scope.names.lookup y = some .local) (ha : PAi X [a, b] ta) (hw : swappedStores [.Tuple [.Name x px, .Name y py] kt pt] (.Tuple [a, b] k2 pt2) X.env = pure (some [x, y])) (hs : swapsWithSole [.Tuple [.Name x px, .Name y py] kt pt] (.Tuple [a, b] k2 pt2) pos.line X.env = pure false := by rfl) : PSi X (.Assign [.Tuple [.Name x px, .Name y py] kt pt] (.Tuple [a, b] k2 pt2) pos) (tPar i j ta) := by with_unfolding_all exact ps_par (hc := hc) (hN := hN) (hi := hi) (hj := hj) (hij := hij) (hx := hx) (hy := hy) (ha := ha) (hw := hw) (hs := hs)
theorem ps_whileI  {c : Expr} {body : List Stmt} {tc : TT} {tb : TS} (hp : PassesOwn (model X.prog X.w) X.A X.env X.xe) (hc : PTi X c tc) (hb : PSsi X body tb) : PSi X (.While c body [] pos) (tWhile tc tb) := by with_unfolding_all exact ps_while (hp := hp) (hc := hc) (hb := hb)
theorem ps_forI  {iter : Expr} {body : List Stmt} {wi : TI} {g : TG} {tb : TS} {pos : Pos} (hp : PassesOwn (model X.prog X.w) X.A X.env X.xe) (hc : X.calm = true) (hi : PIi X tg iter wi) (hg : PGi X tg g) (hb : PSsi X body tb) (hs : ∀ x, foldedSetIterable iter X.env x = pure x := by intro _; rfl) : PSi X (.For tg iter body [] pos) (tFor wi g tb) := by with_unfolding_all exact ps_for (hp := hp) (hc := hc) (hi := hi) (hg := hg) (hb := hb) (hs := hs)
theorem ps_compSI  {tg elt iter : Expr} {os : List Str} {i : Nat} {y : Str} {py pos spos : Pos} {scope : Scope} {wi : TI} {g : TG} {te : TE} {caps : List (Nat × Str)} (N : List Str) (sc : Scope) (hNd : X.N.Nodup) (hy : X.N[i]? = some y) (hl : X.env.kindOf y = some .local) (hi : PIi X tg iter wi) (hg : ∀ cl C s0 H0 fp, PGi (cxComp X scope cl (os ++ caps.map (·.2)) C s0 H0 fp) tg g) (he : ∀ cl C s0 H0 fp, PEi (cxComp X scope cl (os ++ caps.map (·.2)) C s0 H0 fp) elt te) (ok : compOk N sc scope caps = true) (hN : X.N = N := by rfl) (hsc : X.env.scope = sc := by rfl) (hc : X.calm = true := by rfl) (hfs : ∀ v, foldedSetIterable iter X.env v = pure v := by intro _; rfl) (hsw : swapsWith (.ListComp elt [⟨tg, iter, [], 0⟩] scope pos) (some (.Name y py)) spos.line X.env = pure true := by rfl) : PSi X (.Assign [.Name y py] (.ListComp elt [⟨tg, iter, [], 0⟩] scope pos) spos) (tAsg (tCompG os.length wi g te (caps.map (·.1))) (gName i)) := by with_unfolding_all exact ps_compS (N := N) (sc := sc) (hNd := hNd) (hy := hy) (hl := hl) (hi := hi) (hg := hg) (he := he) (ok := ok) (hN := hN) (hsc := hsc) (hc := hc) (hfs := hfs) (hsw := hsw)
theorem ps_raiseI  (th : Throws X E) (c : XCls X.K X.mg x C) (ha : PAi X [e₀] ta) (hc : X.calm = true := by rfl) (hg : Gl X x := by rfl) (he : starEach [e₀] X.env = [(false, eval e₀ X.env)] := by rfl) (hd : (x == ("__debug__" : Str)) = false := by decide) : PSi X (.Raise (some (.Call (.Name x np) [e₀] [] cpos)) none pos) (tRaise E C ta) := by with_unfolding_all exact ps_raise (th := th) (c := c) (ha := ha) (hc := hc) (hg := hg) (he := he) (hd := hd)
theorem ps_try1I  {n : Nat} {nm c : Str} {SC : Addr} {body : List Stmt} {b0 : Stmt} {suite : List Stmt} {np hpos pos : Pos} {tb : XK → TS} {ts : Addr → TS} (cb : X.mg c = some (.ref SC)) (hN : X.N.Nodup) (hb : ∀ xe pn Ex, Passes (CXx X.prog X.w) (tryX X xe pn) Ex → PSsi (tryX X xe pn) body (tb Ex)) (hs : ∀ x, PSsi (suiteX X x) (b0 :: suite) (ts x)) (hi : X.N[n]? = some nm := by rfl) (hx : X.env.scope.names.lookup nm = some .local := by rfl) (hg : Gl X c := by rfl) (hst : X.stack = X.env :: X.outer := by rfl) (hfr : X.env.frame = some X.env.locals := by rfl) (hd : (c == ("__debug__" : Str)) = false := by decide) : PSi X (.Try body [.ExceptHandler (some (.Name c np)) (some nm) (b0 :: suite) hpos] [] [] pos) (tTry X.K n SC tb ts) := by with_unfolding_all exact ps_try1 (cb := cb) (hN := hN) (hb := hb) (hs := hs) (hi := hi) (hx := hx) (hg := hg) (hst := hst) (hfr := hfr) (hd := hd)
theorem pg_nameI  {i : Nat} {x : Str} (hN : X.N.Nodup) (hi : X.N[i]? = some x) (hx : Loc X.env.scope x) (hf : X.fn x = true ∨ X.env.scope.names.lookup x = some .local := by first | exact .inl rfl | exact .inr rfl | assumption) : PGi X (.Name x pos) (gName i) := by with_unfolding_all exact pg_name (hN := hN) (hi := hi) (hx := hx) (hf := hf)
theorem pgs_nilI   : PGsi X [] gNil := by with_unfolding_all exact pgs_nil 
theorem pgs_consI  {e : Expr} {es : List Expr} {t : TG} {u : TGs} (h1 : PGi X e t) (h2 : PGsi X es u) (hs : (assignEach (e :: es) X.env).map (·.2) = assign e X.env :: (assignEach es X.env).map (·.2) := by rfl) : PGsi X (e :: es) (gCons t u) := by with_unfolding_all exact pgs_cons (h1 := h1) (h2 := h2) (hs := hs)
theorem pg_tupKI  (K : PySem.W.Frag) {es : List Expr} {k : Nat} {t : TGs} {n : Nat} {pos : Pos} (hc : X.calm = true) (h : PGsi X es t) (hK : X.K = K := by rfl) (hn : (assignEach es X.env).length = n := by rfl) (hst : (assignEach es X.env).findIdx? (·.1) = none := by rfl) : PGi X (.Tuple es k pos) (gTup K n t) := by with_unfolding_all exact pg_tupK (K := K) (hc := hc) (h := h) (hK := hK) (hn := hn) (hst := hst)
theorem pg_subI  {o i : Expr} {to ti : TE} {t : TSet} (ho : PEi X o to) (hi : PEi X i ti) (hs : PSet X t) (ha : ∀ v, assign (.Subscript o i pos) X.env v = (do
      let ov ← holding [v] (eval o X.env)
      let iv ← holding [v, ov] (eval i X.env)
      standAt pos
      holding [v, ov, iv] (setItem ov iv v)
      release [v, ov, iv] []) := by intro _; rfl) : PGi X (.Subscript o i pos) (gSub to ti t) := by with_unfolding_all exact pg_sub (ho := ho) (hi := hi) (hs := hs) (ha := ha)
theorem pi_listI  {l : Expr} {tl : TE} (hl : PEi X l tl) : PIi X tg l (iList X.K tl) := by with_unfolding_all exact pi_list (hl := hl)
theorem pi_tupI  {l : Expr} {tl : TE} (hl : PEi X l tl) : PIi X tg l (iTup X.K tl) := by with_unfolding_all exact pi_tup (hl := hl)
theorem pi_range1I  {a : Expr} {ta : TA} {p pos : Pos} (hg : Gl X "range") (hm : X.mg "range" = none) (ha : PAi X [a] ta) (hs : starEach [a] X.env = [(false, eval a X.env)] := by rfl) : PIi X tg (.Call (.Name "range" p) [a] [] pos) (iRng1 ta) := by with_unfolding_all exact pi_range1 (hg := hg) (hm := hm) (ha := ha) (hs := hs)
theorem pi_range2I  {a b : Expr} {ta : TA} {p pos : Pos} (hg : Gl X "range") (hm : X.mg "range" = none) (ha : PAi X [a, b] ta) (hs : starEach [a, b] X.env = [(false, eval a X.env), (false, eval b X.env)] := by rfl) (hs2 : starEach [b] X.env = [(false, eval b X.env)] := by rfl) : PIi X tg (.Call (.Name "range" p) [a, b] [] pos) (iRng2 ta) := by with_unfolding_all exact pi_range2 (hg := hg) (hm := hm) (ha := ha) (hs := hs) (hs2 := hs2)
theorem pi_zipI  {a b : Expr} {ta : TA} {p pos ppos : Pos} {elts : List Expr} {k0 : Nat} (hg : Gl X "zip") (hm : X.mg "zip" = none) (ha : PAi X [a, b] ta) (he : starEach [a, b] X.env = (false, eval a X.env) :: starEach [b] X.env := by rfl) (hpl : (backTo pos (starEach [b] X.env)).any (·.1) = false := by rfl) : PIi X (.Tuple elts k0 ppos) (.Call (.Name "zip" p) [a, b] [] pos) (iZip X.K ta) := by with_unfolding_all exact pi_zip (hg := hg) (hm := hm) (ha := ha) (he := he) (hpl := hpl)
theorem pi_revI  {a : Expr} {ta : TA} {p pos : Pos} (hg : Gl X "reversed") (hm : X.mg "reversed" = none) (ha : PAi X [a] ta) (he : starEach [a] X.env = (false, eval a X.env) :: starEach [] X.env := by rfl) (hpl : (backTo pos (starEach [] X.env)).any (·.1) = false := by rfl) : PIi X tg (.Call (.Name "reversed" p) [a] [] pos) (iRev X.K ta) := by with_unfolding_all exact pi_rev (hg := hg) (hm := hm) (ha := ha) (he := he) (hpl := hpl)
theorem po_noneI   : POi X none tNoPart := by with_unfolding_all exact po_none 
theorem po_someI  (h : PEi X e te) : POi X (some e) (tPart te) := by with_unfolding_all exact po_some (h := h)
theorem def_okI {P : Program} {w : World} {K : PySem.W.Frag} {mg : Str → Option Value} {base : Heap} {x : Str} {st : Stmt} {N ps : List Str} {k : Nat} {sp : Sp} (F : FunAt K mg x st ps) (S : FnScope N ps (defScope st)) (len : ∀ vs H Q E, sp vs H Q E → vs.length = ps.length) (hbody : ∀ (f : Addr) (cdv : Value) (A : Around) (outer : List Env) (s : Shared) (H : Hp) (vs : List V) (Q : VK) (E : XK), Room k (A.deeper (envOfC x (defScope st) s.heap.objs.size f cdv)) → sp vs H Q E →
      ∃ t, PSsi (cxOf CX0 P w K mg base N x (defScope st) f cdv A outer s H E).nox (defBody st) t ∧ t { nx := fun _ H' => Q .non H', rt := Q } (start N vs) H) : DefOk P w K mg base CX0 (k + 1) x ps sp := by with_unfolding_all exact def_ok (F := F) (S := S) (len := len) (hbody := hbody)
theorem def_okXI {P : Program} {w : World} {K : PySem.W.Frag} {mg : Str → Option Value} {base : Heap} {x : Str} {st : Stmt} {N ps : List Str} {k : Nat} {sp : Sp} (F : FunAt K mg x st ps) (S : FnScope N ps (defScope st)) (len : ∀ vs H Q E, sp vs H Q E → vs.length = ps.length) (hbody : ∀ (f : Addr) (cdv : Value) (A : Around) (outer : List Env) (s : Shared) (H : Hp) (vs : List V) (Q : VK) (E : XK), Room k (A.deeper (envOfC x (defScope st) s.heap.objs.size f cdv)) → sp vs H Q E →
      ∃ t, PSsi (cxOf (CXx P w) P w K mg base N x (defScope st) f cdv A outer s H E) (defBody st) t ∧ t { nx := fun _ H' => Q .non H', rt := Q } (start N vs) H) : DefOk P w K mg base (CXx P w) (k + 1) x ps sp := by with_unfolding_all exact def_okX (F := F) (S := S) (len := len) (hbody := hbody)
end
end Cv

namespace Cv
open PySem PySem.Spec PyProof.Rows L2
/-- a def's body read in two parts: the second one is hidden while the first one is read -/
theorem if_mergeN {c : Bool} {body : TS} {D : Ends} {σ : L2.St} {H : Hp} (S : L2.St → Hp → Prop) (h : ∀ σ' H', S σ' H' → D.nx σ' H') (h1 : ∀ N : L2.St → Hp → Prop, (∀ σ' H', S σ' H' → N σ' H') → c = true → body { D with nx := N } σ H) (h2 : c = false → S σ H) : if c = true then body D σ H else tNext D σ H := by
  cases c with
  | true => rw [if_pos rfl]; exact h1 D.nx h rfl
  | false => rw [if_neg Bool.false_ne_true]; exact h σ H (h2 rfl)
theorem and_mergeP {c : Bool} {A B : Prop} (hR : B) (h1 : B → c = true → A) : if c = true then A else B := by
  cases c with
  | true => rw [if_pos rfl]; exact h1 hR rfl
  | false => rw [if_neg Bool.false_ne_true]; exact hR
theorem uln0 {α : Type} {P : List α → Prop} (h : P []) : ∀ us : List α, us.length = 0 → P us
  | [], _ => h
theorem ulnS {α : Type} {n : Nat} {P : List α → Prop} (h : ∀ a, ∀ us : List α, us.length = n → P (a :: us)) : ∀ us : List α, us.length = n + 1 → P us
  | [], e => nomatch e
  | a :: us, e => h a us (Nat.succ.inj e)
@[elab_as_elim] theorem uln1 {α : Type} {P : List α → Prop} (h : ∀ a, P [a]) (us : List α) (hl : us.length = 1) : P us := (ulnS fun a => uln0 (h a)) us hl
@[elab_as_elim] theorem uln2 {α : Type} {P : List α → Prop} (h : ∀ a b, P [a, b]) (us : List α) (hl : us.length = 2) : P us := (ulnS fun a => ulnS fun b => uln0 (h a b)) us hl
@[elab_as_elim] theorem uln3 {α : Type} {P : List α → Prop} (h : ∀ a b c, P [a, b, c]) (us : List α) (hl : us.length = 3) : P us := (ulnS fun a => ulnS fun b => ulnS fun c => uln0 (h a b c)) us hl
@[elab_as_elim] theorem uln4 {α : Type} {P : List α → Prop} (h : ∀ a b c d, P [a, b, c, d]) (us : List α) (hl : us.length = 4) : P us := (ulnS fun a => ulnS fun b => ulnS fun c => ulnS fun d => uln0 (h a b c d)) us hl
end Cv

namespace Cv
open PySem PySem.Spec PyProof.Rows L2
/-! ### points and steps -/
noncomputable def PtV (H : Hp) (v : V) (x y : Rat) : Prop := ∃ a vx vy, v = .ref a ∧ H a = some (.tup [vx, vy]) ∧ ShV H vx x ∧ ShV H vy y
theorem PtV.same {H H' : Hp} {v : V} {x y : Rat} (h : PtV H v x y) (e : Same H H') : PtV H' v x y := by
  obtain ⟨a, vx, vy, rfl, h, h1, h2⟩ := h
  exact ⟨a, vx, vy, rfl, e _ _ h, h1.same e, h2.same e⟩
end Cv
namespace Cv
open PySem PySem.Spec PyProof.Rows L2
/-! ### pairs that are not in lowest terms, as the law reckons them -/
noncomputable def RwV (H : Hp) (v : V) (t b : Int) : Prop := ∃ a, v = .ref a ∧ H a = some (.tup [.int t, .int b])
theorem RwV.same {H H' : Hp} {v : V} {t b : Int} (h : RwV H v t b) (e : Same H H') : RwV H' v t b := by
  obtain ⟨a, rfl, h⟩ := h
  exact ⟨a, rfl, e _ _ h⟩
theorem ShV.rw {H : Hp} {v : V} {q : Rat} (h : ShV H v q) : RwV H v q.num q.den := h
end Cv

namespace Cv
open PySem PySem.Spec PyProof.Rows L2
theorem upd_keep {H : Hp} {p b : Addr} {o x : HO} (h : H p = none) (e : H b = some x) : upd H p o b = some x := by rw [upd_ne (ne_of_none e h)]; exact e
theorem Bd.zero' : Bd 1 (0 : Rat) := ⟨⟨by decide⟩, ⟨by decide⟩⟩
theorem Bd.one' : Bd 1 (1 : Rat) := ⟨⟨by decide⟩, ⟨by decide⟩⟩
theorem PtV.tup {H H' : Hp} {v : V} {x y : Rat} (h : PtV H v x y) (e : Tup H H') : PtV H' v x y := by
  obtain ⟨a, vx, vy, rfl, h, h1, h2⟩ := h
  exact ⟨a, vx, vy, rfl, e _ _ h, h1.tup e, h2.tup e⟩
theorem RwV.tup {H H' : Hp} {v : V} {x y : Int} (h : RwV H v x y) (e : Tup H H') : RwV H' v x y := by
  obtain ⟨a, rfl, h⟩ := h
  exact ⟨a, rfl, e _ _ h⟩
theorem SqL.same' {K : PySem.W.Frag} {H H' : Hp} {a : Addr} {xs : List V} (h : SqL K H a xs) (e : Same H H') : SqL K H' a xs := e.seq h
theorem SqT.same' {K : PySem.W.Frag} {H H' : Hp} {a : Addr} {xs : List V} (h : SqT K H a xs) (e : Same H H') : SqT K H' a xs := SqT.same e h
end Cv

namespace Cv
open PySem PySem.Spec PyProof.Rows L2
/-! ### pairs not in lowest terms, by what they are worth -/
noncomputable def RwQ (H : Hp) (v : V) (r : Rat) (n : Nat) : Prop := ∃ t b : Int, RwV H v t b ∧ 0 < b ∧ (t : Rat) = r * (b : Rat) ∧ Sz n t ∧ Sz n b
theorem RwQ.same {H H' : Hp} {v : V} {r : Rat} {n : Nat} (h : RwQ H v r n) (e : Same H H') : RwQ H' v r n := by
  obtain ⟨t, b, h1, h2⟩ := h
  exact ⟨t, b, h1.same e, h2⟩
theorem RwQ.tup {H H' : Hp} {v : V} {r : Rat} {n : Nat} (h : RwQ H v r n) (e : Tup H H') : RwQ H' v r n := by
  obtain ⟨t, b, h1, h2⟩ := h
  exact ⟨t, b, h1.tup e, h2⟩
theorem cast_ne {b : Int} (h : 0 < b) : (b : Rat) ≠ 0 := by
  intro z
  have : b = 0 := by exact_mod_cast z
  omega
theorem mulN {n m : Nat} {i j : Int} (h1 : Sz n i) (h2 : Sz m j) (h : n + m ≤ 100000000) : CMulA i j := mulB h1 h2 h
end Cv

namespace Cv
/-! ### curves by rows, over Rat -/
noncomputable abbrev Pt := Rat × Rat
noncomputable def btw (t a b : Rat) : Rat := a + t * (b - a)
noncomputable def btwP (t : Rat) (p q : Pt) : Pt := (btw t p.1 q.1, btw t p.2 q.2)
/-! ### sizes: tops over one bottom -/
noncomputable def Ov (D : Int) (n : Nat) (x : Rat) : Prop := ∃ m : Int, x * (D : Rat) = (m : Rat) ∧ Sz n m
theorem Ov.mono {D : Int} {n k : Nat} {x : Rat} (h : Ov D n x) (hk : n ≤ k) : Ov D k x := by
  obtain ⟨m, e, z⟩ := h
  exact ⟨m, e, z.mono hk⟩
theorem Ov.bd {D : Int} {n d : Nat} {x : Rat} (h : Ov D n x) (hD : D ≠ 0) (hd : Sz d D) : Bd (max n d) x := by
  obtain ⟨m, e, z⟩ := h
  rw [eq_divInt hD e]
  exact Bd.of z hd hD
theorem Ov.add {D E : Int} {n m d e : Nat} {x y : Rat} (hx : Ov D n x) (hy : Ov E m y) (hd : Sz d D) (he : Sz e E) : Ov (D * E) (max (n + e) (m + d) + 1) (x + y) := by
  obtain ⟨m1, e1, z1⟩ := hx
  obtain ⟨m2, e2, z2⟩ := hy
  refine ⟨m1 * E + m2 * D, ?_, ?_⟩
  · simp only [Rat.intCast_add, Rat.intCast_mul]
    rw [← e1, ← e2]; grind
  · exact ((z1.mul he).add (z2.mul hd)).mono (by omega)
theorem Ov.mul {D E : Int} {n m : Nat} {x y : Rat} (hx : Ov D n x) (hy : Ov E m y) : Ov (D * E) (n + m) (x * y) := by
  obtain ⟨m1, e1, z1⟩ := hx
  obtain ⟨m2, e2, z2⟩ := hy
  refine ⟨m1 * m2, ?_, z1.mul z2⟩
  simp only [Rat.intCast_mul]
  rw [← e1, ← e2]; grind
noncomputable def OvP (D : Int) (n : Nat) (p : Pt) : Prop := Ov D n p.1 ∧ Ov D n p.2
theorem sz_pow {a : Nat} {x : Int} (h : Sz a x) : ∀ r : Nat, Sz (r * a + 1) (x ^ r)
  | 0 => ⟨by simp⟩
  | r + 1 => by
    rw [Int.pow_succ]
    exact ((sz_pow h r).mul h).mono (by rw [Nat.succ_mul]; omega)
end Cv

namespace Cv
open PySem PySem.Spec PyProof.Rows L2
/-! ### lists of points -/
structure PtsV (H : Hp) (vs : List V) (ps : List Pt) : Prop where
  len : vs.length = ps.length
  get : ∀ (i : Nat) v p, vs[i]? = some v → ps[i]? = some p → PtV H v p.1 p.2
theorem PtsV.tup {H H' : Hp} {vs : List V} {ps : List Pt} (h : PtsV H vs ps) (t : Tup H H') : PtsV H' vs ps := ⟨h.len, fun i v p e1 e2 => (h.get i v p e1 e2).tup t⟩
theorem PtsV.same {H H' : Hp} {vs : List V} {ps : List Pt} (h : PtsV H vs ps) (t : Same H H') : PtsV H' vs ps := h.tup t.tup
theorem PtsV.nil (H : Hp) : PtsV H [] [] := ⟨rfl, fun i v p e _ => by simp at e⟩
theorem PtsV.snoc {H : Hp} {vs : List V} {ps : List Pt} {v : V} {p : Pt} (h : PtsV H vs ps) (hv : PtV H v p.1 p.2) : PtsV H (vs ++ [v]) (ps ++ [p]) := by
  refine ⟨by simp [h.len], fun i w q e1 e2 => ?_⟩
  by_cases hi : i < vs.length
  · rw [List.getElem?_append_left hi] at e1
    rw [List.getElem?_append_left (by rw [← h.len]; exact hi)] at e2
    exact h.get i w q e1 e2
  · rw [List.getElem?_append_right (by omega)] at e1
    rw [List.getElem?_append_right (by rw [← h.len]; omega), ← h.len] at e2
    cases hk : i - vs.length with
    | zero =>
      rw [hk] at e1 e2
      simp at e1 e2
      subst e1 e2
      exact hv
    | succ k => rw [hk] at e1; simp at e1
theorem PtsV.at {H : Hp} {vs : List V} {ps : List Pt} (h : PtsV H vs ps) {i : Nat} {p : Pt} (hp : ps[i]? = some p) : ∃ v, vs[i]? = some v ∧ PtV H v p.1 p.2 := by
  have hi : i < ps.length := (List.getElem?_eq_some_iff.mp hp).1
  have e : vs[i]? = some (vs[i]'(by rw [h.len]; exact hi)) := List.getElem?_eq_getElem _
  exact ⟨_, e, h.get i _ p e hp⟩
theorem PtsV.of {H : Hp} {vs : List V} {ps : List Pt} (hl : vs.length = ps.length) (h : ∀ (i : Nat) v p, vs[i]? = some v → ps[i]? = some p → PtV H v p.1 p.2) : PtsV H vs ps := ⟨hl, h⟩
noncomputable def datPt (p : Pt) : PySem.W.Dat := .tuple [datSh p.1, datSh p.2]
noncomputable def datPts (ps : List Pt) : PySem.W.Dat := .list (ps.map datPt)
theorem datPt_inj {p q : Pt} : datPt p = datPt q ↔ p = q := by
  unfold datPt
  constructor
  · intro h
    simp only [PySem.W.Dat.tuple.injEq, List.cons.injEq, and_true] at h
    exact Prod.ext (datSh_inj.mp h.1) (datSh_inj.mp h.2)
  · intro h; rw [h]
theorem datPt_ok (p : Pt) (n : Nat) : PySem.W.kqdOk (n + 2) (datPt p) = true := by
  have h1 := datSh_ok p.1 n
  have h2 := datSh_ok p.2 n
  simp [datPt, PySem.W.kqdOk, h1, h2]
theorem datPts_ok (ps : List Pt) (n : Nat) : PySem.W.kqdOk (n + 3) (datPts ps) = true := by
  have h : ∀ p : Pt, PySem.W.kqdOk (n + 2) (datPt p) = true := fun p => datPt_ok p n
  simp [datPts, PySem.W.kqdOk, h]
theorem PtV.dn {K : PySem.W.Frag} {H : Hp} {v : V} {p : Pt} (h : PtV H v p.1 p.2) : Dn K H (datPt p) v := by
  obtain ⟨a, vx, vy, rfl, h, h1, h2⟩ := h
  unfold datPt
  simp only [Dn, DnAll]
  exact ⟨a, _, rfl, SqT.of h, _, _, rfl, h1.dn, _, _, rfl, h2.dn, rfl⟩
theorem dnAll_pts {K : PySem.W.Frag} {H : Hp} : ∀ {ps : List Pt} {vs : List V}, PtsV H vs ps → DnAll K H (ps.map datPt) vs
  | [], vs, h => by
    have : vs = [] := List.length_eq_zero_iff.mp h.len
    subst this
    simp [DnAll]
  | p :: ps, vs, h => by
    cases vs with
    | nil => have := h.len; simp at this
    | cons v vs =>
      simp only [List.map_cons, DnAll]
      exact ⟨v, vs, rfl, (h.get 0 v p rfl rfl).dn, dnAll_pts ⟨by have := h.len; simpa using this, fun i w q e1 e2 => h.get (i + 1) w q (by simpa using e1) (by simpa using e2)⟩⟩
theorem PtsV.dn {K : PySem.W.Frag} {H : Hp} {a : Addr} {vs : List V} {ps : List Pt} (h : PtsV H vs ps) (hs : SqL K H a vs) : Dn K H (datPts ps) (.ref a) := by
  unfold datPts
  simp only [Dn]
  exact ⟨a, vs, rfl, hs, dnAll_pts h⟩
/-! ### promises of the law's helpers -/
noncomputable def spStreamB : Sp := fun vs H Q _ => ∃ c : Int, ∃ n : Nat, vs = [.int c, .int (n : Int)] ∧ n ≤ 1000 ∧ ∀ (l : Addr) (xs : List Int) (H' : Hp), Same H H' → H' l = some (.lst (xs.map V.int)) → xs.length = n → (∀ x ∈ xs, 0 ≤ x) → Q (.ref l) H'
noncomputable def spLBtw : Sp := fun vs H Q _ => ∃ x y z p q t, vs = [x, y, z] ∧ ShV H x p ∧ ShV H y q ∧ ShV H z t ∧ Bd 2900 p ∧ Bd 2900 q ∧ Bd 2900 t ∧ ∀ v H', Same H H' → ShV H' v (btw t p q) → Q v H'
noncomputable def spLOnWay : Sp := fun vs H Q _ => ∃ x y z p q t, vs = [x, y, z] ∧ PtV H x p.1 p.2 ∧ PtV H y q.1 q.2 ∧ ShV H z t ∧ (Bd 2900 p.1 ∧ Bd 2900 p.2) ∧ (Bd 2900 q.1 ∧ Bd 2900 q.2) ∧ Bd 2900 t ∧ ∀ v H', Same H H' → PtV H' v (btwP t p q).1 (btwP t p q).2 → Q v H'
noncomputable def spLCurve : Sp := fun vs H Q _ => ∃ c m : Int, vs = [.int c, .int m] ∧ ∀ (l : Addr) (ws : List V) (ps : List Pt) (B : Int) (H' : Hp), Same H H' → H l = none → H' l = some (.lst ws) → PtsV H' ws ps → 1 ≤ ps.length → ps.length ≤ 12 → 0 < B → Sz 31 B → (∀ p ∈ ps, OvP B 110 p) → Q (.ref l) H'
noncomputable def spLIsShare : Sp := fun vs H Q _ => ∃ x q, vs = [x] ∧ ShV H x q ∧ ∀ H', Same H H' → Q (.bl true) H'
noncomputable def spLIsCurve (K : PySem.W.Frag) : Sp := fun vs H Q _ => ∃ (a : Addr) (n : Int) (ws : List V) (ps : List Pt), vs = [.ref a, .int n] ∧ H a = some (.lst ws) ∧ PtsV H ws ps ∧ n = (ps.length : Int) ∧ ∀ H', Same H H' → Q (.bl true) H'
theorem btw_div (p q t : Rat) : btw t p q = Rat.divInt (p.num * q.den * ((t.den : Int) - t.num) + q.num * p.den * t.num) ((p.den : Int) * q.den * t.den) := by
  refine eq_divInt (Int.mul_ne_zero (den_mul_ne p q) (den_ne t)) ?_
  have h1 := num_cast p
  have h2 := num_cast q
  have h3 := num_cast t
  simp only [Rat.intCast_add, Rat.intCast_mul, Rat.intCast_sub, btw]
  rw [h1, h2, h3]
  grind
theorem den_mul_pos (a b : Rat) : 0 < (a.den : Int) * b.den := Int.mul_pos (by have := a.den_pos; omega) (by have := b.den_pos; omega)
theorem atI_last' {α : Type} (xs : List α) (v : α) (h : xs[xs.length - 1]? = some v) (hl : 1 ≤ xs.length) : atI xs (-1) = some v := by
  rcases List.eq_nil_or_concat xs with rfl | ⟨ys, y, rfl⟩
  · simp at hl
  · have : (ys ++ [y])[ys.length]? = some v := by simpa using h
    have e : y = v := by simpa using this
    subst e
    have := atI_last ys y
    simpa using this
theorem atI_nat' {α : Type} {xs : List α} {j : Nat} {i : Int} {v : α} (e : i = (j : Int)) (h : xs[j]? = some v) : atI xs i = some v := by subst e; exact atI_nat h
end Cv

namespace Cv
open PySem PySem.Spec PyProof.Rows L2
theorem cut_from {α : Type} (f : α → V) (xs : List α) (k : Nat) (h : k ≤ xs.length) : cutV (xs.map f) (some (k : Int)) none = (xs.drop k).map f := by
  unfold cutV
  have e : HT.sIx (xs.map f).length 0 (some (k : Int)) = k := by
    have := HT.sIx_nat (xs.map f).length 0 k
    rw [List.length_map] at this
    rw [List.length_map]
    exact this.trans (by omega)
  rw [e, HT.sIx_none, ← List.map_drop]
  refine List.take_of_length_le ?_
  rw [List.length_map, List.length_drop, List.length_map]
  omega
theorem cut_fromI {α : Type} (f : α → V) (xs : List α) (k : Int) (n : Nat) (e : k = (n : Int)) (h : n ≤ xs.length) : cutV (xs.map f) (some k) none = (xs.drop n).map f := by subst e; exact cut_from f xs n h
theorem low_gcd {t b x : Int} (hx : 0 ≤ x) (e : Int.gcd x 0 = Int.gcd t b) : x = (Int.gcd t b : Int) := by
  rw [Int.gcd_zero] at e
  omega
theorem ov_divInt {B m : Int} {n : Nat} (hB : B ≠ 0) (h : Sz n m) : Ov B n (Rat.divInt m B) := by
  refine ⟨m, ?_, h⟩
  rw [Rat.divInt_eq_div]
  have hb' : (B : Rat) ≠ 0 := by
    intro z
    exact hB (by exact_mod_cast z)
  grind
/-- a list of lists of points -/
theorem getD_bnd {T : List Int} {lo hi : Int} (h : ∀ x ∈ T, lo ≤ x ∧ x ≤ hi) {j : Nat} (hj : j < T.length) : lo ≤ T.getD j 0 ∧ T.getD j 0 ≤ hi := by
  rw [List.getD_eq_getElem?_getD, List.getElem?_eq_getElem hj]
  exact h _ (List.getElem_mem hj)
/-- an item of a written table of numbers, and its bounds -/
theorem tab (T : List Int) (lo hi i : Int) (h : ∀ x ∈ T, lo ≤ x ∧ x ≤ hi) (h0 : 0 ≤ i) (h1 : i < (T.length : Int)) : ∃ v : Int, atI (T.map V.int) i = some (.int v) ∧ lo ≤ v ∧ v ≤ hi :=
  ⟨_, at_mapZ T i h0 h1, getD_bnd h (by omega)⟩
theorem sh_int (i : Int) : ((i : Rat).num = i) ∧ ((i : Rat).den = 1) := ⟨by simp, by simp⟩
theorem ShV.int {H : Hp} {a : Addr} {i : Int} (h : H a = some (.tup [.int i, .int 1])) : ShV H (.ref a) (i : Rat) := ⟨a, rfl, by rw [(sh_int i).1, (sh_int i).2]; exact h⟩
theorem p9 : (10 : Int) ^ (9 : Int).toNat = 1000000000 := by decide
theorem all_true (n : Nat) : (List.replicate n true).all id = true := by
  induction n with
  | zero => rfl
  | succ n ih => simp [List.replicate_succ]
theorem map_true {ys : List V} (h : ∀ (i : Nat) v, ys[i]? = some v → v = .bl true) : ys = (List.replicate ys.length true).map V.bl := by
  rw [List.map_replicate]
  refine List.eq_replicate_iff.mpr ⟨rfl, fun v hv => ?_⟩
  obtain ⟨i, hi, rfl⟩ := List.getElem_of_mem hv
  exact h i _ (List.getElem?_eq_getElem hi)
end Cv

namespace Cv
open PySem PySem.Spec PyProof.Rows L2
/-! ### maps -/
structure Mp where
  a : Rat
  b : Rat
  c : Rat
  d : Rat
  e : Rat
  f : Rat
noncomputable def MpV (H : Hp) (v : V) (m : Mp) : Prop := ∃ x v0 v1 v2 v3 v4 v5, v = .ref x ∧ H x = some (.tup [v0, v1, v2, v3, v4, v5]) ∧ ShV H v0 m.a ∧ ShV H v1 m.b ∧ ShV H v2 m.c ∧ ShV H v3 m.d ∧ ShV H v4 m.e ∧ ShV H v5 m.f
theorem MpV.tup {H H' : Hp} {v : V} {m : Mp} (h : MpV H v m) (t : Tup H H') : MpV H' v m := by
  obtain ⟨x, v0, v1, v2, v3, v4, v5, rfl, h, h0, h1, h2, h3, h4, h5⟩ := h
  exact ⟨x, v0, v1, v2, v3, v4, v5, rfl, t _ _ h, h0.tup t, h1.tup t, h2.tup t, h3.tup t, h4.tup t, h5.tup t⟩
theorem MpV.same {H H' : Hp} {v : V} {m : Mp} (h : MpV H v m) (t : Same H H') : MpV H' v m := h.tup t.tup
/-! the mathematics -/
theorem Ov.scale {D E : Int} {n e : Nat} {x : Rat} (h : Ov D n x) (he : Sz e E) : Ov (D * E) (n + e) x := by
  obtain ⟨m, e1, z⟩ := h
  refine ⟨m * E, ?_, z.mul he⟩
  rw [Rat.intCast_mul, Rat.intCast_mul, ← e1]; grind
/-! shares in a list, each of a bounded size -/
noncomputable def ShsV (n : Nat) (H : Hp) (vs : List V) : Prop := ∀ (i : Nat) v, vs[i]? = some v → ∃ q, ShV H v q ∧ Bd n q
theorem ShsV.tup {n : Nat} {H H' : Hp} {vs : List V} (h : ShsV n H vs) (t : Tup H H') : ShsV n H' vs := fun i v e => let ⟨q, w, b⟩ := h i v e; ⟨q, w.tup t, b⟩
theorem ShsV.mono {n m : Nat} {H : Hp} {vs : List V} (h : ShsV n H vs) (hm : n ≤ m) : ShsV m H vs := fun i v e => let ⟨q, w, b⟩ := h i v e; ⟨q, w, b.mono hm⟩
theorem ixN_of {n : Nat} {k : Int} (h0 : 0 ≤ k) (h1 : k < (n : Int)) : ixN n k = some k.toNat := by
  unfold ixN
  rw [if_pos h0, if_pos h1]
theorem same_upd {H H' : Hp} {D : Addr} {o : HO} (h : H D = none) (s : Same H H') : Same H (upd H' D o) := fun b u e => by rw [upd_ne (ne_of_none e h)]; exact s b u e
theorem PtsV.one {H : Hp} {v : V} {p : Pt} (h : PtV H v p.1 p.2) : PtsV H [v] [p] := ⟨rfl, fun i w q e1 e2 => by
  cases i with
  | zero => simp at e1 e2; subst e1 e2; exact h
  | succ i => simp at e1⟩
theorem dnP {K : PySem.W.Frag} {H : Hp} {a : Addr} {vs : List V} {ps : List Pt} (hs : H a = some (.lst vs)) (h : PtsV H vs ps) : Dn K H (datPts ps) (.ref a) := h.dn (SqL.of hs)
end Cv

namespace Cv
/-! ### axes: tops over all the bottoms -/
noncomputable def prodI : List Int → Int
  | [] => 1
  | b :: r => b * prodI r
theorem prodI_append (xs ys : List Int) : prodI (xs ++ ys) = prodI xs * prodI ys := by
  induction xs with
  | nil => simp [prodI]
  | cons x r ih => simp only [List.cons_append, prodI, ih, Int.mul_assoc]
theorem prodI_snoc (xs : List Int) (y : Int) : prodI (xs ++ [y]) = prodI xs * y := by rw [prodI_append]; simp [prodI]
theorem prodI_pos {xs : List Int} (h : ∀ x ∈ xs, 0 < x) : 0 < prodI xs := by
  induction xs with
  | nil => decide
  | cons x r ih => exact Int.mul_pos (h x (.head _)) (ih fun y hy => h y (.tail _ hy))
noncomputable def axR (tops bs : List Int) : List Rat := tops.map fun x => Rat.divInt x (prodI bs)
/-! ### lowest terms, bottom by bottom -/
theorem int_dvd {y x u : Int} (hc : Int.gcd y x = 1) (h : y ∣ x * u) : y ∣ u := by
  have h2 : y.natAbs ∣ x.natAbs * u.natAbs := by rw [← Int.natAbs_mul]; exact Int.natAbs_dvd_natAbs.mpr h
  exact Int.natAbs_dvd_natAbs.mp (Nat.Coprime.dvd_of_dvd_mul_left hc h2)
theorem gcd_parts (a b : Int) (hb : 0 < b) : ∃ g x y : Int, (Int.gcd a b : Int) = g ∧ 0 < g ∧ a = g * x ∧ b = g * y ∧ Int.gcd x y = 1 ∧ 0 < y ∧ a.fdiv g = x ∧ b.fdiv g = y := by
  have g0 : 0 < (Int.gcd a b : Int) := by
    have := Int.gcd_pos_of_ne_zero_right a (show b ≠ 0 by omega)
    omega
  obtain ⟨x, hx⟩ : (Int.gcd a b : Int) ∣ a := Int.gcd_dvd_left ..
  obtain ⟨y, hy⟩ : (Int.gcd a b : Int) ∣ b := Int.gcd_dvd_right ..
  have hc : Int.gcd x y = 1 := by
    have h1 : Int.gcd a b = Int.gcd ((Int.gcd a b : Int) * x) ((Int.gcd a b : Int) * y) := by rw [← hx, ← hy]
    rw [Int.gcd_mul_left, Int.natAbs_natCast] at h1
    have h2 : 0 < Int.gcd a b := by omega
    have h3 : Int.gcd a b * 1 = Int.gcd a b * Int.gcd x y := by rw [Nat.mul_one]; exact h1
    exact (Nat.eq_of_mul_eq_mul_left h2 h3).symm
  generalize (Int.gcd a b : Int) = g at g0 hx hy
  have hyp : 0 < y := by
    rw [hy] at hb
    rcases Int.lt_trichotomy y 0 with h | h | h
    · have := Int.mul_neg_of_pos_of_neg g0 h; omega
    · rw [h, Int.mul_zero] at hb; omega
    · exact h
  refine ⟨g, x, y, rfl, g0, hx, hy, hc, hyp, ?_, ?_⟩
  · rw [Int.fdiv_eq_ediv_of_nonneg _ (Int.le_of_lt g0), hx]
    exact Int.mul_ediv_cancel_left _ (by omega)
  · rw [Int.fdiv_eq_ediv_of_nonneg _ (Int.le_of_lt g0), hy]
    exact Int.mul_ediv_cancel_left _ (by omega)
theorem over_step {top below b : Int} (hb : 0 < b) (hbe : 0 < below) (hg : Int.gcd top below = 1) :
    Int.gcd (top.fdiv (Int.gcd top b)) (below * b.fdiv (Int.gcd top b)) = 1 ∧ 0 < below * b.fdiv (Int.gcd top b) ∧ top.fdiv (Int.gcd top b) * b = top * b.fdiv (Int.gcd top b) ∧ 0 < (Int.gcd top b : Int) ∧ (Int.gcd top b : Int) ∣ b := by
  obtain ⟨g, x, y, eg, g0, hx, hy, hc, hyp, ex, ey⟩ := gcd_parts top b hb
  rw [eg, ex, ey]
  refine ⟨?_, Int.mul_pos hbe hyp, ?_, g0, ⟨y, hy⟩⟩
  · have h1 : Int.gcd x below = 1 := by
      have d1 : ((Int.gcd x below : Nat) : Int) ∣ top := Int.dvd_trans (Int.gcd_dvd_left ..) ⟨g, by rw [hx]; exact Int.mul_comm ..⟩
      have d2 : ((Int.gcd x below : Nat) : Int) ∣ below := Int.gcd_dvd_right ..
      have d3 : Int.gcd x below ∣ Int.gcd top below := Nat.dvd_gcd (by simpa using Int.natAbs_dvd_natAbs.mpr d1) (by simpa using Int.natAbs_dvd_natAbs.mpr d2)
      rw [hg] at d3
      exact Nat.dvd_one.mp d3
    show Nat.gcd x.natAbs (below * y).natAbs = 1
    rw [Int.natAbs_mul]
    exact Nat.Coprime.mul_right (show Nat.Coprime x.natAbs below.natAbs from h1) (show Nat.Coprime x.natAbs y.natAbs from hc)
  · rw [hx, hy]; grind
theorem low_unique {top below P T : Int} (hb : 0 < below) (hP : 0 < P) (hg : Int.gcd top below = 1) (e : top * P = T * below) : (Rat.divInt T P).num = top ∧ ((Rat.divInt T P).den : Int) = below := by
  have hc : Nat.Coprime top.natAbs below.natAbs := hg
  have hc' : Nat.Coprime top.natAbs below.toNat := by
    have : below.toNat = below.natAbs := by omega
    rw [this]; exact hc
  have q : (⟨top, below.toNat, by omega, hc'⟩ : Rat) = Rat.divInt T P := by
    rw [Rat.mk_eq_divInt]
    have e2 : ((below.toNat : Nat) : Int) = below := by omega
    rw [e2]
    exact (Rat.divInt_eq_divInt_iff (by omega) (by omega)).mpr e
  rw [← q]
  exact ⟨rfl, by show ((below.toNat : Nat) : Int) = below; omega⟩
/-! ### a common bottom -/
theorem den_dvd {q : Rat} {D : Int} {n : Nat} (h : Ov D n q) : (q.den : Int) ∣ D := by
  obtain ⟨m, e, _⟩ := h
  have h1 := num_cast q
  have hd := den_cast_ne q
  have e2 : (q.num : Rat) * (D : Rat) = (m : Rat) * ((q.den : Int) : Rat) := by rw [h1, ← e]; grind
  have e3 : q.num * D = m * q.den := by exact_mod_cast e2
  have hr : Int.gcd q.den q.num = 1 := by rw [Int.gcd_comm]; exact q.reduced
  exact int_dvd hr ⟨m, by rw [e3]; exact Int.mul_comm ..⟩
theorem lcm_step {W d D : Int} (hd : 0 < d) (h1 : W ∣ D) (h2 : d ∣ D) : d ∣ W * d.fdiv (Int.gcd W d) ∧ W * d.fdiv (Int.gcd W d) ∣ D ∧ 0 < d.fdiv (Int.gcd W d) ∧ 0 < (Int.gcd W d : Int) ∧ (Int.gcd W d : Int) ∣ d := by
  obtain ⟨g, x, y, eg, g0, hx, hy, hc, hyp, ex, ey⟩ := gcd_parts W d hd
  rw [eg, ey]
  refine ⟨⟨x, by rw [hx, hy]; grind⟩, ?_, hyp, g0, ⟨y, hy⟩⟩
  obtain ⟨u, hu⟩ := h1
  obtain ⟨v, hv⟩ := h2
  have e : x * u = y * v := by
    have : g * (x * u) = g * (y * v) := by rw [← Int.mul_assoc, ← Int.mul_assoc, ← hx, ← hy, ← hu, hv]
    exact Int.eq_of_mul_eq_mul_left (by omega) this
  obtain ⟨w, hw⟩ := int_dvd (y := y) (x := x) (u := u) (by rw [Int.gcd_comm]; exact hc) ⟨v, e⟩
  exact ⟨w, by rw [hu, hw]; grind⟩
theorem sz_dvd {n : Nat} {x D : Int} (hD : D ≠ 0) (h : x ∣ D) (z : Sz n D) : Sz n x := z.le (Nat.le_of_dvd (by omega) (Int.natAbs_dvd_natAbs.mpr h))
end Cv

namespace Cv
open PySem PySem.Spec PyProof.Rows L2
/-! ### lists of shares, axes -/
structure ShL (H : Hp) (vs : List V) (qs : List Rat) : Prop where
  len : vs.length = qs.length
  get : ∀ (i : Nat) v q, vs[i]? = some v → qs[i]? = some q → ShV H v q
theorem ShL.tup {H H' : Hp} {vs : List V} {qs : List Rat} (h : ShL H vs qs) (t : Tup H H') : ShL H' vs qs := ⟨h.len, fun i v q e1 e2 => (h.get i v q e1 e2).tup t⟩
theorem ShL.same {H H' : Hp} {vs : List V} {qs : List Rat} (h : ShL H vs qs) (t : Same H H') : ShL H' vs qs := h.tup t.tup
theorem ShL.at {H : Hp} {vs : List V} {qs : List Rat} (h : ShL H vs qs) {i : Nat} {q : Rat} (hq : qs[i]? = some q) : ∃ v, vs[i]? = some v ∧ ShV H v q := by
  have hi : i < qs.length := (List.getElem?_eq_some_iff.mp hq).1
  have e : vs[i]? = some (vs[i]'(by rw [h.len]; exact hi)) := List.getElem?_eq_getElem _
  exact ⟨_, e, h.get i _ q e hq⟩
theorem ShL.atV {H : Hp} {vs : List V} {qs : List Rat} (h : ShL H vs qs) {i : Nat} {v : V} (hv : vs[i]? = some v) : ∃ q, qs[i]? = some q ∧ ShV H v q := by
  have hi : i < vs.length := (List.getElem?_eq_some_iff.mp hv).1
  have e : qs[i]? = some (qs[i]'(by rw [← h.len]; exact hi)) := List.getElem?_eq_getElem _
  exact ⟨_, e, h.get i v _ hv e⟩
theorem PtsV.atV {H : Hp} {vs : List V} {ps : List Pt} (h : PtsV H vs ps) {i : Nat} {v : V} (hv : vs[i]? = some v) : ∃ p, ps[i]? = some p ∧ PtV H v p.1 p.2 := by
  have hi : i < vs.length := (List.getElem?_eq_some_iff.mp hv).1
  have e : ps[i]? = some (ps[i]'(by rw [← h.len]; exact hi)) := List.getElem?_eq_getElem _
  exact ⟨_, e, h.get i v _ hv e⟩
noncomputable def AxV (H : Hp) (v : V) (n : Nat) (tops bs : List Int) : Prop := ∃ a lt lb, v = .ref a ∧ H a = some (.tup [.ref lt, .ref lb]) ∧ H lt = some (.lst (tops.map V.int)) ∧ H lb = some (.lst (bs.map V.int)) ∧ (∀ x ∈ tops, Sz n x) ∧ (∀ b ∈ bs, 0 < b ∧ Sz 9000 b) ∧ bs.length ≤ 100 ∧ tops.length ≤ 1000
theorem AxV.same {H H' : Hp} {v : V} {n : Nat} {tops bs : List Int} (h : AxV H v n tops bs) (s : Same H H') : AxV H' v n tops bs := by
  obtain ⟨a, lt, lb, e, h1, h2, h3, h4⟩ := h
  exact ⟨a, lt, lb, e, s _ _ h1, s _ _ h2, s _ _ h3, h4⟩
noncomputable def spCommon (K : PySem.W.Frag) : Sp := fun vs H Q _ => ∃ (a : Addr) (ws : List V) (qs : List Rat) (D : Int), vs = [.ref a] ∧ SqL K H a ws ∧ ShL H ws qs ∧ 0 < D ∧ Sz 9000 D ∧ (∀ q ∈ qs, (q.den : Int) ∣ D) ∧ qs.length ≤ 40 ∧
  ∀ (l : Addr) (bs : List Int) (H' : Hp), Same H H' → H' l = some (.lst (bs.map V.int)) → (∀ b ∈ bs, 0 < b ∧ Sz 9000 b) → (∀ q ∈ qs, (q.den : Int) ∣ prodI bs) → prodI bs ∣ D → bs.length ≤ qs.length → Q (.ref l) H'
noncomputable def spProduct (K : PySem.W.Frag) : Sp := fun vs H Q _ => ∃ (a : Addr) (bs : List Int), vs = [.ref a] ∧ SqL K H a (bs.map V.int) ∧ (∀ b ∈ bs, 0 < b ∧ Sz 9000 b) ∧ bs.length ≤ 100 ∧ Q (.int (prodI bs)) H
noncomputable def spAxis (K : PySem.W.Frag) : Sp := fun vs H Q _ => ∃ (a : Addr) (ws : List V) (qs : List Rat) (D : Int) (m : Nat), vs = [.ref a] ∧ SqL K H a ws ∧ ShL H ws qs ∧ 0 < D ∧ Sz 9000 D ∧ (∀ q ∈ qs, (q.den : Int) ∣ D ∧ Bd m q) ∧ m ≤ 9000 ∧ qs.length ≤ 40 ∧
  ∀ v tops bs H', Same H H' → AxV H' v (m + 9000) tops bs → axR tops bs = qs → bs.length ≤ qs.length → Q v H'
noncomputable def spAxes (K : PySem.W.Frag) : Sp := fun vs H Q _ => ∃ (a : Addr) (ws : List V) (ps : List Pt) (D : Int) (m : Nat), vs = [.ref a] ∧ SqL K H a ws ∧ PtsV H ws ps ∧ 0 < D ∧ Sz 9000 D ∧ (∀ p ∈ ps, ((p.1.den : Int) ∣ D ∧ Bd m p.1) ∧ (p.2.den : Int) ∣ D ∧ Bd m p.2) ∧ m ≤ 9000 ∧ ps.length ≤ 40 ∧
  ∀ c x y t1 b1 t2 b2 H', Same H H' → H' c = some (.tup [x, y]) → AxV H' x (m + 9000) t1 b1 → AxV H' y (m + 9000) t2 b2 → axR t1 b1 = ps.map (·.1) → axR t2 b2 = ps.map (·.2) → b1.length ≤ ps.length → b2.length ≤ ps.length → Q (.ref c) H'
noncomputable def spOverAll (K : PySem.W.Frag) : Sp := fun vs H Q _ => ∃ (top : Int) (a : Addr) (bs : List Int), vs = [.int top, .ref a] ∧ SqL K H a (bs.map V.int) ∧ (∀ b ∈ bs, 0 < b ∧ Sz 9000 b) ∧ bs.length ≤ 100 ∧ ∀ v H', Same H H' → ShV H' v (Rat.divInt top (prodI bs)) → Q v H'
noncomputable def spPointsOf : Sp := fun vs H Q _ => ∃ x y n t1 b1 t2 b2, vs = [x, y] ∧ AxV H x n t1 b1 ∧ AxV H y n t2 b2 ∧ t1.length = t2.length ∧
  ∀ (l : Addr) (us : List V) (ps : List Pt) (H' : Hp), Same H H' → H l = none → H' l = some (.lst us) → PtsV H' us ps → ps.map (·.1) = axR t1 b1 → ps.map (·.2) = axR t2 b2 → Q (.ref l) H'
/-! the mathematics of the loops -/
theorem prod_sz {bs : List Int} (h : ∀ b ∈ bs, 0 < b ∧ Sz 9000 b) : Sz (9000 * bs.length + 1) (prodI bs) := by
  induction bs with
  | nil => exact ⟨by decide⟩
  | cons b r ih =>
    show Sz _ (b * prodI r)
    exact ((h b (.head _)).2.mul (ih fun c hc => h c (.tail _ hc))).mono (by rw [List.length_cons]; omega)
theorem top_of {q : Rat} {W : Int} (hW : 0 < W) (h : (q.den : Int) ∣ W) : Rat.divInt (q.num * W.fdiv q.den) W = q := by
  have hd : 0 < (q.den : Int) := by have := q.den_pos; omega
  obtain ⟨w, hw⟩ := h
  have e : W.fdiv q.den = w := by
    rw [Int.fdiv_eq_ediv_of_nonneg _ (Int.le_of_lt hd)]
    conv => lhs; rw [hw]
    exact Int.mul_ediv_cancel_left _ (by omega)
  rw [e]
  symm
  refine eq_divInt (by omega) ?_
  have h1 := num_cast q
  rw [hw]
  simp only [Rat.intCast_mul]
  rw [h1]; grind
theorem quo_sz {n : Nat} {W d : Int} (hW : 0 < W) (hd : 0 < d) (h : d ∣ W) (z : Sz n W) : Sz n (W.fdiv d) := by
  obtain ⟨w, hw⟩ := h
  have e : W.fdiv d = w := by
    rw [Int.fdiv_eq_ediv_of_nonneg _ (Int.le_of_lt hd)]
    conv => lhs; rw [hw]
    exact Int.mul_ediv_cancel_left _ (by omega)
  rw [e]
  exact sz_dvd (by omega) ⟨d, by rw [hw]; exact Int.mul_comm ..⟩ z
theorem ints_at {bs : List Int} {i : Nat} {x : V} (h : (bs.map V.int)[i]? = some x) : ∃ b, bs[i]? = some b ∧ x = .int b := by
  rw [List.getElem?_map] at h
  cases e : bs[i]? with
  | none => rw [e] at h; cases h
  | some b => rw [e] at h; cases h; exact ⟨b, rfl, rfl⟩
theorem take_snoc {α : Type} {bs : List α} {i : Nat} {b : α} (h : bs[i]? = some b) : bs.take (i + 1) = bs.take i ++ [b] := by rw [List.take_succ, h]; rfl
theorem pairs_eq {ps : List Pt} {xs ys : List Rat} (h1 : ps.map (·.1) = xs) (h2 : ps.map (·.2) = ys) {qs : List Pt} (h3 : qs.map (·.1) = xs) (h4 : qs.map (·.2) = ys) : ps = qs := by
  subst h1 h2
  induction ps generalizing qs with
  | nil => cases qs with
    | nil => rfl
    | cons q r => simp at h3
  | cons p r ih =>
    cases qs with
    | nil => simp at h3
    | cons q s =>
      simp only [List.map_cons, List.cons.injEq] at h3 h4
      rw [ih h3.2 h4.2]
      rw [Prod.ext h3.1.symm h4.1.symm]
theorem axR_len (t b : List Int) : (axR t b).length = t.length := by unfold axR; rw [List.length_map]
theorem ints_of {α : Type} {ys : List V} {qs : List α} {f : α → Int} (hl : ys.length = qs.length) (h : ∀ (i : Nat) v, ys[i]? = some v → ∀ q, qs[i]? = some q → v = .int (f q)) : ys = (qs.map f).map V.int := by
  refine List.ext_getElem? fun i => ?_
  rw [List.getElem?_map, List.getElem?_map]
  cases e : ys[i]? with
  | none =>
    have : qs[i]? = none := List.getElem?_eq_none (by have := List.getElem?_eq_none_iff.mp e; omega)
    rw [this]; rfl
  | some v =>
    have hi : i < qs.length := by have := (List.getElem?_eq_some_iff.mp e).1; omega
    have e2 : qs[i]? = some qs[i] := List.getElem?_eq_getElem hi
    rw [h i v e _ e2, e2]; rfl
theorem axR_tops {qs : List Rat} {bs : List Int} (hb : 0 < prodI bs) (h : ∀ q ∈ qs, (q.den : Int) ∣ prodI bs) : axR (qs.map fun q => q.num * (prodI bs).fdiv q.den) bs = qs := by
  unfold axR
  rw [List.map_map]
  conv => rhs; rw [← List.map_id qs]
  refine List.map_congr_left fun q hq => ?_
  exact top_of hb (h q hq)
theorem ShL.map {H : Hp} {ys : List V} {ps : List Pt} {f : Pt → Rat} (hl : ys.length = ps.length) (h : ∀ (i : Nat) v, ys[i]? = some v → ∀ p, ps[i]? = some p → ShV H v (f p)) : ShL H ys (ps.map f) := by
  refine ⟨by rw [hl, List.length_map], fun i v q e1 e2 => ?_⟩
  rw [List.getElem?_map] at e2
  cases e3 : ps[i]? with
  | none => rw [e3] at e2; cases e2
  | some p => rw [e3] at e2; cases e2; exact h i v e1 p e3
theorem int_at {t : List Int} {i : Nat} {x : Int} (h : t[i]? = some x) : ((t.map V.int)[i]?).getD V.non = .int x := by rw [List.getElem?_map, h]; rfl
theorem pts_zip {H : Hp} {us : List V} {t1 b1 t2 b2 : List Int} (hl : us.length = t1.length) (h12 : t1.length = t2.length)
    (h : ∀ (i : Nat) v, us[i]? = some v → ∀ x y, t1[i]? = some x → t2[i]? = some y → PtV H v (Rat.divInt x (prodI b1)) (Rat.divInt y (prodI b2))) : ∃ ps : List Pt, PtsV H us ps ∧ ps.map (·.1) = axR t1 b1 ∧ ps.map (·.2) = axR t2 b2 := by
  refine ⟨(axR t1 b1).zip (axR t2 b2), ⟨?_, fun i v p e1 e2 => ?_⟩, ?_, ?_⟩
  · rw [List.length_zip, axR_len, axR_len, hl]; omega
  · rw [List.getElem?_zip_eq_some] at e2
    obtain ⟨a1, a2⟩ := e2
    unfold axR at a1 a2
    rw [List.getElem?_map] at a1 a2
    cases c1 : t1[i]? with
    | none => rw [c1] at a1; cases a1
    | some x =>
      cases c2 : t2[i]? with
      | none => rw [c2] at a2; cases a2
      | some y =>
        rw [c1] at a1; rw [c2] at a2
        have g1 : Rat.divInt x (prodI b1) = p.1 := by simpa using a1
        have g2 : Rat.divInt y (prodI b2) = p.2 := by simpa using a2
        rw [← g1, ← g2]
        exact h i v e1 x y c1 c2
  · exact List.map_fst_zip (by rw [axR_len, axR_len]; omega)
  · exact List.map_snd_zip (by rw [axR_len, axR_len]; omega)
theorem cut_tail {α : Type} (f : α → V) (xs : List α) : cutV (xs.map f) (some 1) none = (xs.drop 1).map f := by
  cases xs with
  | nil => rfl
  | cons x r => exact cut_fromI f (x :: r) 1 1 rfl (by simp)
end Cv

namespace Cv
open PySem PySem.Spec PyProof.Rows L2
/-! ### rows, polar points, cuts and stretches of the program -/
/-- a curve as the program takes it: its seats, a common bottom, sizes -/
theorem AxV.lst {H : Hp} {v : V} {n : Nat} {tops bs : List Int} {l : Addr} {ls : List Addr} {o : HO} (h : AxV H v n tops bs) (hl : H l = some (.lst (ls.map V.ref))) (h1 : 1 ≤ ls.length) : AxV (upd H l o) v n tops bs := by
  obtain ⟨a, lt, lb, e, g1, g2, g3, g4⟩ := h
  have ne : ∀ (b : Addr) (xs : List Int), H b = some (.lst (xs.map V.int)) → b ≠ l := fun b xs e z => by
    rw [z, hl] at e
    have e' : ls.map V.ref = xs.map V.int := by simpa using e
    cases ls with
    | nil => simp at h1
    | cons x r =>
      cases xs with
      | nil => simp at e'
      | cons y s => simp at e'
  have na : a ≠ l := fun z => by rw [z, hl] at g1; cases g1
  exact ⟨a, lt, lb, e, by rw [upd_ne na]; exact g1, by rw [upd_ne (ne _ _ g2)]; exact g2, by rw [upd_ne (ne _ _ g3)]; exact g3, g4⟩
end Cv

namespace Cv
open PySem PySem.Spec PyProof.Rows L2
/-! ### the order of the shares does not matter -/
/-! ### sizes -/
theorem PtsV.take {H : Hp} {ws : List V} {ps : List Pt} (h : PtsV H ws ps) (n : Nat) : PtsV H (ws.take n) (ps.take n) := by
  refine ⟨by rw [List.length_take, List.length_take, h.len], fun i v p e1 e2 => ?_⟩
  rw [List.getElem?_take] at e1 e2
  by_cases hi : i < n
  · rw [if_pos hi] at e1 e2; exact h.get i v p e1 e2
  · rw [if_neg hi] at e1; cases e1
end Cv

namespace Cv
/-! ### polar points share by share: each goes between as the share does -/
/-! ### a stretch's rows -/
/-! ### at 0 and at 1 -/
end Cv

namespace Cv
/-! ### sizes of the halves -/
end Cv

namespace Cv
open PySem PySem.Spec PyProof.Rows L2
/-! ### curves the other way round, stretches of stretches -/
/-! ### the bottoms of a stretch's seats -/
end Cv

namespace Cv
open PySem PySem.Spec PyProof.Rows L2
/-! ### curves and shares drawn from the script's cells -/
section
variable {X : Cx}
end
theorem ShL.nil (H : Hp) : ShL H [] [] := ⟨rfl, fun i v q e => by simp at e⟩
theorem PtsV.set {H : Hp} {ws : List V} {ps : List Pt} {v : V} {p : Pt} (h : PtsV H ws ps) (j : Nat) (hv : PtV H v p.1 p.2) : PtsV H (ws.set j v) (ps.set j p) := by
  refine ⟨by rw [List.length_set, List.length_set, h.len], fun i x q e1 e2 => ?_⟩
  have hl := h.len
  by_cases hi : i = j
  · subst hi
    have hi : i < ws.length := by have := (List.getElem?_eq_some_iff.mp e1).1; rw [List.length_set] at this; exact this
    rw [List.getElem?_set_self hi] at e1
    rw [List.getElem?_set_self (by omega)] at e2
    cases e1; cases e2; exact hv
  · rw [List.getElem?_set_ne (Ne.symm hi)] at e1 e2
    exact h.get i x q e1 e2
end Cv

namespace Cv
open PySem PySem.Spec PyProof.Rows L2
/-! ### how many ways, sums, powers -/
noncomputable def ch : Nat → Nat → Nat
  | _, 0 => 1
  | 0, _ + 1 => 0
  | n + 1, k + 1 => ch n k + ch n (k + 1)
theorem ch_zero (n : Nat) : ch n 0 = 1 := by cases n <;> rfl
theorem ch_gt : ∀ n k, n < k → ch n k = 0
  | 0, k + 1, _ => rfl
  | n + 1, k + 1, h => by
    show ch n k + ch n (k + 1) = 0
    rw [ch_gt n k (by omega), ch_gt n (k + 1) (by omega)]
theorem ch_up : ∀ n k, (k + 1) * ch (n + 1) (k + 1) = (n + 1) * ch n k
  | 0, 0 => rfl
  | 0, k + 1 => by
    show (k + 1 + 1) * (ch 0 (k + 1) + ch 0 (k + 1 + 1)) = _
    rfl
  | n + 1, 0 => by
    have h := ch_up n 0
    show (0 + 1) * (ch (n + 1) 0 + ch (n + 1) 1) = (n + 1 + 1) * ch (n + 1) 0
    rw [ch_zero] at h
    rw [ch_zero]
    have h' : ch (n + 1) (0 + 1) = ch (n + 1) 1 := rfl
    rw [h'] at h
    omega
  | n + 1, j + 1 => by
    have h1 := ch_up n j
    have h2 := ch_up n (j + 1)
    show (j + 1 + 1) * (ch (n + 1) (j + 1) + ch (n + 1) (j + 1 + 1)) = (n + 1 + 1) * ch (n + 1) (j + 1)
    have e : ch (n + 1) (j + 1) = ch n j + ch n (j + 1) := rfl
    rw [Nat.mul_add, h2, Nat.add_mul (n + 1) 1, Nat.add_mul (j + 1) 1, h1]
    rw [e]
    grind
theorem ch_next (n k : Nat) : (ch n (k + 1) : Int) * ((k : Int) + 1) = (ch n k : Int) * ((n : Int) - k) := by
  have h := ch_up n k
  have e : ch (n + 1) (k + 1) = ch n k + ch n (k + 1) := rfl
  rw [e] at h
  have h' : (((k + 1) * (ch n k + ch n (k + 1)) : Nat) : Int) = (((n + 1) * ch n k : Nat) : Int) := by rw [h]
  simp only [Int.natCast_mul, Int.natCast_add, Int.natCast_one] at h'
  grind
theorem ch_le : ∀ n k, ch n k ≤ 2 ^ n
  | n, 0 => by rw [ch_zero]; exact Nat.one_le_two_pow
  | 0, k + 1 => Nat.zero_le _
  | n + 1, k + 1 => by
    have h1 := ch_le n k
    have h2 := ch_le n (k + 1)
    show ch n k + ch n (k + 1) ≤ _
    rw [Nat.pow_succ]; omega
theorem ch_sz (n k : Nat) : Sz (n + 1) (ch n k : Int) := ⟨by
  rw [Int.natAbs_natCast]
  have := ch_le n k
  rw [Nat.pow_succ]
  have := Nat.one_le_two_pow (n := n)
  omega⟩
noncomputable def pw (x : Rat) : Nat → Rat
  | 0 => 1
  | n + 1 => pw x n * x
noncomputable def sm (f : Nat → Rat) : Nat → Rat
  | 0 => 0
  | n + 1 => sm f n + f n
/-! ### the weighted sum -/
noncomputable def gX (ps : List Pt) (j : Nat) : Rat := ((ps[j]?).getD (0, 0)).1
noncomputable def gY (ps : List Pt) (j : Nat) : Rat := ((ps[j]?).getD (0, 0)).2
/-! ### a walk over pairs -/
theorem for_plain2 {K : PySem.W.Frag} {J : It} {H1 : Hp} {n : Nat} {f f' : Nat → V} {g : TG} {tb : TS} {D : Ends} {σ : L2.St} (hJ : Plain2 K J H1 n f f') (Pv : Nat → L2.St → Hp → Prop) (h0 : Pv 0 σ H1) (hS : ∀ i σ H, Pv i σ H → Same H1 H)
    (hs : ∀ i a σ H H', i < n → Pv i σ H → Same H H' → SqT K H' a [f i, f' i] → g (.ref a) σ H' fun σ2 H2 => tb { D with nx := Pv (i + 1), ct := Pv (i + 1), bk := D.nx } σ2 H2) (hd : ∀ σ H, Pv n σ H → D.nx σ H) :
    ∃ W : Nat → Nat → L2.St → Hp → Prop, (∃ m, W 0 m σ H1) ∧ ∀ i m σ H, W i m σ H →
      (J.stop i H ∧ D.nx σ H) ∨ (J.go i H ∧ ∃ N : L2.St → Hp → Prop, (∀ σ' H', N σ' H' → ∃ m', m' < m ∧ W (i + 1) m' σ' H') ∧ ∀ x H', J.yld i H x H' → g x σ H' fun σ2 H2 => tb { D with nx := N, ct := N, bk := D.nx } σ2 H2) := by
  refine ⟨fun i m σ H => m = n - i ∧ i ≤ n ∧ Pv i σ H, ⟨n, by simp, Nat.zero_le _, h0⟩, ?_⟩
  rintro i m σ H ⟨rfl, hi, p⟩
  have q := hJ H (hS i σ H p) i
  by_cases hlt : i < n
  · refine .inr ⟨(q.1 hlt).1, Pv (i + 1), fun σ' H' p' => ⟨n - (i + 1), by omega, rfl, hlt, p'⟩, fun x H' y => ?_⟩
    obtain ⟨s, a, rfl, ht⟩ := (q.1 hlt).2 x H' y
    exact hs i a σ H H' hlt p s ht
  · have e : i = n := by omega
    subst e
    exact .inl ⟨q.2 rfl, hd σ H p⟩
/-! ### promises -/
theorem pw_sz {x : Int} (h : Sz 300 x) {n : Nat} (hn : n ≤ 12) : Sz 4000 (x ^ n) := by
  have := sz_pow h n
  exact this.mono (by have : n * 300 ≤ 12 * 300 := Nat.mul_le_mul_right _ hn; omega)
end Cv

namespace Cv
open PySem PySem.Spec PyProof.Rows L2
section
variable {X : Cx}
end
/-! ### the weights -/
noncomputable def spI (x y : Int) (r j : Nat) : Int := (ch r j : Int) * x ^ j * y ^ (r - j)
theorem spI_zero (x y : Int) (r : Nat) : spI x y (r + 1) 0 = y * spI x y r 0 := by
  unfold spI
  rw [ch_zero, ch_zero, Nat.sub_zero, Nat.sub_zero, Int.pow_succ]
  grind
theorem spI_over (x y : Int) (r : Nat) : spI x y r (r + 1) = 0 := by
  unfold spI
  rw [ch_gt r (r + 1) (by omega)]
  simp
theorem spI_succ (x y : Int) (r j : Nat) (h : j ≤ r) : spI x y (r + 1) (j + 1) = y * spI x y r (j + 1) + x * spI x y r j := by
  unfold spI
  have e : ch (r + 1) (j + 1) = ch r j + ch r (j + 1) := rfl
  have e2 : r + 1 - (j + 1) = r - j := by omega
  rw [e, e2, Int.natCast_add]
  have e3 : (ch r (j + 1) : Int) * y ^ (r - j) = (ch r (j + 1) : Int) * (y ^ (r - (j + 1)) * y) := by
    by_cases hj : j = r
    · subst hj
      rw [ch_gt j (j + 1) (by omega)]; simp
    · have : r - j = (r - (j + 1)) + 1 := by omega
      rw [this, Int.pow_succ]
  rw [Int.pow_succ x j]
  have e4 : ((ch r j : Int) + ch r (j + 1)) * (x ^ j * x) * y ^ (r - j) = (ch r j : Int) * (x ^ j * x) * y ^ (r - j) + ((ch r (j + 1) : Int) * y ^ (r - j)) * (x ^ j * x) := by grind
  rw [e4, e3]; grind
noncomputable def spSpread : Sp := fun vs H Q _ => ∃ (n : Nat) (x y : Int), vs = [.int (n : Int), .int y, .int x] ∧ n ≤ 12 ∧ Sz 300 x ∧ Sz 300 y ∧ ∀ (l : Addr) (H' : Hp), Same H H' → H l = none → H' l = some (.lst (((List.range (n + 1)).map (spI x y n)).map V.int)) → Q (.ref l) H'
theorem sp_sz {x y : Int} {n k : Nat} (hx : Sz 300 x) (hy : Sz 300 y) (hn : n ≤ 12) (hk : k ≤ n) : Sz 8100 (spI x y n k) := by
  unfold spI
  exact (((ch_sz n k).mul (pw_sz hx (n := k) (by omega))).mul (pw_sz hy (n := n - k) (by omega))).mono (by omega)
noncomputable def spL (x y : Int) (r : Nat) : List V := ((List.range (r + 1)).map (spI x y r)).map V.int
theorem spL_len (x y : Int) (r : Nat) : (spL x y r).length = r + 1 := by unfold spL; simp
theorem spL_get (x y : Int) (r j : Nat) (h : j ≤ r) : (spL x y r)[j]? = some (V.int (spI x y r j)) := by
  unfold spL
  rw [List.getElem?_map, List.getElem?_map, List.getElem?_range (by omega)]; rfl
theorem left_get (x y : Int) (r j : Nat) (h : j ≤ r + 1) : ((spL x y r ++ [V.int 0])[j]?).getD .non = V.int (spI x y r j) := by
  by_cases hj : j ≤ r
  · rw [List.getElem?_append_left (by rw [spL_len]; omega), spL_get _ _ _ _ hj]; rfl
  · have e : j = r + 1 := by omega
    subst e
    rw [List.getElem?_append_right (by rw [spL_len]; omega), spL_len, Nat.sub_self, spI_over]; rfl
theorem right_get (x y : Int) (r j : Nat) (h : j ≤ r + 1) : ∃ z : Int, (([V.int 0] ++ spL x y r)[j]?).getD .non = V.int z ∧ Sz 8100 z = Sz 8100 z ∧ (j = 0 ∧ z = 0 ∨ ∃ i, j = i + 1 ∧ z = spI x y r i) := by
  cases j with
  | zero => exact ⟨0, rfl, rfl, .inl ⟨rfl, rfl⟩⟩
  | succ j =>
    refine ⟨spI x y r j, ?_, rfl, .inr ⟨j, rfl, rfl⟩⟩
    rw [List.getElem?_append_right (by simp), List.length_singleton, Nat.add_sub_cancel, spL_get _ _ _ _ (by omega)]; rfl
theorem spL_of {x y : Int} {r : Nat} {ys : List V} (hl : ys.length = r + 1) (h : ∀ (i : Nat) v, ys[i]? = some v → v = V.int (spI x y r i)) : ys = spL x y r := by
  refine List.ext_getElem? fun j => ?_
  by_cases hj : j ≤ r
  · have e : ys[j]? = some (ys[j]'(by omega)) := List.getElem?_eq_getElem _
    rw [spL_get _ _ _ _ hj, e, h j _ e]
  · rw [List.getElem?_eq_none (by omega), List.getElem?_eq_none (by rw [spL_len]; omega)]
noncomputable def muL (n : Nat) (σ : L2.St) (H : Hp) : Nat := match (show List (Option V) from σ)[3]? with
  | some (some (V.ref l)) => (match H l with | some (.lst xs) => n + 1 - xs.length | _ => 0)
  | _ => 0
theorem muL_eq {n : Nat} {a b c : Option V} {l : Addr} {H : Hp} {xs : List V} (h : H l = some (.lst xs)) : muL n [a, b, c, some (.ref l)] H = n + 1 - xs.length := by
  unfold muL
  show (match H l with | some (.lst xs) => n + 1 - xs.length | _ => 0) = _
  rw [h]
theorem spI_szs {x y : Int} {n k : Nat} (hx : Sz 300 x) (hy : Sz 300 y) (hn : n ≤ 12) (hk : k ≤ n + 1) : Sz 8100 (spI x y n k) := by
  by_cases h : k ≤ n
  · exact sp_sz hx hy hn h
  · have e : k = n + 1 := by omega
    subst e
    rw [spI_over]; exact ⟨by show 0 < _; exact Nat.two_pow_pos _⟩
theorem zero_sz : Sz 8100 (0 : Int) := ⟨by show 0 < _; exact Nat.two_pow_pos _⟩
end Cv

namespace Cv
open PySem PySem.Spec PyProof.Rows L2
/-! ### enumerate of a list -/
section
variable {X : Cx}
end
/-! ### least and greatest of a list of whole numbers -/
section
variable {X : Cx}
end
end Cv

namespace Cv
open PySem PySem.Spec PyProof.Rows L2
/-! ### tuples that never change: ours, or the module's -/
noncomputable def TK (K : PySem.W.Frag) (H : Hp) (a : Addr) (xs : List V) : Prop := H a = some (.tup xs) ∨ ∃ (o : Obj) (its : Array Value) (n : Nat), K.lookup a = some o ∧ o.cls = .type "tuple" ∧ o.data = .seq its n ∧ its.size ≤ sizeLine ∧ Vals xs its.toList
theorem TK.of {K : PySem.W.Frag} {H : Hp} {a : Addr} {xs : List V} (h : H a = some (.tup xs)) : TK K H a xs := .inl h
theorem TK.sq {K : PySem.W.Frag} {H : Hp} {a : Addr} {xs : List V} (h : TK K H a xs) : SqT K H a xs := by
  rcases h with h | h
  · exact SqT.of h
  · exact .inr h
theorem TK.tup {K : PySem.W.Frag} {H H' : Hp} {a : Addr} {xs : List V} (h : TK K H a xs) (t : Tup H H') : TK K H' a xs := by
  rcases h with h | h
  · exact .inl (t _ _ h)
  · exact .inr h
theorem TK.same {K : PySem.W.Frag} {H H' : Hp} {a : Addr} {xs : List V} (h : TK K H a xs) (t : Same H H') : TK K H' a xs := h.tup t.tup
theorem TK.same' {K : PySem.W.Frag} {H H' : Hp} {a : Addr} {xs : List V} (t : Same H H') (h : TK K H a xs) : TK K H' a xs := h.tup t.tup
structure ShK (K : PySem.W.Frag) (H : Hp) (v : V) (q : Rat) : Prop where
  ex : ∃ a, v = .ref a ∧ TK K H a [.int q.num, .int (q.den : Int)]
structure PtK (K : PySem.W.Frag) (H : Hp) (v : V) (x y : Rat) : Prop where
  ex : ∃ a vx vy, v = .ref a ∧ TK K H a [vx, vy] ∧ ShK K H vx x ∧ ShK K H vy y
structure PtsK (K : PySem.W.Frag) (H : Hp) (vs : List V) (ps : List Pt) : Prop where
  len : vs.length = ps.length
  get : ∀ (i : Nat) v p, vs[i]? = some v → ps[i]? = some p → PtK K H v p.1 p.2
section
variable {K : PySem.W.Frag} {H H' : Hp} {v : V} {q x y : Rat} {vs : List V} {ps : List Pt}
theorem ShK.tup (h : ShK K H v q) (t : Tup H H') : ShK K H' v q := by obtain ⟨a, rfl, h⟩ := h; exact ⟨a, rfl, h.tup t⟩
theorem ShK.same (h : ShK K H v q) (t : Same H H') : ShK K H' v q := h.tup t.tup
theorem ShV.k (h : ShV H v q) : ShK K H v q := by obtain ⟨a, rfl, h⟩ := h; exact ⟨a, rfl, .inl h⟩
theorem PtK.tup (h : PtK K H v x y) (t : Tup H H') : PtK K H' v x y := by obtain ⟨a, vx, vy, rfl, h, h1, h2⟩ := h; exact ⟨a, vx, vy, rfl, h.tup t, h1.tup t, h2.tup t⟩
theorem PtK.same (h : PtK K H v x y) (t : Same H H') : PtK K H' v x y := h.tup t.tup
theorem PtV.k (h : PtV H v x y) : PtK K H v x y := by obtain ⟨a, vx, vy, rfl, h, h1, h2⟩ := h; exact ⟨a, vx, vy, rfl, .inl h, h1.k, h2.k⟩
theorem PtsK.tup (h : PtsK K H vs ps) (t : Tup H H') : PtsK K H' vs ps := ⟨h.len, fun i v p e1 e2 => (h.get i v p e1 e2).tup t⟩
theorem PtsK.same (h : PtsK K H vs ps) (t : Same H H') : PtsK K H' vs ps := h.tup t.tup
theorem PtsV.k (h : PtsV H vs ps) : PtsK K H vs ps := ⟨h.len, fun i v p e1 e2 => (h.get i v p e1 e2).k⟩
theorem PtsK.nil (K : PySem.W.Frag) (H : Hp) : PtsK K H [] [] := ⟨rfl, fun i v p e _ => by simp at e⟩
theorem PtsK.at (h : PtsK K H vs ps) {i : Nat} {p : Pt} (hp : ps[i]? = some p) : ∃ v, vs[i]? = some v ∧ PtK K H v p.1 p.2 := by
  have hi : i < ps.length := (List.getElem?_eq_some_iff.mp hp).1
  have e : vs[i]? = some (vs[i]'(by rw [h.len]; exact hi)) := List.getElem?_eq_getElem _
  exact ⟨_, e, h.get i _ p e hp⟩
theorem ShK.dn (h : ShK K H v q) : Dn K H (datSh q) v := by
  obtain ⟨a, rfl, h⟩ := h
  unfold datSh
  simp only [Dn, DnAll]
  exact ⟨a, _, rfl, h.sq, _, _, rfl, rfl, _, _, rfl, rfl, rfl⟩
theorem PtK.dn {p : Pt} (h : PtK K H v p.1 p.2) : Dn K H (datPt p) v := by
  obtain ⟨a, vx, vy, rfl, h, h1, h2⟩ := h
  unfold datPt
  simp only [Dn, DnAll]
  exact ⟨a, _, rfl, h.sq, _, _, rfl, h1.dn, _, _, rfl, h2.dn, rfl⟩
end
/-! ### differences -/
noncomputable def dl (g : Nat → Rat) : Nat → Nat → Rat
  | 0, i => g i
  | k + 1, i => dl g k (i + 1) - dl g k i
theorem dl_congr {f g : Nat → Rat} : ∀ k i, (∀ j, j ≤ i + k → f j = g j) → dl f k i = dl g k i
  | 0, i, h => h i (by omega)
  | k + 1, i, h => by
    show dl f k (i + 1) - dl f k i = dl g k (i + 1) - dl g k i
    rw [dl_congr k (i + 1) fun j hj => h j (by omega), dl_congr k i fun j hj => h j (by omega)]
theorem dl_shift (g : Nat → Rat) : ∀ k i, dl (fun j => dl g 1 j) k i = dl g (k + 1) i
  | 0, i => rfl
  | k + 1, i => by
    show dl _ k (i + 1) - dl _ k i = _
    rw [dl_shift g k, dl_shift g k]; rfl
theorem dl_ov {D : Int} {n : Nat} {g : Nat → Rat} : ∀ k i, (∀ j, j ≤ i + k → Ov D n (g j)) → Ov D (n + k) (dl g k i)
  | 0, i, h => h i (by omega)
  | k + 1, i, h => by
    obtain ⟨m1, e1, z1⟩ := dl_ov k (i + 1) fun j hj => h j (by omega)
    obtain ⟨m2, e2, z2⟩ := dl_ov k i fun j hj => h j (by omega)
    refine ⟨m1 - m2, ?_, (z1.sub z2).mono (by omega)⟩
    show (dl g k (i + 1) - dl g k i) * _ = _
    rw [Rat.intCast_sub, ← e1, ← e2]; grind
/-- the powers of a list of points, by differences -/
noncomputable def lpP (ps : List Pt) : List Pt := (List.range ps.length).map fun k => (dl (gX ps) k 0 * ((ch (ps.length - 1) k : Int) : Rat), dl (gY ps) k 0 * ((ch (ps.length - 1) k : Int) : Rat))
noncomputable def rowD (ps : List Pt) (k : Nat) : List Pt := (List.range (ps.length - k)).map fun j => (dl (gX ps) k j, dl (gY ps) k j)
/-- the speed of a curve -/
theorem lpP_len (ps : List Pt) : (lpP ps).length = ps.length := by unfold lpP; simp
theorem up_cast (n k : Nat) : (((k + 1 : Nat) : Int) : Rat) * ((ch (n + 1) (k + 1) : Int) : Rat) = (((n + 1 : Nat) : Int) : Rat) * ((ch n k : Int) : Rat) := by
  have h := ch_up n k
  rw [← Rat.intCast_mul, ← Rat.intCast_mul, ← Int.natCast_mul, ← Int.natCast_mul, h]
/-! sizes -/
theorem gX_ov {ps : List Pt} {D : Int} {n : Nat} (h : ∀ p ∈ ps, OvP D n p) {j : Nat} (hj : j < ps.length) : Ov D n (gX ps j) := by
  unfold gX
  rw [List.getElem?_eq_getElem hj]
  exact (h _ (List.getElem_mem hj)).1
theorem gY_ov {ps : List Pt} {D : Int} {n : Nat} (h : ∀ p ∈ ps, OvP D n p) {j : Nat} (hj : j < ps.length) : Ov D n (gY ps j) := by
  unfold gY
  rw [List.getElem?_eq_getElem hj]
  exact (h _ (List.getElem_mem hj)).2
theorem Ov.imul {D : Int} {n m : Nat} {x : Rat} {c : Int} (h : Ov D n x) (hc : Sz m c) : Ov D (n + m) ((c : Rat) * x) := by
  obtain ⟨t, e, z⟩ := h
  refine ⟨c * t, ?_, (hc.mul z).mono (by omega)⟩
  rw [Rat.intCast_mul, ← e]; grind
/-! ### isinstance, also of the module's tuples -/
section
variable {X : Cx}
end
/-! ### promises -/
theorem ovp_bd4 {D : Int} {n d : Nat} {p : Pt} (hD : 0 < D) (zD : Sz d D) (h : OvP D n p) (k : Nat) (h1 : n ≤ k) (h2 : d ≤ k) : Bd k p.1 ∧ Bd k p.2 :=
  ⟨(h.1.bd (by omega) zD).mono (by omega), (h.2.bd (by omega) zD).mono (by omega)⟩
theorem ov_bd4 {D : Int} {n d : Nat} {x : Rat} (hD : 0 < D) (zD : Sz d D) (h : Ov D n x) (k : Nat) (h1 : n ≤ k) (h2 : d ≤ k) : Bd k x := (h.bd (by omega) zD).mono (by omega)
theorem rowD_get {ps : List Pt} {k j : Nat} (h : j + k < ps.length) : (rowD ps k)[j]? = some (dl (gX ps) k j, dl (gY ps) k j) := by
  unfold rowD
  rw [List.getElem?_map, List.getElem?_range (by omega)]; rfl
theorem rowD_len (ps : List Pt) (k : Nat) : (rowD ps k).length = ps.length - k := by unfold rowD; simp
theorem rowD_zero (ps : List Pt) : rowD ps 0 = ps := by
  refine List.ext_getElem? fun i => ?_
  by_cases h : i < ps.length
  · rw [rowD_get (by omega), List.getElem?_eq_getElem h]
    show some (gX ps i, gY ps i) = _
    unfold gX gY
    rw [List.getElem?_eq_getElem h]; rfl
  · rw [List.getElem?_eq_none (by rw [rowD_len]; omega), List.getElem?_eq_none (by omega)]
theorem lpP_get {ps : List Pt} {k : Nat} (h : k < ps.length) : (lpP ps)[k]? = some (dl (gX ps) k 0 * ((ch (ps.length - 1) k : Int) : Rat), dl (gY ps) k 0 * ((ch (ps.length - 1) k : Int) : Rat)) := by
  unfold lpP
  rw [List.getElem?_map, List.getElem?_range h]; rfl
theorem sh_neg {H : Hp} {a : Addr} {q : Rat} (h : H a = some (.tup [.int (0 - q.num), .int (q.den : Int)])) : ShV H (.ref a) (-q) := ⟨a, rfl, by
  rw [Rat.neg_num, Rat.neg_den, h]
  have : (0 : Int) - q.num = -q.num := by omega
  rw [this]⟩
theorem neg_bd {n : Nat} {q : Rat} (h : Bd n q) : Bd n (-q) := ⟨by rw [Rat.neg_num]; exact h.num.neg, by rw [Rat.neg_den]; exact h.den⟩
theorem lpP_ov {ps : List Pt} {D : Int} {n : Nat} (h : ∀ p ∈ ps, OvP D n p) (h12 : ps.length ≤ 13) : ∀ p ∈ lpP ps, OvP D (n + 30) p := by
  intro p hp
  unfold lpP at hp
  obtain ⟨k, hk, rfl⟩ := List.mem_map.mp hp
  have hk' := List.mem_range.mp hk
  have z := ch_sz (ps.length - 1) k
  refine ⟨?_, ?_⟩
  · have := (dl_ov (g := gX ps) k 0 fun i hi => gX_ov h (by omega)).imul z
    rw [Rat.mul_comm] at this
    exact this.mono (by omega)
  · have := (dl_ov (g := gY ps) k 0 fun i hi => gY_ov h (by omega)).imul z
    rw [Rat.mul_comm] at this
    exact this.mono (by omega)
theorem kPoint {K : PySem.W.Frag} {H : Hp} {A B C : Addr} {dA dB dC : Option Addr} {sA sB sC : Array (Option Value)} {nA nB nC : Nat} {t1 t2 t3 t4 : Tok}
    (lA : K.lookup A = some ⟨.type "tuple", dA, .seq #[.ref B, .ref C] nA, sA⟩) (lB : K.lookup B = some ⟨.type "tuple", dB, .seq #[.int 0 t1, .int 1 t2] nB, sB⟩) (lC : K.lookup C = some ⟨.type "tuple", dC, .seq #[.int 0 t3, .int 1 t4] nC, sC⟩) : PtK K H (.ref A) 0 0 :=
  ⟨A, .ref B, .ref C, rfl, .inr ⟨_, _, _, lA, rfl, rfl, by show 2 ≤ sizeLine; decide, .cons rfl (.cons rfl .nil)⟩,
   ⟨B, rfl, .inr ⟨_, _, _, lB, rfl, rfl, by show 2 ≤ sizeLine; decide, .cons ⟨_, rfl⟩ (.cons ⟨_, rfl⟩ .nil)⟩⟩,
   ⟨C, rfl, .inr ⟨_, _, _, lC, rfl, rfl, by show 2 ≤ sizeLine; decide, .cons ⟨_, rfl⟩ (.cons ⟨_, rfl⟩ .nil)⟩⟩⟩
end Cv

namespace Cv
open PySem PySem.Spec PyProof.Rows L2
/-! ### a list is unpacked -/
section
variable {prog : Program} {w : World} {A : Around} {E : Value → Shared → Prop}
variable {s : Shared}
end
section
variable {X : Cx}
end
end Cv

namespace Cv
open PySem PySem.Spec PyProof.Rows L2
/-! ### places: pairs of whole numbers, in lists -/
noncomputable abbrev Pl := Int × Int
structure PlsV (H : Hp) (vs : List V) (pl : List Pl) : Prop where
  len : vs.length = pl.length
  get : ∀ (i : Nat) v p, vs[i]? = some v → pl[i]? = some p → RwV H v p.1 p.2
section
variable {H H' : Hp} {vs : List V} {pl : List Pl}
theorem PlsV.tup (h : PlsV H vs pl) (t : Tup H H') : PlsV H' vs pl := ⟨h.len, fun i v p e1 e2 => (h.get i v p e1 e2).tup t⟩
theorem PlsV.same (h : PlsV H vs pl) (t : Same H H') : PlsV H' vs pl := h.tup t.tup
theorem PlsV.at (h : PlsV H vs pl) {i : Nat} {p : Pl} (hp : pl[i]? = some p) : ∃ a, vs[i]? = some (.ref a) ∧ H a = some (.tup [.int p.1, .int p.2]) := by
  have hi : i < pl.length := (List.getElem?_eq_some_iff.mp hp).1
  have e : vs[i]? = some (vs[i]'(by rw [h.len]; exact hi)) := List.getElem?_eq_getElem _
  obtain ⟨a, e2, h2⟩ := h.get i _ p e hp
  exact ⟨a, by rw [e, e2], h2⟩
end
structure WayV (H : Hp) (v : V) (B kd : Int) : Prop where
  ex : ∃ (a s b : Addr) (sx sy bx by_ : Int), v = .ref a ∧ H a = some (.tup [.int B, .int kd, .ref s, .ref b]) ∧ H s = some (.tup [.int sx, .int sy]) ∧ H b = some (.tup [.int bx, .int by_]) ∧ 1 ≤ B ∧ B ≤ 1000000007 ∧ sx.natAbs ≤ 20 ∧ sy.natAbs ≤ 20 ∧ bx.natAbs ≤ 3 ∧ by_.natAbs ≤ 3
theorem WayV.same {H H' : Hp} {v : V} {B kd : Int} (h : WayV H v B kd) (t : Same H H') : WayV H' v B kd := by
  obtain ⟨a, s, b, sx, sy, bx, by_, rfl, h1, h2, h3, r⟩ := h
  exact ⟨a, s, b, sx, sy, bx, by_, rfl, t _ _ h1, t _ _ h2, t _ _ h3, r⟩
/-! ### least and greatest -/
noncomputable def LeastQ (qs : List Rat) (m : Rat) : Prop := m ∈ qs ∧ ∀ q ∈ qs, m ≤ q
noncomputable def GreatQ (qs : List Rat) (m : Rat) : Prop := m ∈ qs ∧ ∀ q ∈ qs, q ≤ m
theorem LeastQ.one {qs : List Rat} {a b : Rat} (h1 : LeastQ qs a) (h2 : LeastQ qs b) : a = b := Rat.le_antisymm (h1.2 b h2.1) (h2.2 a h1.1)
theorem GreatQ.one {qs : List Rat} {a b : Rat} (h1 : GreatQ qs a) (h2 : GreatQ qs b) : a = b := Rat.le_antisymm (h2.2 a h1.1) (h1.2 b h2.1)
theorem LeastQ.of {qs rs : List Rat} {a : Rat} (h : LeastQ qs a) (e : ∀ q, q ∈ qs ↔ q ∈ rs) : LeastQ rs a := ⟨(e a).mp h.1, fun q hq => h.2 q ((e q).mpr hq)⟩
theorem GreatQ.of {qs rs : List Rat} {a : Rat} (h : GreatQ qs a) (e : ∀ q, q ∈ qs ↔ q ∈ rs) : GreatQ rs a := ⟨(e a).mp h.1, fun q hq => h.2 q ((e q).mpr hq)⟩
structure BoxV (H : Hp) (v : V) (xs ys : List Rat) : Prop where
  ex : ∃ (a : Addr) (v1 v2 v3 v4 : V) (q1 q2 q3 q4 : Rat), v = .ref a ∧ H a = some (.tup [v1, v2, v3, v4]) ∧ ShV H v1 q1 ∧ ShV H v2 q2 ∧ ShV H v3 q3 ∧ ShV H v4 q4 ∧ LeastQ xs q1 ∧ LeastQ ys q2 ∧ GreatQ xs q3 ∧ GreatQ ys q4
theorem BoxV.same {H H' : Hp} {v : V} {xs ys : List Rat} (h : BoxV H v xs ys) (t : Same H H') : BoxV H' v xs ys := by
  obtain ⟨a, v1, v2, v3, v4, q1, q2, q3, q4, rfl, h0, h1, h2, h3, h4, r⟩ := h
  exact ⟨a, v1, v2, v3, v4, q1, q2, q3, q4, rfl, t _ _ h0, h1.same t, h2.same t, h3.same t, h4.same t, r⟩
theorem BoxV.of {H : Hp} {v : V} {xs ys xs' ys' : List Rat} (h : BoxV H v xs ys) (e1 : ∀ q, q ∈ xs ↔ q ∈ xs') (e2 : ∀ q, q ∈ ys ↔ q ∈ ys') : BoxV H v xs' ys' := by
  obtain ⟨a, v1, v2, v3, v4, q1, q2, q3, q4, rfl, h0, h1, h2, h3, h4, r1, r2, r3, r4⟩ := h
  exact ⟨a, v1, v2, v3, v4, q1, q2, q3, q4, rfl, h0, h1, h2, h3, h4, r1.of e1, r2.of e2, r3.of e1, r4.of e2⟩
/-! ### lists of whole numbers -/
end Cv

namespace Cv
open PySem PySem.Spec PyProof.Rows L2
/-! ### list(zip(a, b)): a zip whose tuples are kept -/
section
variable {prog : Program} {w : World} {A : Around} {E : Value → Shared → Prop} {s : Shared}
theorem alive_ok {a : Addr} {o : Obj} {Q : Option Obj → Shared → Prop} (ho : s.heap.get? a = some o) (h : Q (some o) s) : wpAny (model prog w) A (loadIfAlive a) Q E s := fun Γ p _ => by
  show Sem.wp _ _ (Sem.loadIfAlive a Sem.pure) _ _ _ _
  rw [Sem.wp_loadIfAlive, ho]
  exact h
noncomputable abbrev ZipK (h : Heap) (z TI TO T : Addr) (b : Bool) : Prop :=
  h.get? z = some { cls := .type "zip", dict := none, data := .fields #[rawInt T, .bool b, .bool false, .ref TI, .ref TO], slots := #[] }
theorem kept_busy {z TI TO T : Addr} {b : Bool} {o : Obj} {Q : Bool → Shared → Prop} (hz : ZipK s.heap z TI TO T b) (hT : s.heap.get? T = some o) (hQ : ∀ h', ZipK h' z TI TO T true → Heap.SameBut z s.heap h' → Q false { s with heap := h' }) :
    wpAny (model prog w) A (Builtin.SmallTypes.ownedTupleIsFree (.ref z)) Q E s := by
  unfold Builtin.SmallTypes.ownedTupleIsFree
  refine wpAny_bind (wpAny_field hz rfl (x := rawInt T) rfl ?_)
  show wpAny _ _ (loadIfAlive ((T : Int)).toNat >>= _) _ _ _
  rw [Int.toNat_natCast]
  refine wpAny_bind (alive_ok hT ?_)
  simp only [Option.isNone_some, Bool.false_eq_true, if_false]
  refine wpAny_bind (wpAny_field hz rfl (x := .bool b) rfl ?_)
  cases b with
  | true =>
    show wpAny _ _ (pure false) _ _ _
    exact wpAny_pure (hQ s.heap hz (Heap.SameBut.refl ..))
  | false =>
    show wpAny _ _ (setField (.ref z) 1 (.bool true) >>= _) _ _ _
    exact wpAny_bind (wpAny_setField_rec hz (by simp) fun h' hz' hs' => wpAny_pure (hQ h' hz' hs'))
theorem kept_item {z TI TO T i1 i2 l1 l2 : Addr} {k1 k2 : Nat} {b : Bool} {o : Obj} {xs ys : Array Value} {x y : Value} {Q : Value → Shared → Prop} (D : ZipApart z TI TO i1 i2 l1 l2)
    (hz : ZipK s.heap z TI TO T b) (hT : s.heap.get? T = some o) (hTI : IsPair s.heap TI (.ref i1) (.ref i2))
    (h1 : s.heap.IsListIter i1 l1 k1) (h2 : s.heap.IsListIter i2 l2 k2) (hl1 : s.heap.IsList l1 xs) (hl2 : s.heap.IsList l2 ys) (hx : xs[k1]? = some x) (hy : ys[k2]? = some y)
    (hQ : ∀ h', ZipK h' z TI TO T true → h'.IsListIter i1 l1 (k1 + 1) → h'.IsListIter i2 l2 (k2 + 1) → IsPair h' s.heap.objs.size x y →
      (∀ c o, c ≠ z → c ≠ i1 → c ≠ i2 → s.heap.get? c = some o → h'.get? c = some o) → Q (.ref s.heap.objs.size) { s with heap := h' }) :
    wpAny (model prog w) A (Builtin.«zip.__next__» ⟨[.ref z], []⟩) (fun fin s' => ∃ v, fin = .done (.ret v) ∧ Q v s') E s := by
  show wpAny _ _ (field (.ref z) 2 >>= _) _ _ _
  refine wpAny_bind (wpAny_field hz rfl (x := .bool false) rfl ?_)
  show wpAny _ _ (field (.ref z) 3 >>= _) _ _ _
  refine wpAny_bind (wpAny_field hz rfl (x := .ref TI) rfl ?_)
  refine wpAny_bind (wpAny_seqItems hTI rfl ?_)
  show wpAny _ _ (Builtin.SmallTypes.ownedTupleIsFree (.ref z) >>= _) _ _ _
  refine wpAny_bind (kept_busy hz hT fun hA zA sA => ?_)
  simp only [Bool.false_eq_true, if_false]
  refine wpAny_bind ?_
  simp only [List.forIn_toArray, List.forIn_cons, List.forIn_nil]
  refine wpAny_bind (wpAny_bind (wpAny_holding ?_))
  show wpAny _ _ (Builtin.SmallTypes.nextOf (.ref i1) >>= _) _ _ _
  refine wpAny_bind (wpAny_nextOf_list_item (h1.extBut sA.extBut D.i1z) (hl1.extBut sA.extBut D.l1z) hx fun hB iB sB => wpAny_pure (wpAny_pure ?_))
  refine wpAny_bind (wpAny_bind (wpAny_holding ?_))
  show wpAny _ _ (Builtin.SmallTypes.nextOf (.ref i2) >>= _) _ _ _
  refine wpAny_bind (wpAny_nextOf_list_item ((h2.extBut sA.extBut D.i2z).extBut sB.extBut D.i12.symm) ((hl2.extBut sA.extBut D.l2z).extBut sB.extBut D.l2i1) hy fun hC iC sC => wpAny_pure (wpAny_pure (wpAny_pure ?_)))
  have hsz : hC.objs.size = s.heap.objs.size := by rw [sC.1, sB.1, sA.1]
  have up : ∀ c o, c ≠ z → c ≠ i1 → c ≠ i2 → s.heap.get? c = some o → hC.get? c = some o := fun c o c1 c3 c4 e => sC.extBut _ _ c4 (sB.extBut _ _ c3 (sA.extBut _ _ c1 e))
  have zC : ZipK hC z TI TO T true := sC.extBut _ _ D.i2z.symm (sB.extBut _ _ D.i1z.symm zA)
  have i1C : hC.IsListIter i1 l1 (k1 + 1) := iB.extBut sC.extBut D.i12
  show wpAny _ _ (newTuple [x, y] >>= _) _ _ _
  refine wpAny_bind (wpAny_newTuple (wpAny_pure ⟨_, rfl, ?_⟩))
  show Q (.ref hC.objs.size) _
  rw [hsz]
  refine hQ _ (Heap.get?_push_of_some _ zC) (i1C.at fun o e => Heap.get?_push_of_some _ e) (iC.at fun o e => Heap.get?_push_of_some _ e) ?_ fun c o c1 c3 c4 e => Heap.get?_push_of_some _ (up c o c1 c3 c4 e)
  rw [← hsz]
  exact Heap.get?_push_size _ rfl
theorem kept_end {z TI TO T i1 i2 l1 l2 : Addr} {k1 k2 : Nat} {b : Bool} {o : Obj} {xs ys : Array Value} {Q : Fin → Shared → Prop} (hh : A.handled = none) (D : ZipApart z TI TO i1 i2 l1 l2)
    (hz : ZipK s.heap z TI TO T b) (hT : s.heap.get? T = some o) (hTI : IsPair s.heap TI (.ref i1) (.ref i2))
    (h1 : s.heap.IsListIter i1 l1 k1) (h2 : s.heap.IsListIter i2 l2 k2) (hl1 : s.heap.IsList l1 xs) (hl2 : s.heap.IsList l2 ys) (hend : xs[k1]? = none ∨ ys[k2]? = none)
    (hE : ∀ h' e, (∀ c o, c ≠ z → c ≠ i1 → c ≠ i2 → s.heap.get? c = some o → h'.get? c = some o) → (∃ o, h'.get? e = some o ∧ o.cls = .type "StopIteration") → E (.ref e) { s with heap := h' }) :
    wpAny (model prog w) A (Builtin.«zip.__next__» ⟨[.ref z], []⟩) Q E s := by
  show wpAny _ _ (field (.ref z) 2 >>= _) _ _ _
  refine wpAny_bind (wpAny_field hz rfl (x := .bool false) rfl ?_)
  show wpAny _ _ (field (.ref z) 3 >>= _) _ _ _
  refine wpAny_bind (wpAny_field hz rfl (x := .ref TI) rfl ?_)
  refine wpAny_bind (wpAny_seqItems hTI rfl ?_)
  show wpAny _ _ (Builtin.SmallTypes.ownedTupleIsFree (.ref z) >>= _) _ _ _
  refine wpAny_bind (kept_busy hz hT fun hA zA sA => ?_)
  simp only [Bool.false_eq_true, if_false]
  refine wpAny_bind ?_
  simp only [List.forIn_toArray, List.forIn_cons, List.forIn_nil]
  refine wpAny_bind (wpAny_bind (wpAny_holding ?_))
  show wpAny _ _ (Builtin.SmallTypes.nextOf (.ref i1) >>= _) _ _ _
  cases hx : xs[k1]? with
  | none =>
    refine wpAny_bind (wpAny_nextOf_list_end hh (h1.extBut sA.extBut D.i1z) (hl1.extBut sA.extBut D.l1z) hx fun hB e sB he => ?_)
    exact hE hB e (fun c o c1 c3 _ q => sB _ _ c3 (sA.extBut _ _ c1 q)) he
  | some x =>
    have hy : ys[k2]? = none := by
      rcases hend with q | q
      · rw [hx] at q; cases q
      · exact q
    refine wpAny_bind (wpAny_nextOf_list_item (h1.extBut sA.extBut D.i1z) (hl1.extBut sA.extBut D.l1z) hx fun hB iB sB => wpAny_pure (wpAny_pure ?_))
    refine wpAny_bind (wpAny_bind (wpAny_holding ?_))
    show wpAny _ _ (Builtin.SmallTypes.nextOf (.ref i2) >>= _) _ _ _
    refine wpAny_bind (wpAny_nextOf_list_end hh ((h2.extBut sA.extBut D.i2z).extBut sB.extBut D.i12.symm) ((hl2.extBut sA.extBut D.l2z).extBut sB.extBut D.l2i1) hy fun hC e sC he => ?_)
    exact hE hC e (fun c o c1 c3 c4 q => sC _ _ c4 (sB.extBut _ _ c3 (sA.extBut _ _ c1 q))) he
/-- a zip that stands at turn i, its first tuple perhaps kept -/
noncomputable def ZSt (z TI TO i1 i2 l1 l2 : Addr) (i : Nat) (h : Heap) : Prop :=
  (IsZip h z TI TO .none ∨ ∃ T b o, ZipK h z TI TO T b ∧ h.get? T = some o ∧ T ≠ z ∧ T ≠ TO ∧ T ≠ i1 ∧ T ≠ i2) ∧ (∃ a b, IsPair h TO a b) ∧ IsPair h TI (.ref i1) (.ref i2) ∧ h.IsListIter i1 l1 i ∧ h.IsListIter i2 l2 i
theorem zst_item {z TI TO i1 i2 l1 l2 : Addr} {i : Nat} {xs ys : Array Value} {x y : Value} {Q : Option Value → Shared → Prop} (D : ZipApart z TI TO i1 i2 l1 l2) (st : ZSt z TI TO i1 i2 l1 l2 i s.heap)
    (hl1 : s.heap.IsList l1 xs) (hl2 : s.heap.IsList l2 ys) (hx : xs[i]? = some x) (hy : ys[i]? = some y)
    (hQ : ∀ h', ZSt z TI TO i1 i2 l1 l2 (i + 1) h' → IsPair h' s.heap.objs.size x y → (∀ c o, c ≠ z → c ≠ TO → c ≠ i1 → c ≠ i2 → s.heap.get? c = some o → h'.get? c = some o) → Q (some (.ref s.heap.objs.size)) { s with heap := h' }) :
    wpAny (model prog w) A (pyNext (.ref z)) Q E s := by
  obtain ⟨hm, ⟨a, b', hTO⟩, hTI, h1, h2⟩ := st
  rcases hm with hz | ⟨T, b, o, hz, hT, t1, t2, t3, t4⟩
  · have neT : ∀ {c o}, s.heap.get? c = some o → s.heap.objs.size ≠ c := fun e => Nat.ne_of_gt (Heap.lt_size e)
    obtain ⟨o1, e1, _⟩ := id h1
    obtain ⟨o2, e2, _⟩ := id h2
    refine wpAny_pyNext_zip_item D hz hTI hTO h1 h2 hl1 hl2 hx hy fun h' a1 a2 a3 a4 a5 a6 a7 => hQ h' ⟨.inr ⟨_, _, _, a1, a5, neT hz, neT hTO, neT e1, neT e2⟩, ⟨_, _, a2⟩, a7 _ _ D.TIz D.TITO D.TIi1 D.TIi2 hTI, a3, a4⟩ a5 a7
  · have hTy : s.TypeIs (.ref z) "zip" := ⟨_, hz, rfl⟩
    unfold pyNext
    refine wpAny_bind (wpAny_attempt (wpAny_callSpecial?_slot (name := Str.ofString "__next__") hTy F.slot_zip_next
      (wpAny_call_entry F.slot_zip_next hTy F.entry_zip_next (kept_item D hz hT hTI h1 h2 hl1 hl2 hx hy fun h' a1 a3 a4 a5 a7 => wpAny_pure (hQ h' ⟨.inr ⟨T, _, o, a1, a7 T o t1 t3 t4 hT, t1, t2, t3, t4⟩, ⟨a, b', a7 _ _ D.TOz D.TOi1 D.TOi2 hTO⟩, a7 _ _ D.TIz D.TIi1 D.TIi2 hTI, a3, a4⟩ a5 fun c o c1 _ c3 c4 e => a7 c o c1 c3 c4 e)) (F.args_zip_next_1 _))))
theorem zst_end {z TI TO i1 i2 l1 l2 : Addr} {i : Nat} {xs ys : Array Value} {Q : Option Value → Shared → Prop} (hh : A.handled = none) (D : ZipApart z TI TO i1 i2 l1 l2) (st : ZSt z TI TO i1 i2 l1 l2 i s.heap)
    (hl1 : s.heap.IsList l1 xs) (hl2 : s.heap.IsList l2 ys) (hend : xs[i]? = none ∨ ys[i]? = none)
    (hQ : ∀ h', (∀ c o, c ≠ z → c ≠ TO → c ≠ i1 → c ≠ i2 → s.heap.get? c = some o → h'.get? c = some o) → Q none { s with heap := h' }) :
    wpAny (model prog w) A (pyNext (.ref z)) Q E s := by
  obtain ⟨hm, ⟨a, b', hTO⟩, hTI, h1, h2⟩ := st
  rcases hm with hz | ⟨T, b, o, hz, hT, t1, t2, t3, t4⟩
  · exact wpAny_pyNext_zip_end hh D hz hTI hTO h1 h2 hl1 hl2 hend hQ
  · have hTy : s.TypeIs (.ref z) "zip" := ⟨_, hz, rfl⟩
    unfold pyNext
    refine wpAny_bind (wpAny_attempt (wpAny_callSpecial?_slot (name := Str.ofString "__next__") hTy F.slot_zip_next
      (wpAny_call_entry F.slot_zip_next hTy F.entry_zip_next (kept_end hh D hz hT hTI h1 h2 hl1 hl2 hend fun h' e hk he => ?_) (F.args_zip_next_1 _))))
    obtain ⟨oe, ho, hc⟩ := he
    refine wpAny_bind (wpAny_isInstance (T := "StopIteration") (b := true) ⟨oe, ho, hc⟩ isSubtype_stop ?_)
    exact wpAny_pure (hQ _ fun c o c1 _ c3 c4 q => hk c o c1 c3 c4 q)
end
theorem SqL.aside {K : PySem.W.Frag} {H : Hp} {a S : Addr} {o : HO} {xs : List V} (h : SqL K H a xs) (ne : a ≠ S) : SqL K (upd H S o) a xs := by
  rcases h with (h | ⟨ob, h⟩) | h
  · exact .inl (.inl (by rw [upd_ne ne]; exact h))
  · exact .inl (.inr ⟨ob, by rw [upd_ne ne]; exact h⟩)
  · exact .inr h
noncomputable def PairsL (H : Hp) (us xs ys : List V) : Prop := ∀ (j : Nat) v, us[j]? = some v → ∃ T, v = .ref T ∧ H T = some (.tup [(xs[j]?).getD .non, (ys[j]?).getD .non])
section
variable {X : Cx} {pins : List (Addr × Obj)} {σ : L2.St} {A : Around}
theorem ext_zip {R : Result → Shared → Prop} {z TI TO i1 i2 l1 l2 S : Addr} {xs ys : List V} (hh : A.handled = none) (D : ZipApart z TI TO i1 i2 l1 l2) (n1 : l1 ≠ S) (n2 : l2 ≠ S) (nf : S ∉ [z, TI, TO, i1, i2]) (hsz : xs.length ≤ 100000) (res : Value) :
    ∀ (k i : Nat) (s : Shared) (H : Hp) (us : List V), min xs.length ys.length - i = k → i ≤ min xs.length ys.length → Inv X pins σ H s → (∀ b ∈ [z, TI, TO, i1, i2], FpOk X pins H b) → ZSt z TI TO i1 i2 l1 l2 i s.heap → SqL X.K H l1 xs → SqL X.K H l2 ys →
    H S = some (.lst us) → us.length = i → PairsL H us xs ys →
    (∀ s' H' us', Inv X pins σ H' s' → (∀ b o, b ≠ S → H b = some o → H' b = some o) → H' S = some (.lst us') → us'.length = min xs.length ys.length → PairsL H' us' xs ys → R (.ok (.ret res)) s') →
    codeAny (model X.prog X.w) A (.builtin "list.extend.loop" ⟨[.ref S, .ref z, res], []⟩) R s := by
  intro k
  induction k with
  | zero =>
    intro i s H us hk hi I hf st q1 q2 hS hul hp hR
    have hin : i = min xs.length ys.length := by omega
    obtain ⟨its1, rv1, p1, _⟩ := I.list q1
    obtain ⟨its2, rv2, p2, _⟩ := I.list q2
    have r1 := rv1.length
    have r2 := rv2.length
    refine codeAny_builtin F.entry_extend_loop ?_
    rw [Around.under_plainId F.plain_extend_loop _]
    show wpAny _ A.in1 (pyNext (.ref z) >>= _) _ _ s
    refine wpAny_bind (zst_end (A := A.in1) hh D st p1.isList p2.isList ?_ fun h' kk => ?_)
    · rcases Nat.le_total its1.length its2.length with q | q
      · exact .inl (by simp; omega)
      · exact .inr (by simp; omega)
    have I1 : Inv X pins σ H { s with heap := h', toks := s.toks } := turnedL I hf fun b o hb e => by
      simp only [List.mem_cons, List.not_mem_nil, or_false, not_or] at hb
      exact kk b o hb.1 hb.2.2.1 hb.2.2.2.1 hb.2.2.2.2 e
    exact wpAny_pure (hR _ H us I1 (fun _ _ _ e => e) hS (by omega) hp)
  | succ k ih =>
    intro i s H us hk hi I hf st q1 q2 hS hul hp hR
    have hlt : i < min xs.length ys.length := by omega
    obtain ⟨its1, rv1, p1, _⟩ := I.list q1
    obtain ⟨its2, rv2, p2, _⟩ := I.list q2
    have ex : xs[i]? = some (xs[i]'(by omega)) := List.getElem?_eq_getElem _
    have ey : ys[i]? = some (ys[i]'(by omega)) := List.getElem?_eq_getElem _
    obtain ⟨u1, hu1, ru1⟩ := rv1.get ex
    obtain ⟨u2, hu2, ru2⟩ := rv2.get ey
    refine codeAny_builtin F.entry_extend_loop ?_
    rw [Around.under_plainId F.plain_extend_loop _]
    show wpAny _ A.in1 (pyNext (.ref z) >>= _) _ _ s
    refine wpAny_bind (zst_item (A := A.in1) D st p1.isList p2.isList (x := u1) (y := u2) (by simpa using hu1) (by simpa using hu2) fun h' st' pr kk => ?_)
    have hT : H s.heap.objs.size = none := I.hok.fresh (Nat.le_refl _)
    have kk' : ∀ b o, b ∉ [z, TI, TO, i1, i2] → s.heap.get? b = some o → h'.get? b = some o := fun b o hb e => by
      simp only [List.mem_cons, List.not_mem_nil, or_false, not_or] at hb
      exact kk b o hb.1 hb.2.2.1 hb.2.2.2.1 hb.2.2.2.2 e
    have I1 := turnedLay (t' := s.toks) (a := s.heap.objs.size) (o := .tup [xs[i]'(by omega), ys[i]'(by omega)]) (h' := h') I hf kk' (Nat.le_refl _) ⟨by show 2 ≤ sizeLine; decide, [u1, u2], .cons ru1 (.cons ru2 .nil), ⟨_, pr, rfl, _, rfl⟩⟩
    have neS : S ≠ s.heap.objs.size := ne_of_none hS hT
    have hS1 : (upd H s.heap.objs.size (.tup [xs[i]'(by omega), ys[i]'(by omega)])) S = some (.lst us) := by rw [upd_ne neS]; exact hS
    obtain ⟨_, its, nn, rv, eS⟩ := (show ObjOk X.prog X.w _ h' S (.lst us) from I1.hok S _ hS1)
    have rl := rv.length
    show wpAny _ A.in1 (updateSeq S (·.push (.ref s.heap.objs.size)) >>= _) _ _ _
    refine wpAny_bind (wpAny_updateSeq eS rfl (wpAny_pure ⟨plainId_quiet F.plain_extend_loop _, ?_⟩) (by simp; rw [← rl, hul]; exact small_line (by omega) |> Nat.le_of_lt) (by simp; rw [← rl, hul]; have := small_line (n := i) (by omega); omega))
    have oth : ∀ b o, b ≠ S → h'.get? b = some o → (h'.update S (Obj.mapSeq (·.push (.ref s.heap.objs.size)))).get? b = some o := fun b o hb e => (Heap.get?_update_other _ _ (Ne.symm hb)).trans e
    have eS2 := Heap.get?_update_self (Obj.mapSeq (·.push (Value.ref s.heap.objs.size))) eS rfl
    obtain ⟨c', eS3⟩ : ∃ c', (h'.update S (Obj.mapSeq (·.push (Value.ref s.heap.objs.size)))).get? S = some { cls := .type "list", data := .seq (its ++ [Value.ref s.heap.objs.size]).toArray c' } := ⟨_, by rw [eS2]; simp [Obj.mapSeq]; rfl⟩
    have I2 : Inv X pins σ (upd (upd H s.heap.objs.size (.tup [xs[i]'(by omega), ys[i]'(by omega)])) S (.lst (us ++ [.ref s.heap.objs.size]))) { s with heap := h'.update S (Obj.mapSeq (·.push (.ref s.heap.objs.size))), toks := s.toks } := by
      refine Inv.write (s := { s with heap := h', toks := s.toks }) (x := S) (e := S) I1 ?_ (.inl rfl) oth ⟨_, eS2⟩ ⟨?_, its ++ [.ref s.heap.objs.size], c', rv.append (.cons (show RelV (.ref s.heap.objs.size) (Value.ref s.heap.objs.size) from rfl) .nil), eS3⟩
      · rw [hS1]; trivial
      · rw [List.length_append]; exact Nat.le_of_lt (small_line (by simp; omega))
    obtain ⟨hm, ⟨oa, ob, hTO⟩, hTI, hi1, hi2⟩ := id st
    have ltz : z < s.heap.objs.size := by
      rcases hm with q | ⟨_, _, _, q, _⟩
      · exact Heap.lt_size q
      · exact Heap.lt_size q
    have lt1 : i1 < s.heap.objs.size := by obtain ⟨_, e, _⟩ := hi1; exact Heap.lt_size e
    have lt2 : i2 < s.heap.objs.size := by obtain ⟨_, e, _⟩ := hi2; exact Heap.lt_size e
    have ltf : ∀ b ∈ [z, TI, TO, i1, i2], b ≠ s.heap.objs.size := fun b hb => by
      simp only [List.mem_cons, List.not_mem_nil, or_false] at hb
      rcases hb with rfl | rfl | rfl | rfl | rfl
      · exact Nat.ne_of_lt ltz
      · exact Nat.ne_of_lt (Heap.lt_size hTI)
      · exact Nat.ne_of_lt (Heap.lt_size hTO)
      · exact Nat.ne_of_lt lt1
      · exact Nat.ne_of_lt lt2
    have ns : ∀ b ∈ [z, TI, TO, i1, i2], b ≠ S := fun b hb e => nf (e ▸ hb)
    have a1 : l1 ≠ s.heap.objs.size := by obtain ⟨_, e, _⟩ := p1.isList; exact Nat.ne_of_lt (Heap.lt_size e)
    have a2 : l2 ≠ s.heap.objs.size := by obtain ⟨_, e, _⟩ := p2.isList; exact Nat.ne_of_lt (Heap.lt_size e)
    refine ih (i + 1) _ _ (us ++ [.ref s.heap.objs.size]) (by omega) hlt I2 (fun b hb => ?_) ?_ (Cv.SqL.aside (Cv.SqL.aside q1 a1) n1) (Cv.SqL.aside (Cv.SqL.aside q2 a2) n2) upd_same (by rw [List.length_append, hul]; rfl) (fun j v e => ?_) fun s' H' us' I' e1 e2 e3 e4 => hR s' H' us' I' (fun b o hb e => e1 b o hb ?_) e2 e3 e4
    · obtain ⟨f0, fr⟩ := hf b hb
      exact ⟨by rw [upd_ne (ns b hb), upd_ne (ltf b hb)]; exact f0, fr⟩
    · obtain ⟨hm', ⟨pa, pb, hTO'⟩, hTI', hi1', hi2'⟩ := st'
      refine ⟨?_, ⟨pa, pb, oth _ _ (ns TO (by simp)) hTO'⟩, oth _ _ (ns TI (by simp)) hTI', hi1'.at fun o e => oth _ o (ns i1 (by simp)) e, hi2'.at fun o e => oth _ o (ns i2 (by simp)) e⟩
      rcases hm' with q | ⟨T, b, o, q, qT, t1, t2, t3, t4⟩
      · exact .inl (oth _ _ (ns z (by simp)) q)
      · by_cases hTS : T = S
        · exact .inr ⟨T, b, _, oth _ _ (ns z (by simp)) q, by rw [hTS]; exact eS2, t1, t2, t3, t4⟩
        · exact .inr ⟨T, b, o, oth _ _ (ns z (by simp)) q, oth _ _ hTS qT, t1, t2, t3, t4⟩
    · by_cases hj : j < us.length
      · rw [List.getElem?_append_left hj] at e
        obtain ⟨T, rfl, hT'⟩ := hp j v e
        refine ⟨T, rfl, ?_⟩
        have c1 : T ≠ S := fun q => by rw [q, hS] at hT'; cases hT'
        rw [upd_ne c1, upd_ne (ne_of_none hT' hT)]; exact hT'
      · rw [List.getElem?_append_right (by omega)] at e
        have hj0 : j - us.length = 0 := by
          cases q : j - us.length with
          | zero => rfl
          | succ k => rw [q] at e; simp at e
        rw [hj0] at e
        have e' : V.ref s.heap.objs.size = v := by simpa using e
        have hji : j = i := by omega
        subst hji
        refine ⟨_, e'.symm, ?_⟩
        rw [upd_ne (Ne.symm neS), upd_same, ex, ey]; rfl
    · rw [upd_ne hb, upd_ne (ne_of_none e hT)]; exact e
theorem zip_no_len : typeLookup (.type "zip") "__len__" = pure none := by rw [typeLookup_type, builtinLookup_eq_fast]; kernel_rfl
theorem zip_no_hint : typeLookup (.type "zip") "__length_hint__" = pure none := by rw [typeLookup_type, builtinLookup_eq_fast]; kernel_rfl
/-- list(zip(a, b)) -/
noncomputable def tZipL (K : PySem.W.Frag) (ta : TA) : TE := fun σ H Q => ta σ H fun vs H1 => ∃ (l1 l2 : Addr) (xs ys : List V), vs = [.ref l1, .ref l2] ∧ SqL K H1 l1 xs ∧ SqL K H1 l2 ys ∧ xs.length ≤ 100000 ∧
  ∀ (l : Addr) (us : List V) (H2 : Hp), H1 l = none → Same H1 H2 → H2 l = some (.lst us) → us.length = min xs.length ys.length → PairsL H2 us xs ys → Q (.ref l) H2
theorem list_zip {s : Shared} {H : Hp} {E : Value → Shared → Prop} {z TI TO i1 i2 l1 l2 : Addr} {xs ys : List V} {Q : Value → Shared → Prop} (hh : A.handled = none) (D : ZipApart z TI TO i1 i2 l1 l2) (I : Inv X pins σ H s) (hf : ∀ b ∈ [z, TI, TO, i1, i2], FpOk X pins H b)
    (st : ZSt z TI TO i1 i2 l1 l2 0 s.heap) (hTy : s.TypeIs (.ref z) "zip") (q1 : SqL X.K H l1 xs) (q2 : SqL X.K H l2 ys) (hsz : xs.length ≤ 100000)
    (hQ : ∀ s' H' us, Inv X pins σ H' s' → H s.heap.objs.size = none → (∀ b o, H b = some o → H' b = some o) → H' s.heap.objs.size = some (.lst us) → us.length = min xs.length ys.length → PairsL H' us xs ys → Q (.ref s.heap.objs.size) s') :
    wpAny (model X.prog X.w) A (call (.type "list") [.ref z]) Q E s := by
  refine callType_codes (Q₁ := fun obj s₁ => obj = .ref s.heap.objs.size ∧ s₁ = { s with heap := s.heap.push { cls := .type "list", data := .seq #[] } }) F.called_list (F.typeCall_list_1 _) F.entry_list_init
    (code_list_new _ ⟨rfl, rfl⟩) fun obj s₁ h₁ => ?_
  obtain ⟨rfl, rfl⟩ := h₁
  have hS : (s.heap.push { cls := .type "list", data := .seq #[] }).get? s.heap.objs.size = some { cls := .type "list", data := .seq #[] } := Heap.get?_push_size _ rfl
  refine ⟨⟨_, hS, rfl⟩, F.args_list_init_2 _ _, ?_⟩
  show wpAny _ _ (do let old ← Builtin.List.listItems (.ref s.heap.objs.size); Builtin.List.listUpdate (.ref s.heap.objs.size) (fun _ => #[]); letGo old.toList.reverse; Builtin.List.listExtendWith (.ref s.heap.objs.size) (.ref z) .none) _ _ _
  refine wpAny_bind ?_
  unfold Builtin.List.listItems
  refine wpAny_bind (wpAny_seqItems hS rfl (wpAny_pure ?_))
  show wpAny _ _ (updateSeq s.heap.objs.size (fun _ => #[]) >>= fun _ => letGo (#[] : Array Value).toList.reverse >>= fun _ => Builtin.List.listExtendWith (.ref s.heap.objs.size) (.ref z) .none) _ _ _
  refine wpAny_bind (wpAny_updateSeq hS rfl ?_)
  have hS2 := Heap.get?_update_self (Obj.mapSeq (fun _ => (#[] : Array Value))) hS rfl
  refine wpAny_bind (wpAny_letGo ?_)
  have old1 : ∀ b o, s.heap.get? b = some o → ((s.heap.push { cls := .type "list", data := .seq #[] }).update s.heap.objs.size (Obj.mapSeq (fun _ => (#[] : Array Value)))).get? b = some o :=
    fun b o e => (Heap.get?_update_other _ _ (Nat.ne_of_gt (Heap.lt_size e))).trans (Heap.get?_push_of_some _ e)
  have hTy2 : Shared.TypeIs { s with heap := (s.heap.push { cls := .type "list", data := .seq #[] }).update s.heap.objs.size (Obj.mapSeq (fun _ => (#[] : Array Value))) } (.ref z) "zip" := by
    obtain ⟨o, ho, hc⟩ := hTy
    exact ⟨o, old1 _ _ ho, hc⟩
  have ltz : z < s.heap.objs.size := by obtain ⟨o, ho, hc⟩ := hTy; exact Heap.lt_size ho
  unfold Builtin.List.listExtendWith
  refine wpAny_bind (wpAny_typeOf hTy2 ?_)
  have h1 : Builtin.List.listSameRef (.ref s.heap.objs.size) (.ref z) = false := by simp [Builtin.List.listSameRef]; exact Nat.ne_of_gt ltz
  have h2 : (Value.type "zip" == Value.type "list") = false := by decide
  have h3 : (Value.type "zip" == Value.type "tuple") = false := by decide
  simp only [h1, h2, h3, Bool.or_false, Bool.false_eq_true, if_false]
  obtain ⟨hm, hTO, hTI, hi1, hi2⟩ := id st
  have hz0 : ∃ f0 f1, s.heap.get? z = some { cls := .type "zip", dict := none, data := .fields #[f0, f1, .bool false, .ref TI, .ref TO], slots := #[] } := by
    rcases hm with q | ⟨_, _, _, q, _⟩
    · exact ⟨_, _, q⟩
    · exact ⟨_, _, q⟩
  refine wpAny_bind (wpAny_pyIter_slot hTy2 F.slot_zip_iter (wpAny_call_entry F.slot_zip_iter hTy2 F.entry_zip_iter ?_ (F.args_zip_iter_1 _)))
  show wpAny _ _ (ret (.ref z)) _ _ _
  refine wpAny_pure ⟨_, rfl, "zip", _, hTy2, F.slot_zip_next.lookup, ?_⟩
  refine wpAny_bind (wpAny_holding ?_)
  unfold Builtin.List.listLengthHint
  refine wpAny_bind (wpAny_specialOf hTy2 zip_no_len ?_)
  show wpAny _ _ (specialOf (Value.ref z) (Str.ofString "__length_hint__") >>= _) _ _ _
  refine wpAny_bind (wpAny_specialOf hTy2 zip_no_hint ?_)
  refine wpAny_pure ?_
  show wpAny _ _ (rule "list.extend.makes-room" >>= fun _ => Builtin.List.listTouch (.ref s.heap.objs.size) >>= fun _ => again (.builtin "list.extend.loop" ⟨[.ref s.heap.objs.size, .ref z, .none], []⟩)) _ _ _
  refine wpAny_bind (wpAny_rule ?_)
  refine wpAny_bind ?_
  show wpAny _ _ (updateSeq s.heap.objs.size (·.push .none) >>= fun _ => updateSeq s.heap.objs.size (·.pop)) _ _ _
  refine wpAny_bind (wpAny_updateSeq hS2 rfl ?_)
  have hS3 := Heap.get?_update_self (Obj.mapSeq (·.push Value.none)) hS2 rfl
  refine wpAny_updateSeq hS3 rfl ?_
  have hS4 := Heap.get?_update_self (Obj.mapSeq (·.pop)) hS3 rfl
  have old : ∀ b o, s.heap.get? b = some o → ((((s.heap.push { cls := .type "list", data := .seq #[] }).update s.heap.objs.size (Obj.mapSeq (fun _ => (#[] : Array Value)))).update s.heap.objs.size (Obj.mapSeq (·.push Value.none))).update s.heap.objs.size (Obj.mapSeq (·.pop))).get? b = some o :=
    fun b o e => (Heap.get?_update_other _ _ (Nat.ne_of_gt (Heap.lt_size e))).trans ((Heap.get?_update_other _ _ (Nat.ne_of_gt (Heap.lt_size e))).trans (old1 b o e))
  have hn : H s.heap.objs.size = none := I.hok.fresh (Nat.le_refl _)
  have I1 := I.laid (t' := s.toks) (o := .lst []) old (Nat.le_refl _) ⟨Nat.zero_le _, [], _, .nil, hS4⟩
  obtain ⟨its1, rv1, p1, _⟩ := I.list q1
  obtain ⟨its2, rv2, p2, _⟩ := I.list q2
  have a1 : l1 ≠ s.heap.objs.size := by obtain ⟨_, e, _⟩ := p1.isList; exact Nat.ne_of_lt (Heap.lt_size e)
  have a2 : l2 ≠ s.heap.objs.size := by obtain ⟨_, e, _⟩ := p2.isList; exact Nat.ne_of_lt (Heap.lt_size e)
  have ltf : ∀ b ∈ [z, TI, TO, i1, i2], b ≠ s.heap.objs.size := fun b hb => by
    simp only [List.mem_cons, List.not_mem_nil, or_false] at hb
    rcases hb with rfl | rfl | rfl | rfl | rfl
    · exact Nat.ne_of_lt ltz
    · exact Nat.ne_of_lt (Heap.lt_size hTI)
    · obtain ⟨_, _, q⟩ := hTO; exact Nat.ne_of_lt (Heap.lt_size q)
    · obtain ⟨_, q, _⟩ := hi1; exact Nat.ne_of_lt (Heap.lt_size q)
    · obtain ⟨_, q, _⟩ := hi2; exact Nat.ne_of_lt (Heap.lt_size q)
  refine wpAny_pure ⟨plainId_quiet F.plain_extend_loop _, ext_zip (A := A.in1) hh D a1 a2 (fun hb => ltf _ hb rfl) hsz .none _ 0 _ _ [] rfl (Nat.zero_le _) I1 (fun b hb => ?_) ?_ (Cv.SqL.aside q1 a1) (Cv.SqL.aside q2 a2) upd_same rfl (fun j v e => by simp at e) fun s' H' us' I' e1 e2 e3 e4 => ?_⟩
  · obtain ⟨f0, fr⟩ := hf b hb
    exact ⟨by rw [upd_ne (ltf b hb)]; exact f0, fr⟩
  · obtain ⟨pa, pb, hTO'⟩ := hTO
    refine ⟨?_, ⟨pa, pb, old _ _ hTO'⟩, old _ _ hTI, hi1.at fun o e => old _ o e, hi2.at fun o e => old _ o e⟩
    rcases hm with q | ⟨T, b, o, q, qT, t⟩
    · exact .inl (old _ _ q)
    · exact .inr ⟨T, b, o, old _ _ q, old _ _ qT, t⟩
  · exact ⟨rfl, hQ s' H' us' I' hn (fun b o e => e1 b o (ne_of_none e hn) (by rw [upd_ne (ne_of_none e hn)]; exact e)) e2 e3 e4⟩
theorem pe_listzip {a b : Expr} {ta : TA} {p p2 pos pos2 : Pos} (hg : Gl X "list") (hm : X.mg "list" = none) (hg2 : Gl X "zip") (hm2 : X.mg "zip" = none) (ha : PA X [a, b] ta) (hc : X.calm = true := by rfl)
    (he : starEach [a, b] X.env = (false, eval a X.env) :: starEach [b] X.env := by rfl) (hpl : (backTo pos2 (starEach [b] X.env)).any (·.1) = false := by rfl)
    (he2 : starEach [.Call (.Name "zip" p2) [a, b] [] pos2] X.env = (false, eval (.Call (.Name "zip" p2) [a, b] [] pos2) X.env) :: starEach [] X.env := by rfl) (hpl2 : (backTo pos (starEach [] X.env)).any (·.1) = false := by rfl) :
    PE X (.Call (.Name "list" p) [.Call (.Name "zip" p2) [a, b] [] pos2] [] pos) (tZipL X.K ta) := by
  intro pins s σ H Q I h
  refine wpAny_Call_Name_kw (ld_blt I hg hm boot_list ?_ (by decide) (by decide))
  refine PyProof.Rows.callWith_type1 ?_ he2 hpl2
  rw [he2]
  refine Calls.spliced_cons ?_
  refine wpAny_Call_Name_kw (ld_blt I hg2 hm2 boot_zip ?_ (by decide) (by decide))
  refine PyProof.Rows.callWith_type1 (thn (ha pos2 pins s σ H _ I h) fun us s1 ⟨vs, H1, I1, r1, w1⟩ => ?_) he hpl
  obtain ⟨l1, l2, xs, ys, rfl, q1, q2, hsz, q⟩ := w1
  obtain ⟨u1, u2, rfl, e1, e2⟩ := vals_two r1
  cases e1; cases e2
  obtain ⟨its1, rv1, p1, hz1⟩ := I1.list q1
  obtain ⟨its2, rv2, p2, hz2⟩ := I1.list q2
  have a1 : l1 < s1.heap.objs.size := by obtain ⟨_, e, _⟩ := p1.isList; exact Heap.lt_size e
  have a2 : l2 < s1.heap.objs.size := by obtain ⟨_, e, _⟩ := p2.isList; exact Heap.lt_size e
  refine call_zip_2 p1.isList p2.isList fun h' hz hTI hTO hi1 hi2 hsz' hk => ?_
  refine Calls.spliced_nil ?_
  have I2 : Inv X pins σ H1 { s1 with heap := h', toks := s1.toks } := I1.kept hk
  have fp : ∀ b ∈ [s1.heap.objs.size + 4, s1.heap.objs.size + 2, s1.heap.objs.size + 3, s1.heap.objs.size, s1.heap.objs.size + 1], FpOk X pins H1 b := fun c hc => by
    have hge : s1.heap.objs.size ≤ c := by
      simp only [List.mem_cons, List.not_mem_nil, or_false] at hc
      rcases hc with rfl | rfl | rfl | rfl | rfl <;> omega
    exact I1.fpOk hge (I1.hok.fresh hge)
  refine list_zip (s := { s1 with heap := h', toks := s1.toks }) (I1.ok.hd hc) (zipApart_new a1 a2) I2 fp ⟨.inl hz, ⟨_, _, hTO⟩, hTI, hi1, hi2⟩ ⟨_, hz, rfl⟩ q1 q2 hsz fun s' H' us I' hn e1 e2 e3 e4 => ?_
  exact ⟨.ref _, H', I', rfl, q _ us H' hn e1 e2 e3 e4⟩
theorem pe_listzipI {a b : Expr} {ta : TA} {p p2 pos pos2 : Pos} (hg : Gl X "list") (hm : X.mg "list" = none) (hg2 : Gl X "zip") (hm2 : X.mg "zip" = none) (ha : PAi X [a, b] ta) (hc : X.calm = true := by rfl)
    (he : starEach [a, b] X.env = (false, eval a X.env) :: starEach [b] X.env := by rfl) (hpl : (backTo pos2 (starEach [b] X.env)).any (·.1) = false := by rfl)
    (he2 : starEach [.Call (.Name "zip" p2) [a, b] [] pos2] X.env = (false, eval (.Call (.Name "zip" p2) [a, b] [] pos2) X.env) :: starEach [] X.env := by rfl) (hpl2 : (backTo pos (starEach [] X.env)).any (·.1) = false := by rfl) :
    PEi X (.Call (.Name "list" p) [.Call (.Name "zip" p2) [a, b] [] pos2] [] pos) (tZipL X.K ta) := by with_unfolding_all exact pe_listzip (hg := hg) (hm := hm) (hg2 := hg2) (hm2 := hm2) (ha := ha) (hc := hc) (he := he) (hpl := hpl) (he2 := he2) (hpl2 := hpl2)
end
end Cv

namespace Cv
open PySem PySem.Spec PyProof.Rows L2
/-! ### powers of an axis: whole numbers -/
noncomputable def dlZ (g : Nat → Int) : Nat → Nat → Int
  | 0, i => g i
  | k + 1, i => dlZ g k (i + 1) - dlZ g k i
noncomputable def gI (l : List Int) (j : Nat) : Int := (l[j]?).getD 0
noncomputable def rowZ (l : List Int) (k : Nat) : List Int := (List.range (l.length - k)).map fun j => dlZ (gI l) k j
noncomputable def pwT (l : List Int) : List Int := (List.range l.length).map fun k => (ch (l.length - 1) k : Int) * dlZ (gI l) k 0
theorem rowZ_len (l : List Int) (k : Nat) : (rowZ l k).length = l.length - k := by unfold rowZ; simp
theorem rowZ_get {l : List Int} {k j : Nat} (h : j + k < l.length) : (rowZ l k)[j]? = some (dlZ (gI l) k j) := by
  unfold rowZ
  rw [List.getElem?_map, List.getElem?_range (by omega)]; rfl
theorem rowZ_zero (l : List Int) : rowZ l 0 = l := by
  refine List.ext_getElem? fun i => ?_
  by_cases h : i < l.length
  · rw [rowZ_get (by omega), List.getElem?_eq_getElem h]
    show some (gI l i) = _
    unfold gI
    rw [List.getElem?_eq_getElem h]; rfl
  · rw [List.getElem?_eq_none (by rw [rowZ_len]; omega), List.getElem?_eq_none (by omega)]
theorem dlZ_sz {n : Nat} {g : Nat → Int} : ∀ k i, (∀ j, j ≤ i + k → Sz n (g j)) → Sz (n + k) (dlZ g k i)
  | 0, i, h => h i (by omega)
  | k + 1, i, h => ((dlZ_sz k (i + 1) fun j hj => h j (by omega)).sub (dlZ_sz k i fun j hj => h j (by omega))).mono (by omega)
theorem gI_sz {l : List Int} {n : Nat} (h : ∀ x ∈ l, Sz n x) {j : Nat} (hj : j < l.length) : Sz n (gI l j) := by
  unfold gI
  rw [List.getElem?_eq_getElem hj]
  exact h _ (List.getElem_mem hj)
theorem pwT_get {l : List Int} {k : Nat} (h : k < l.length) : (pwT l)[k]? = some ((ch (l.length - 1) k : Int) * dlZ (gI l) k 0) := by
  unfold pwT
  rw [List.getElem?_map, List.getElem?_range h]; rfl
theorem pwT_len (l : List Int) : (pwT l).length = l.length := by unfold pwT; simp
theorem pwT_sz {l : List Int} {n : Nat} (h : ∀ x ∈ l, Sz n x) (h12 : l.length ≤ 13) : ∀ x ∈ pwT l, Sz (n + 40) x := by
  intro x hx
  unfold pwT at hx
  obtain ⟨k, hk, rfl⟩ := List.mem_map.mp hx
  have hk' := List.mem_range.mp hk
  exact ((ch_sz (l.length - 1) k).mul (dlZ_sz k 0 fun j hj => gI_sz h (by omega))).mono (by omega)
theorem div_sub (x y P : Int) (hP : P ≠ 0) : Rat.divInt (x - y) P = Rat.divInt x P - Rat.divInt y P := by
  have hn : (P : Rat) ≠ 0 := fun z => hP (by exact_mod_cast z)
  rw [Rat.divInt_eq_div, Rat.divInt_eq_div, Rat.divInt_eq_div, Rat.intCast_sub]; grind
theorem div_imul (c x P : Int) (hP : P ≠ 0) : Rat.divInt (c * x) P = (c : Rat) * Rat.divInt x P := by
  have hn : (P : Rat) ≠ 0 := fun z => hP (by exact_mod_cast z)
  rw [Rat.divInt_eq_div, Rat.divInt_eq_div, Rat.intCast_mul]; grind
theorem dl_div (g : Nat → Int) (P : Int) (hP : P ≠ 0) : ∀ k i, Rat.divInt (dlZ g k i) P = dl (fun j => Rat.divInt (g j) P) k i
  | 0, i => rfl
  | k + 1, i => by
    show Rat.divInt (dlZ g k (i + 1) - dlZ g k i) P = _ - _
    rw [div_sub _ _ _ hP, dl_div g P hP k, dl_div g P hP k]
noncomputable def gQ (qs : List Rat) (j : Nat) : Rat := (qs[j]?).getD 0
theorem gX_map (ps : List Pt) (j : Nat) : gX ps j = gQ (ps.map (·.1)) j := by
  unfold gX gQ
  rw [List.getElem?_map]
  cases ps[j]? <;> rfl
theorem gY_map (ps : List Pt) (j : Nat) : gY ps j = gQ (ps.map (·.2)) j := by
  unfold gY gQ
  rw [List.getElem?_map]
  cases ps[j]? <;> rfl
theorem gQ_ax (t b : List Int) {j : Nat} (h : j < t.length) : gQ (axR t b) j = Rat.divInt (gI t j) (prodI b) := by
  unfold gQ axR gI
  rw [List.getElem?_map, List.getElem?_eq_getElem h]; rfl
noncomputable def pwQ (qs : List Rat) : List Rat := (List.range qs.length).map fun k => dl (gQ qs) k 0 * ((ch (qs.length - 1) k : Int) : Rat)
theorem ax_pw (t b : List Int) (hb : prodI b ≠ 0) : axR (pwT t) b = pwQ (axR t b) := by
  unfold pwQ
  rw [axR_len]
  conv => lhs; unfold axR pwT
  rw [List.map_map]
  refine List.map_congr_left fun k hk => ?_
  have hk' := List.mem_range.mp hk
  show Rat.divInt ((ch (t.length - 1) k : Int) * dlZ (gI t) k 0) (prodI b) = _
  rw [div_imul _ _ _ hb, dl_div _ _ hb, Rat.mul_comm]
  congr 1
  exact dl_congr k 0 fun j hj => (gQ_ax t b (by omega)).symm
theorem lpP_fst (ps : List Pt) : (lpP ps).map (·.1) = pwQ (ps.map (·.1)) := by
  unfold lpP pwQ
  rw [List.map_map, List.length_map]
  refine List.map_congr_left fun k hk => ?_
  show dl (gX ps) k 0 * _ = _
  rw [show gX ps = gQ (ps.map (·.1)) from funext (gX_map ps)]
theorem lpP_snd (ps : List Pt) : (lpP ps).map (·.2) = pwQ (ps.map (·.2)) := by
  unfold lpP pwQ
  rw [List.map_map, List.length_map]
  refine List.map_congr_left fun k hk => ?_
  show dl (gY ps) k 0 * _ = _
  rw [show gY ps = gQ (ps.map (·.2)) from funext (gY_map ps)]
/-! ### seats of powers: sums -/
noncomputable def sumsI (f : Int) : List Int → List Int
  | [] => [f]
  | x :: r => f :: sumsI (f + x) r
noncomputable def sumsQ (f : Rat) : List Rat → List Rat
  | [] => [f]
  | x :: r => f :: sumsQ (f + x) r
noncomputable def seT : List Int → List Int
  | [] => []
  | c :: r => sumsI c (seT r)
noncomputable def seQ : List Rat → List Rat
  | [] => []
  | c :: r => sumsQ c (seQ r)
theorem sumsI_len : ∀ (l : List Int) (f : Int), (sumsI f l).length = l.length + 1
  | [], _ => rfl
  | x :: r, f => by show (f :: sumsI (f + x) r).length = _; rw [List.length_cons, sumsI_len r]; rfl
theorem seT_len : ∀ l : List Int, (seT l).length = l.length
  | [] => rfl
  | c :: r => by show (sumsI c (seT r)).length = _; rw [sumsI_len, seT_len r]; rfl
theorem sumsQ_len : ∀ (l : List Rat) (f : Rat), (sumsQ f l).length = l.length + 1
  | [], _ => rfl
  | x :: r, f => by show (f :: sumsQ (f + x) r).length = _; rw [List.length_cons, sumsQ_len r]; rfl
theorem seQ_len : ∀ l : List Rat, (seQ l).length = l.length
  | [] => rfl
  | c :: r => by show (sumsQ c (seQ r)).length = _; rw [sumsQ_len, seQ_len r]; rfl
theorem div_add (x y P : Int) (hP : P ≠ 0) : Rat.divInt (x + y) P = Rat.divInt x P + Rat.divInt y P := by
  have hn : (P : Rat) ≠ 0 := fun z => hP (by exact_mod_cast z)
  rw [Rat.divInt_eq_div, Rat.divInt_eq_div, Rat.divInt_eq_div, Rat.intCast_add]; grind
theorem sums_div (P : Int) (hP : P ≠ 0) : ∀ (l : List Int) (f : Int), (sumsI f l).map (fun x => Rat.divInt x P) = sumsQ (Rat.divInt f P) (l.map fun x => Rat.divInt x P)
  | [], f => rfl
  | x :: r, f => by
    show (f :: sumsI (f + x) r).map _ = _ :: sumsQ _ _
    rw [List.map_cons, sums_div P hP r, div_add _ _ _ hP]
theorem se_div (P : Int) (hP : P ≠ 0) : ∀ l : List Int, (seT l).map (fun x => Rat.divInt x P) = seQ (l.map fun x => Rat.divInt x P)
  | [] => rfl
  | c :: r => by
    show (sumsI c (seT r)).map _ = sumsQ _ (seQ _)
    rw [sums_div P hP, se_div P hP r]
theorem sumsQ_zero (f : Rat) (l : List Rat) : gQ (sumsQ f l) 0 = f := by cases l <;> rfl
theorem sumsQ_step : ∀ (l : List Rat) (f : Rat) (j : Nat), j < l.length → gQ (sumsQ f l) (j + 1) - gQ (sumsQ f l) j = gQ l j
  | [], f, j, h => by simp at h
  | x :: r, f, 0, h => by
    show gQ (sumsQ (f + x) r) 0 - f = x
    rw [sumsQ_zero]; grind
  | x :: r, f, j + 1, h => sumsQ_step r (f + x) j (by simpa using h)
theorem dl_se : ∀ (cs : List Rat) (k : Nat), k < cs.length → dl (gQ (seQ cs)) k 0 = gQ cs k
  | [], k, h => by simp at h
  | c :: r, 0, h => sumsQ_zero c (seQ r)
  | c :: r, k + 1, h => by
    have hk : k < r.length := by simpa using h
    rw [← dl_shift]
    show _ = gQ r k
    rw [← dl_se r k hk]
    refine dl_congr k 0 fun j hj => ?_
    exact sumsQ_step (seQ r) c j (by rw [seQ_len]; omega)
theorem dl_sub (f g : Nat → Rat) : ∀ k i, dl (fun j => f j - g j) k i = dl f k i - dl g k i
  | 0, i => rfl
  | k + 1, i => by
    show dl _ k (i + 1) - dl _ k i = _
    rw [dl_sub f g k, dl_sub f g k]
    show _ = (dl f k (i + 1) - dl f k i) - (dl g k (i + 1) - dl g k i)
    grind
theorem dl_zero {h : Nat → Rat} {N : Nat} (z : ∀ k, k < N → dl h k 0 = 0) : ∀ i k, i + k < N → dl h k i = 0
  | 0, k, hk => z k (by omega)
  | i + 1, k, hk => by
    have h1 := dl_zero z i k (by omega)
    have h2 := dl_zero z i (k + 1) (by omega)
    have h3 : dl h (k + 1) i = dl h k (i + 1) - dl h k i := rfl
    rw [h3, h1] at h2
    grind
theorem by_dl {a b : List Rat} (hl : a.length = b.length) (h : ∀ k, k < a.length → dl (gQ a) k 0 = dl (gQ b) k 0) : a = b := by
  have z : ∀ k, k < a.length → dl (fun j => gQ a j - gQ b j) k 0 = 0 := fun k hk => by rw [dl_sub, h k hk]; grind
  refine List.ext_getElem? fun i => ?_
  by_cases hi : i < a.length
  · have := dl_zero z i 0 (by omega)
    have e : gQ a i = gQ b i := by
      have h3 : gQ a i - gQ b i = 0 := this
      grind
    unfold gQ at e
    rw [List.getElem?_eq_getElem hi, List.getElem?_eq_getElem (by omega)] at e ⊢
    exact congrArg some e
  · rw [List.getElem?_eq_none (by omega), List.getElem?_eq_none (by omega)]
/-- powers over how many ways -/
noncomputable def wayQ (qs : List Rat) : List Rat := (List.range qs.length).map fun k => gQ qs k / ((ch (qs.length - 1) k : Int) : Rat)
noncomputable def ofQ (qs : List Rat) : List Rat := seQ (wayQ qs)
theorem wayQ_len (qs : List Rat) : (wayQ qs).length = qs.length := by unfold wayQ; simp
theorem ofQ_len (qs : List Rat) : (ofQ qs).length = qs.length := by unfold ofQ; rw [seQ_len, wayQ_len]
theorem wayQ_get {qs : List Rat} {k : Nat} (h : k < qs.length) : gQ (wayQ qs) k = gQ qs k / ((ch (qs.length - 1) k : Int) : Rat) := by
  unfold wayQ
  conv => lhs; unfold gQ
  rw [List.getElem?_map, List.getElem?_range h]; rfl
theorem pwQ_len (qs : List Rat) : (pwQ qs).length = qs.length := by unfold pwQ; simp
theorem pwQ_get {qs : List Rat} {k : Nat} (h : k < qs.length) : gQ (pwQ qs) k = dl (gQ qs) k 0 * ((ch (qs.length - 1) k : Int) : Rat) := by
  unfold pwQ
  conv => lhs; unfold gQ
  rw [List.getElem?_map, List.getElem?_range h]; rfl
theorem ch_pos : ∀ n k, k ≤ n → 0 < ch n k
  | n, 0, _ => by rw [ch_zero]; decide
  | 0, k + 1, h => by omega
  | n + 1, k + 1, h => by
    have := ch_pos n k (by omega)
    show 0 < ch n k + ch n (k + 1)
    omega
theorem ch_ne {n k : Nat} (h : k ≤ n) : ((ch n k : Int) : Rat) ≠ 0 := cast_ne (by have := ch_pos n k h; omega)
theorem of_pw (qs : List Rat) : ofQ (pwQ qs) = qs := by
  refine by_dl (by rw [ofQ_len, pwQ_len]) fun k hk => ?_
  rw [ofQ_len, pwQ_len] at hk
  unfold ofQ
  rw [dl_se _ _ (by rw [wayQ_len, pwQ_len]; exact hk), wayQ_get (by rw [pwQ_len]; exact hk), pwQ_get hk, pwQ_len]
  have := ch_ne (n := qs.length - 1) (k := k) (by omega)
  grind
theorem pw_of (qs : List Rat) : pwQ (ofQ qs) = qs := by
  refine List.ext_getElem? fun k => ?_
  by_cases hk : k < qs.length
  · have e : gQ (pwQ (ofQ qs)) k = gQ qs k := by
      rw [pwQ_get (by rw [ofQ_len]; exact hk), ofQ_len]
      unfold ofQ
      rw [dl_se _ _ (by rw [wayQ_len]; exact hk), wayQ_get hk]
      have := ch_ne (n := qs.length - 1) (k := k) (by omega)
      grind
    unfold gQ at e
    rw [List.getElem?_eq_getElem (by rw [pwQ_len, ofQ_len]; exact hk), List.getElem?_eq_getElem hk] at e ⊢
    exact congrArg some e
  · rw [List.getElem?_eq_none (by rw [pwQ_len, ofQ_len]; omega), List.getElem?_eq_none (by omega)]
noncomputable def ofP (ps : List Pt) : List Pt := (ofQ (ps.map (·.1))).zip (ofQ (ps.map (·.2)))
theorem ofP_fst (ps : List Pt) : (ofP ps).map (·.1) = ofQ (ps.map (·.1)) := List.map_fst_zip (by rw [ofQ_len, ofQ_len]; simp)
theorem ofP_snd (ps : List Pt) : (ofP ps).map (·.2) = ofQ (ps.map (·.2)) := List.map_snd_zip (by rw [ofQ_len, ofQ_len]; simp)
theorem ofP_len (ps : List Pt) : (ofP ps).length = ps.length := by unfold ofP; rw [List.length_zip, ofQ_len, ofQ_len]; simp
theorem of_lp (ps : List Pt) : ofP (lpP ps) = ps := pairs_eq (ofP_fst _) (ofP_snd _) (by rw [lpP_fst, of_pw]) (by rw [lpP_snd, of_pw])
theorem lp_of (ps : List Pt) : lpP (ofP ps) = ps := pairs_eq (lpP_fst _) (lpP_snd _) (by rw [ofP_fst, pw_of]) (by rw [ofP_snd, pw_of])
/-! ### the point by powers -/
/-! ### sizes -/
theorem sumsQ_ov {D : Int} : ∀ (l : List Rat) (f : Rat) (n : Nat), Ov D n f → (∀ x ∈ l, Ov D n x) → ∀ y ∈ sumsQ f l, Ov D (n + l.length) y
  | [], f, n, hf, _, y, hy => by rw [List.mem_singleton.mp hy]; exact hf
  | x :: r, f, n, hf, hl, y, hy => by
    rcases List.mem_cons.mp hy with rfl | hy
    · exact hf.mono (by omega)
    · obtain ⟨m1, e1, z1⟩ := hf
      obtain ⟨m2, e2, z2⟩ := hl x (.head _)
      have hfx : Ov D (n + 1) (f + x) := ⟨m1 + m2, by rw [Rat.intCast_add, ← e1, ← e2]; grind, (z1.add z2).mono (by omega)⟩
      have := sumsQ_ov r (f + x) (n + 1) hfx (fun z hz => (hl z (.tail _ hz)).mono (by omega)) y hy
      exact this.mono (by rw [List.length_cons]; omega)
theorem seQ_ov {D : Int} {n : Nat} : ∀ (cs : List Rat), (∀ c ∈ cs, Ov D n c) → ∀ y ∈ seQ cs, Ov D (n + cs.length * cs.length) y
  | [], _, y, hy => nomatch hy
  | c :: r, h, y, hy => by
    have ih := seQ_ov r fun c hc => h c (.tail _ hc)
    have h1 : Ov D (n + r.length * r.length) c := (h c (.head _)).mono (by omega)
    have := sumsQ_ov (seQ r) c (n + r.length * r.length) h1 ih y hy
    rw [seQ_len] at this
    refine this.mono ?_
    rw [List.length_cons]
    have : (r.length + 1) * (r.length + 1) = r.length * r.length + 2 * r.length + 1 := by grind
    omega
noncomputable def lprod (n : Nat) : Int := prodI ((List.range (n + 1)).map fun k => (ch n k : Int))
theorem dvd_prodI {x : Int} : ∀ {xs : List Int}, x ∈ xs → x ∣ prodI xs
  | y :: r, h => by
    show x ∣ y * prodI r
    rcases List.mem_cons.mp h with rfl | h
    · exact ⟨_, rfl⟩
    · exact Int.dvd_trans (dvd_prodI h) ⟨y, Int.mul_comm ..⟩
theorem prod_szn {m : Nat} : ∀ {bs : List Int}, (∀ b ∈ bs, Sz m b) → Sz (m * bs.length + 1) (prodI bs)
  | [], _ => ⟨by show 1 < 2 ^ (m * 0 + 1); rw [Nat.mul_zero]; decide⟩
  | b :: r, h => by
    show Sz _ (b * prodI r)
    exact ((h b (.head _)).mul (prod_szn fun c hc => h c (.tail _ hc))).mono (by rw [List.length_cons, Nat.mul_succ]; omega)
theorem lprod_pos (n : Nat) : 0 < lprod n := prodI_pos fun x hx => by
  obtain ⟨k, hk, rfl⟩ := List.mem_map.mp hx
  have := ch_pos n k (by have := List.mem_range.mp hk; omega)
  omega
theorem lprod_sz {n : Nat} (h : n ≤ 12) : Sz 200 (lprod n) := by
  unfold lprod
  refine (prod_szn (m := n + 1) fun b hb => ?_).mono ?_
  · obtain ⟨k, hk, rfl⟩ := List.mem_map.mp hb
    exact ch_sz n k
  · rw [List.length_map, List.length_range]
    have : (n + 1) * (n + 1) ≤ 13 * 13 := Nat.mul_le_mul (by omega) (by omega)
    omega
theorem ch_dvd {n k : Nat} (h : k ≤ n) : (ch n k : Int) ∣ lprod n := dvd_prodI (List.mem_map.mpr ⟨k, List.mem_range.mpr (by omega), rfl⟩)
theorem way_ov {D : Int} {m : Nat} {qs : List Rat} (h : ∀ q ∈ qs, Ov D m q) (h12 : qs.length ≤ 12) (h1 : 1 ≤ qs.length) : ∀ q ∈ wayQ qs, Ov (D * lprod (qs.length - 1)) (m + 200) q := by
  intro q hq
  unfold wayQ at hq
  obtain ⟨k, hk, rfl⟩ := List.mem_map.mp hq
  have hk' := List.mem_range.mp hk
  obtain ⟨c, hc⟩ := ch_dvd (n := qs.length - 1) (k := k) (by omega)
  have hq' : Ov D m (gQ qs k) := by
    unfold gQ
    rw [List.getElem?_eq_getElem hk']
    exact h _ (List.getElem_mem hk')
  obtain ⟨x, ex, zx⟩ := hq'
  have hne := ch_ne (n := qs.length - 1) (k := k) (by omega)
  refine ⟨x * c, ?_, ?_⟩
  · rw [Rat.intCast_mul, Rat.intCast_mul, ← ex, hc, Rat.intCast_mul]; grind
  · refine (zx.mul (m := 200) ?_).mono (by omega)
    exact sz_dvd (D := lprod (qs.length - 1)) (by have := lprod_pos (qs.length - 1); omega) ⟨(ch (qs.length - 1) k : Int), by rw [hc]; exact Int.mul_comm ..⟩ (lprod_sz (by omega))
theorem ofP_ov {D : Int} {m : Nat} {ps : List Pt} (h : ∀ p ∈ ps, OvP D m p) (h1 : 1 ≤ ps.length) (h12 : ps.length ≤ 12) : ∀ p ∈ ofP ps, OvP (D * lprod (ps.length - 1)) (m + 400) p := by
  intro p hp
  have m1 : p.1 ∈ ofQ (ps.map (·.1)) := by rw [← ofP_fst]; exact List.mem_map.mpr ⟨p, hp, rfl⟩
  have m2 : p.2 ∈ ofQ (ps.map (·.2)) := by rw [← ofP_snd]; exact List.mem_map.mpr ⟨p, hp, rfl⟩
  have b : ps.length * ps.length ≤ 12 * 12 := Nat.mul_le_mul h12 h12
  refine ⟨?_, ?_⟩
  · have w := way_ov (D := D) (m := m) (qs := ps.map (·.1)) (fun q hq => by obtain ⟨r, hr, rfl⟩ := List.mem_map.mp hq; exact (h r hr).1) (by simpa using h12) (by simpa using h1)
    have := seQ_ov _ w p.1 m1
    rw [wayQ_len, List.length_map] at this
    exact this.mono (by omega)
  · have w := way_ov (D := D) (m := m) (qs := ps.map (·.2)) (fun q hq => by obtain ⟨r, hr, rfl⟩ := List.mem_map.mp hq; exact (h r hr).2) (by simpa using h12) (by simpa using h1)
    have := seQ_ov _ w p.2 m2
    rw [wayQ_len, List.length_map] at this
    exact this.mono (by omega)
/-! ### promises -/
noncomputable def spAxPw : Sp := fun vs H Q _ => ∃ x n tops bs, vs = [x] ∧ AxV H x n tops bs ∧ 1 ≤ tops.length ∧ tops.length ≤ 12 ∧ n ≤ 1000000 ∧ ∀ v H', Same H H' → AxV H' v (n + 40) (pwT tops) bs → Q v H'
structure Fine1 (ps : List Pt) (D : Int) (m : Nat) : Prop where
  pos : 0 < D
  sz : Sz 9000 D
  ov : ∀ p ∈ ps, OvP D m p
  m : m ≤ 9000
  l1 : 1 ≤ ps.length
  l2 : ps.length ≤ 12
theorem Fine1.dv {ps : List Pt} {D : Int} {m : Nat} (h : Fine1 ps D m) : ∀ p ∈ ps, ((p.1.den : Int) ∣ D ∧ Bd 9000 p.1) ∧ (p.2.den : Int) ∣ D ∧ Bd 9000 p.2 := fun p hp => by
  have d := h.pos
  have mm := h.m
  exact ⟨⟨den_dvd (h.ov p hp).1, ((h.ov p hp).1.bd (by omega) h.sz).mono (by omega)⟩, den_dvd (h.ov p hp).2, ((h.ov p hp).2.bd (by omega) h.sz).mono (by omega)⟩
noncomputable def spPw1 (K : PySem.W.Frag) : Sp := fun vs H Q _ => ∃ (a : Addr) (ws : List V) (ps : List Pt) (D : Int) (m : Nat), vs = [.ref a] ∧ SqL K H a ws ∧ PtsV H ws ps ∧ Fine1 ps D m ∧
  ∀ (l : Addr) (us : List V) (H' : Hp), Same H H' → H l = none → H' l = some (.lst us) → PtsV H' us (lpP ps) → Q (.ref l) H'
noncomputable def spSums (K : PySem.W.Frag) : Sp := fun vs H Q _ => ∃ (f : Int) (a : Addr) (ms : List Int), vs = [.int f, .ref a] ∧ SqL K H a (ms.map V.int) ∧ ms.length ≤ 100 ∧ ∀ (l : Addr) (H' : Hp), Same H H' → H l = none → H' l = some (.lst ((sumsI f ms).map V.int)) → Q (.ref l) H'
noncomputable def spAxSe : Sp := fun vs H Q _ => ∃ x n tops bs, vs = [x] ∧ AxV H x n tops bs ∧ 1 ≤ tops.length ∧ tops.length ≤ 12 ∧ n ≤ 1000000 ∧ bs.length ≤ 50 ∧ ∀ v H' t b m, Same H H' → AxV H' v m t b → t.length = tops.length → axR t b = ofQ (axR tops bs) → Q v H'
noncomputable def spOf1 (K : PySem.W.Frag) : Sp := fun vs H Q _ => ∃ (a : Addr) (ws : List V) (ps : List Pt) (D : Int) (m : Nat), vs = [.ref a] ∧ SqL K H a ws ∧ PtsV H ws ps ∧ Fine1 ps D m ∧
  ∀ (l : Addr) (us : List V) (H' : Hp), Same H H' → H l = none → H' l = some (.lst us) → PtsV H' us (ofP ps) → Q (.ref l) H'
theorem sp_one (n k : Nat) : spI 1 1 n k = (ch n k : Int) := by unfold spI; rw [Int.one_pow, Int.one_pow, Int.mul_one, Int.mul_one]
theorem row_ints {l : List Int} {i : Nat} {ys : List V} (hl : ys.length = (rowZ l i).length - 1)
    (h : ∀ (j : Nat) v, ys[j]? = some v → ∀ x y, (rowZ l i)[j]? = some x → (rowZ l i)[j + 1]? = some y → v = .int (y - x)) : ys = (rowZ l (i + 1)).map V.int := by
  rw [rowZ_len] at hl
  refine List.ext_getElem? fun j => ?_
  rw [List.getElem?_map]
  cases e : ys[j]? with
  | none =>
    have hj := List.getElem?_eq_none_iff.mp e
    rw [List.getElem?_eq_none (by rw [rowZ_len]; omega)]; rfl
  | some v =>
    have hj : j < ys.length := (List.getElem?_eq_some_iff.mp e).1
    rw [h j v e _ _ (rowZ_get (by omega)) (rowZ_get (by omega)), rowZ_get (by omega)]; rfl
theorem plain2_rev {K : PySem.W.Frag} {a : Addr} {us xs ys : List V} {H1 : Hp} (h : SqL K H1 a us) (hp : PairsL H1 us xs ys) : Plain2 K (Itv K a us.length) H1 us.length (fun i => (xs[us.length - 1 - i]?).getD .non) (fun i => (ys[us.length - 1 - i]?).getD .non) := fun H2 s i => by
  refine ⟨fun hi => ?_, fun e => e.symm⟩
  have e1 : us[us.length - 1 - i]? = some (us[us.length - 1 - i]'(by omega)) := List.getElem?_eq_getElem _
  obtain ⟨T, eT, hT⟩ := hp _ _ e1
  refine ⟨⟨us, _, s.seq h, rfl, hi, e1⟩, fun x H' y => ?_⟩
  obtain ⟨rfl, y2⟩ := y
  have := y2 us (s.seq h)
  rw [e1, eT] at this
  exact ⟨L2.Same.refl _, T, (Option.some.inj this).symm, SqT.of (s _ _ hT)⟩
theorem sums_snoc : ∀ (ms : List Int) (f x : Int), sumsI f (ms ++ [x]) = sumsI f ms ++ [((sumsI f ms).getLast?).getD 0 + x]
  | [], f, x => rfl
  | y :: r, f, x => by
    show f :: sumsI (f + y) (r ++ [x]) = f :: sumsI (f + y) r ++ _
    rw [sums_snoc r (f + y) x]
    have : ∀ l : List Int, l ≠ [] → (f :: l).getLast? = l.getLast? := fun l hl => by
      cases l with
      | nil => exact absurd rfl hl
      | cons c d => simp [List.getLast?_cons_cons]
    show _ = f :: (sumsI (f + y) r ++ [((f :: sumsI (f + y) r).getLast?).getD 0 + x])
    rw [this _ (by have := sumsI_len r (f + y); intro z; rw [z] at this; simp at this)]
theorem szs_exist : ∀ l : List Int, ∃ n, ∀ x ∈ l, Sz n x
  | [] => ⟨0, fun _ h => nomatch h⟩
  | y :: r => by
    obtain ⟨n, h⟩ := szs_exist r
    refine ⟨max n y.natAbs, fun x hx => ?_⟩
    rcases List.mem_cons.mp hx with rfl | hx
    · exact Sz.mono (n := x.natAbs) ⟨Nat.lt_two_pow_self⟩ (by omega)
    · exact (h x hx).mono (by omega)
theorem AxV.mono {H : Hp} {v : V} {n m : Nat} {t b : List Int} (h : AxV H v n t b) (hn : n ≤ m) : AxV H v m t b := by
  obtain ⟨a, lt, lb, e, h1, h2, h3, h4, r⟩ := h
  exact ⟨a, lt, lb, e, h1, h2, h3, fun x hx => (h4 x hx).mono hn, r⟩
theorem way_of {tops tp bs bm : List Int} {n0 : Nat} (e0 : tops.length = n0 + 1) (htl : tp.length = n0 + 1) (P1 : prodI bs ≠ 0) (P2 : prodI bm ≠ 0) (e4 : axR tp bm = (List.range (n0 + 1)).map fun k => Rat.divInt 1 (ch n0 k : Int)) :
    (List.zipWith (· * ·) tops tp).map (fun x => Rat.divInt x (prodI bs * prodI bm)) = wayQ (axR tops bs) := by
  refine List.ext_getElem? fun i => ?_
  by_cases hi : i < n0 + 1
  · have et : tops[i]? = some (tops[i]'(by omega)) := List.getElem?_eq_getElem _
    have ep : tp[i]? = some (tp[i]'(by omega)) := List.getElem?_eq_getElem _
    have e5 : Rat.divInt (tp[i]'(by omega)) (prodI bm) = Rat.divInt 1 (ch n0 i : Int) := by
      have := congrArg (fun l => l[i]?) e4
      unfold axR at this
      simp only [List.getElem?_map, ep, List.getElem?_range hi, Option.map_some] at this
      exact Option.some.inj this
    have el : (axR tops bs).length = n0 + 1 := by rw [axR_len]; exact e0
    unfold wayQ
    rw [List.getElem?_map, List.getElem?_map, el, List.getElem?_range hi, List.getElem?_zipWith, et, ep]
    show some (Rat.divInt (tops[i] * tp[i]) (prodI bs * prodI bm)) = some (gQ (axR tops bs) i / _)
    rw [gQ_ax _ _ (by omega)]
    have eg : gI tops i = tops[i] := by unfold gI; rw [et]; rfl
    have hc := ch_ne (n := n0) (k := i) (by omega)
    have c1 : (prodI bs : Rat) ≠ 0 := fun z => P1 (by exact_mod_cast z)
    have c2 : (prodI bm : Rat) ≠ 0 := fun z => P2 (by exact_mod_cast z)
    rw [eg]
    rw [Rat.divInt_eq_div, Rat.divInt_eq_div] at e5
    rw [Rat.divInt_eq_div, Rat.divInt_eq_div, Rat.intCast_mul, Rat.intCast_mul, show n0 + 1 - 1 = n0 by omega]
    have e6 : ((tp[i] : Int) : Rat) = (prodI bm : Rat) * (((1 : Int) : Rat) / ((ch n0 i : Int) : Rat)) := by rw [← e5]; grind
    rw [e6]
    have h1 : (((1 : Int)) : Rat) = 1 := rfl
    rw [h1]
    congr 1
    grind
  · rw [List.getElem?_eq_none (by rw [List.length_map, List.length_zipWith]; omega), List.getElem?_eq_none (by rw [wayQ_len, axR_len]; omega)]
end Cv

namespace Cv
open PySem PySem.Spec PyProof.Rows L2
/-! ### range that goes down by one -/
section
variable {X : Cx} {tg : Expr}
end
/-! ### raising -/
noncomputable def ptAt (ps : List Pt) (j : Nat) : Pt := (gX ps j, gY ps j)
noncomputable def raP (ps : List Pt) : List Pt := [ptAt ps 0] ++ (List.range (ps.length - 1)).map (fun i : Nat => btwP (Rat.divInt ((1 : Int) + (i : Int)) (ps.length : Int)) (ptAt ps (i + 1)) (ptAt ps i)) ++ [ptAt ps (ps.length - 1)]
theorem raP_len (ps : List Pt) (h : 1 ≤ ps.length) : (raP ps).length = ps.length + 1 := by unfold raP; simp; omega
/-- the k-th raised number -/
noncomputable def rr (N : Nat) (g : Nat → Rat) (k : Nat) : Rat := ((((N : Int) : Rat) - ((k : Int) : Rat)) * g k + ((k : Int) : Rat) * g (k - 1)) / ((N : Int) : Rat)
theorem dl_raise (N : Nat) (hN : 0 < N) (g : Nat → Rat) : ∀ j k, dl (rr N g) j k * ((N : Int) : Rat) = (((N : Int) : Rat) - ((j : Int) : Rat) - ((k : Int) : Rat)) * dl g j k + ((k : Int) : Rat) * dl g j (k - 1)
  | 0, k => by
    show rr N g k * _ = _ * g k + _ * g (k - 1)
    have hn : ((N : Int) : Rat) ≠ 0 := cast_ne (by omega)
    have h0 : (((0 : Nat) : Int) : Rat) = 0 := rfl
    unfold rr
    rw [h0]; grind
  | j + 1, k => by
    have h1 := dl_raise N hN g j (k + 1)
    have h2 := dl_raise N hN g j k
    have e1 : dl (rr N g) (j + 1) k = dl (rr N g) j (k + 1) - dl (rr N g) j k := rfl
    have e2 : dl g (j + 1) k = dl g j (k + 1) - dl g j k := rfl
    have c1 : (((k + 1 : Nat) : Int) : Rat) = ((k : Int) : Rat) + 1 := by rw [Int.natCast_add, Rat.intCast_add]; rfl
    have c2 : (((j + 1 : Nat) : Int) : Rat) = ((j : Int) : Rat) + 1 := by rw [Int.natCast_add, Rat.intCast_add]; rfl
    rw [Nat.add_sub_cancel, c1] at h1
    rw [e1, e2, c2]
    cases k with
    | zero =>
      have h0 : (((0 : Nat) : Int) : Rat) = 0 := rfl
      rw [h0] at h1 h2 ⊢
      grind
    | succ k =>
      have e3 : dl g (j + 1) (k + 1 - 1) = dl g j (k + 1) - dl g j k := rfl
      rw [e3]
      rw [Nat.add_sub_cancel] at h2
      grind
theorem btw_rr (N i : Nat) (hN : 0 < N) (g : Nat → Rat) : btw (Rat.divInt ((1 : Int) + i) (N : Int)) (g (i + 1)) (g i) = rr N g (i + 1) := by
  have hn : ((N : Int) : Rat) ≠ 0 := cast_ne (by omega)
  unfold btw rr
  have c1 : (((i + 1 : Nat) : Int) : Rat) = ((((1 : Int) + i : Int)) : Rat) := by congr 1; omega
  rw [Rat.divInt_eq_div, Nat.add_sub_cancel, c1]
  grind
theorem raP_get (ps : List Pt) (h : 1 ≤ ps.length) (k : Nat) (hk : k ≤ ps.length) : (raP ps)[k]? = some (rr ps.length (gX ps) k, rr ps.length (gY ps) k) := by
  have hn : ((ps.length : Int) : Rat) ≠ 0 := cast_ne (by omega)
  unfold raP
  by_cases h0 : k = 0
  · subst h0
    have e : ∀ g : Nat → Rat, rr ps.length g 0 = g 0 := fun g => by
      unfold rr
      have h0 : (((0 : Nat) : Int) : Rat) = 0 := rfl
      rw [h0]; grind
    rw [e, e]; rfl
  · by_cases hl : k = ps.length
    · have e : ∀ g : Nat → Rat, rr ps.length g k = g (ps.length - 1) := fun g => by
        unfold rr
        rw [hl]; grind
      rw [List.getElem?_append_right (by simp; omega)]
      have : k - ([ptAt ps 0] ++ (List.range (ps.length - 1)).map (fun i : Nat => btwP (Rat.divInt ((1 : Int) + (i : Int)) (ps.length : Int)) (ptAt ps (i + 1)) (ptAt ps i))).length = 0 := by simp; omega
      rw [this, e, e]; rfl
    · obtain ⟨i, rfl⟩ : ∃ i, k = i + 1 := ⟨k - 1, by omega⟩
      rw [List.getElem?_append_left (by simp; omega), List.getElem?_append_right (by simp)]
      rw [List.length_singleton, Nat.add_sub_cancel, List.getElem?_map, List.getElem?_range (by omega)]
      show some (btw _ (gX ps (i + 1)) (gX ps i), btw _ (gY ps (i + 1)) (gY ps i)) = _
      rw [btw_rr _ _ (by omega), btw_rr _ _ (by omega)]
theorem ways_down (N j : Nat) (hN : 0 < N) : (((N : Int) : Rat) - ((j : Int) : Rat)) * ((ch N j : Int) : Rat) = ((N : Int) : Rat) * ((ch (N - 1) j : Int) : Rat) := by
  obtain ⟨n, rfl⟩ : ∃ n, N = n + 1 := ⟨N - 1, by omega⟩
  have h1 := ch_next (n + 1) j
  have h2 := up_cast n j
  have h3 : (((ch (n + 1) (j + 1) : Int) * ((j : Int) + 1) : Int) : Rat) = (((ch (n + 1) j : Int) * (((n + 1 : Nat) : Int) - j) : Int) : Rat) := by rw [h1]
  rw [Rat.intCast_mul, Rat.intCast_mul, Rat.intCast_sub, Rat.intCast_add] at h3
  have c2 : (((j + 1 : Nat) : Int) : Rat) = ((j : Int) : Rat) + ((1 : Int) : Rat) := by rw [Int.natCast_add, Rat.intCast_add]; rfl
  rw [c2] at h2
  rw [Nat.add_sub_cancel]
  grind
theorem lp_raise (ps : List Pt) (h : 1 ≤ ps.length) : lpP (raP ps) = lpP ps ++ [(0, 0)] := by
  have hn : ((ps.length : Int) : Rat) ≠ 0 := cast_ne (by omega)
  have hl := raP_len ps h
  have gx : ∀ k, k ≤ ps.length → gX (raP ps) k = rr ps.length (gX ps) k := fun k hk => by unfold gX; rw [raP_get ps h k hk]; rfl
  have gy : ∀ k, k ≤ ps.length → gY (raP ps) k = rr ps.length (gY ps) k := fun k hk => by unfold gY; rw [raP_get ps h k hk]; rfl
  have key : ∀ (g' g : Nat → Rat), (∀ k, k ≤ ps.length → g' k = rr ps.length g k) → ∀ j, j ≤ ps.length → dl g' j 0 * ((ch ps.length j : Int) : Rat) = dl g j 0 * ((ch (ps.length - 1) j : Int) : Rat) := fun g' g e j hj => by
    have e1 : dl g' j 0 = dl (rr ps.length g) j 0 := dl_congr j 0 fun k hk => e k (by omega)
    have e2 := dl_raise ps.length (by omega) g j 0
    have h0 : (((0 : Nat) : Int) : Rat) = 0 := rfl
    rw [h0] at e2
    have e3 := ways_down ps.length j (by omega)
    rw [e1]
    have e4 : (dl (rr ps.length g) j 0 * ((ch ps.length j : Int) : Rat) - dl g j 0 * ((ch (ps.length - 1) j : Int) : Rat)) * ((ps.length : Int) : Rat) = 0 := by grind
    rcases Rat.mul_eq_zero.mp e4 with q | q
    · grind
    · exact absurd q hn
  refine List.ext_getElem? fun j => ?_
  by_cases hj : j < ps.length
  · rw [List.getElem?_append_left (by rw [lpP_len]; exact hj), lpP_get hj, lpP_get (by omega), hl, Nat.add_sub_cancel, key _ _ gx j (by omega), key _ _ gy j (by omega)]
  · by_cases hj2 : j = ps.length
    · subst hj2
      rw [List.getElem?_append_right (by rw [lpP_len]; omega), lpP_len, Nat.sub_self, lpP_get (by omega), hl, Nat.add_sub_cancel, key _ _ gx _ (by omega), key _ _ gy _ (by omega), ch_gt _ _ (by omega)]
      have h0 : (((0 : Nat) : Int) : Rat) = 0 := rfl
      rw [h0, Rat.mul_zero, Rat.mul_zero]; rfl
    · rw [List.getElem?_eq_none (by rw [lpP_len]; omega), List.getElem?_eq_none (by rw [List.length_append, lpP_len]; simp; omega)]
theorem ra_ov {ps : List Pt} {D : Int} {m : Nat} (h : ∀ p ∈ ps, OvP D m p) (h1 : 1 ≤ ps.length) (h12 : ps.length ≤ 12) : ∀ p ∈ raP ps, OvP (D * (ps.length : Int)) (m + 6) p := by
  intro p hp
  obtain ⟨k, hk, rfl⟩ := List.getElem_of_mem hp
  have hl := raP_len ps h1
  have hn : ((ps.length : Int) : Rat) ≠ 0 := cast_ne (by omega)
  have e := raP_get ps h1 k (by omega)
  rw [List.getElem?_eq_getElem hk] at e
  rw [Option.some.inj e]
  have key : ∀ g : Nat → Rat, (∀ j, j < ps.length → Ov D m (g j)) → Ov (D * (ps.length : Int)) (m + 6) (rr ps.length g k) := fun g hg => by
    have z1 : Sz 4 ((ps.length : Int) - k) := sz_of (b := 12) (by omega) (by decide)
    have z2 : Sz 4 (k : Int) := sz_of (b := 12) (by omega) (by decide)
    have o1 : Ov D (m + 4) ((((ps.length : Int) : Rat) - ((k : Int) : Rat)) * g k) := by
      by_cases hk2 : k < ps.length
      · have := (hg k hk2).imul z1
        rw [Rat.intCast_sub] at this
        exact this
      · have ek : k = ps.length := by omega
        refine ⟨0, ?_, ⟨by show 0 < _; exact Nat.two_pow_pos _⟩⟩
        rw [ek]
        have : ((0 : Int) : Rat) = 0 := rfl
        rw [this]; grind
    have o2 : Ov D (m + 4) (((k : Int) : Rat) * g (k - 1)) := (hg (k - 1) (by omega)).imul z2
    obtain ⟨x1, e1, y1⟩ := o1
    obtain ⟨x2, e2, y2⟩ := o2
    refine ⟨x1 + x2, ?_, (y1.add y2).mono (by omega)⟩
    unfold rr
    rw [Rat.intCast_mul, Rat.intCast_add, ← e1, ← e2]; grind
  exact ⟨key _ fun j hj => gX_ov h hj, key _ fun j hj => gY_ov h hj⟩
noncomputable def raN : Nat → List Pt → List Pt
  | 0, ps => ps
  | r + 1, ps => raP (raN r ps)
theorem raN_len (ps : List Pt) (h : 1 ≤ ps.length) : ∀ r, (raN r ps).length = ps.length + r
  | 0 => rfl
  | r + 1 => by
    show (raP (raN r ps)).length = _
    rw [raP_len _ (by rw [raN_len ps h r]; omega), raN_len ps h r]; omega
/-! promises -/
theorem fine_ra {ps : List Pt} (h1 : 1 ≤ ps.length) {D : Int} (hD : 0 < D) (zD : Sz 31 D) (h : ∀ p ∈ ps, OvP D 110 p) : ∀ r, ps.length + r ≤ 12 → ∃ E, 0 < E ∧ Sz (31 + 4 * r) E ∧ ∀ p ∈ raN r ps, OvP E (110 + 6 * r) p
  | 0, _ => ⟨D, hD, zD, h⟩
  | r + 1, hr => by
    obtain ⟨E, e1, e2, e3⟩ := fine_ra h1 hD zD h r (by omega)
    have hl := raN_len ps h1 r
    refine ⟨E * ((raN r ps).length : Int), Int.mul_pos e1 (by omega), (e2.mul (m := 4) (sz_of (b := 12) (by omega) (by decide))).mono (by omega), ?_⟩
    have := ra_ov e3 (by omega) (by omega)
    exact this
theorem cut_butlast (us : List V) (h : 1 ≤ us.length) : cutV us none (some (-1)) = us.take (us.length - 1) := by
  unfold cutV
  have e : HT.sIx us.length us.length (some (-1)) = us.length - 1 := by
    simp [HT.sIx]
    omega
  rw [HT.sIx_none, e]; simp
end Cv

namespace Cv
open PySem PySem.Spec PyProof.Rows L2
/-! ### lowering: the last of all differences -/
noncomputable def lastD (ps : List Pt) : Pt := (dl (gX ps) (ps.length - 1) 0, dl (gY ps) (ps.length - 1) 0)
theorem ch_top : ∀ n, ch n n = 1
  | 0 => rfl
  | n + 1 => by show ch n n + ch n (n + 1) = 1; rw [ch_top n, ch_gt n (n + 1) (by omega)]
theorem lp_last (ps : List Pt) (h : 1 ≤ ps.length) : (lpP ps)[ps.length - 1]? = some (lastD ps) := by
  rw [lpP_get (by omega), ch_top]
  unfold lastD
  refine congrArg some (Prod.ext ?_ ?_)
  · show _ * (((1 : Nat) : Int) : Rat) = _; simp
  · show _ * (((1 : Nat) : Int) : Rat) = _; simp
theorem low_of {ps : List Pt} (h2 : 2 ≤ ps.length) (h : lastD ps = (0, 0)) : ∃ qs, lpP ps = lpP qs ++ [(0, 0)] ∧ 1 ≤ qs.length := by
  refine ⟨ofP ((lpP ps).take (ps.length - 1)), ?_, ?_⟩
  · rw [lp_of]
    have e := lp_last ps (by omega)
    rw [h] at e
    have := take_snoc e
    have hl : (lpP ps).take (ps.length - 1 + 1) = lpP ps := List.take_of_length_le (by rw [lpP_len]; omega)
    rw [hl] at this
    exact this
  · rw [ofP_len, List.length_take, lpP_len]; omega
theorem low_len {ps qs : List Pt} (he : lpP ps = lpP qs ++ [(0, 0)]) : ps.length = qs.length + 1 := by
  have := congrArg List.length he
  rw [List.length_append, lpP_len, lpP_len] at this
  exact this
theorem low_last {ps qs : List Pt} (he : lpP ps = lpP qs ++ [(0, 0)]) : lastD ps = (0, 0) := by
  have hl := low_len he
  have e := lp_last ps (by omega)
  rw [he, List.getElem?_append_right (by rw [lpP_len]; omega), lpP_len, show ps.length - 1 - qs.length = 0 by omega] at e
  exact (Option.some.inj e).symm
theorem low_ra {ps qs : List Pt} (he : lpP ps = lpP qs ++ [(0, 0)]) (h1 : 1 ≤ qs.length) : raP qs = ps := by
  have e := lp_raise qs h1
  rw [← he] at e
  have := congrArg ofP e
  rw [of_lp, of_lp] at this
  exact this
/-- the lowered curve's size -/
theorem low_bd {ps qs : List Pt} {D : Int} {m : Nat} (he : lpP ps = lpP qs ++ [(0, 0)]) (h1 : 1 ≤ qs.length) (hD : 0 < D) (zD : Sz 60 D) (hov : ∀ p ∈ ps, OvP D m p) (hm : m ≤ 200) (h12 : ps.length ≤ 12) : ∀ p ∈ qs, Bd 2800 p.1 ∧ Bd 2800 p.2 := by
  have hl := low_len he
  have o1 := lpP_ov hov (by omega)
  have o2 : ∀ p ∈ lpP qs, OvP D (m + 30) p := fun p hp => o1 p (by rw [he]; exact List.mem_append.mpr (.inl hp))
  have o3 := ofP_ov o2 (by rw [lpP_len]; exact h1) (by rw [lpP_len]; omega)
  rw [of_lp, lpP_len] at o3
  have zl := lprod_sz (n := qs.length - 1) (by omega)
  intro p hp
  exact ovp_bd4 (Int.mul_pos hD (lprod_pos _)) (zD.mul zl) (o3 p hp) 2800 (by omega) (by decide)
theorem Ov.plus3 {D : Int} {n : Nat} {x : Rat} {u : Int} (h : Ov D n x) (hu : Sz 101 u) (zD : Sz 60 D) (hn : n ≤ 160) : Ov (D * 3) 180 (x + Rat.divInt u 3) := by
  obtain ⟨t, e, z⟩ := h
  refine ⟨t * 3 + u * D, ?_, (((z.mono hn).mul (m := 2) ⟨by decide⟩).add (hu.mul zD)).mono (by decide)⟩
  rw [divInt_cast, Rat.intCast_mul, Rat.intCast_add, Rat.intCast_mul, Rat.intCast_mul, ← e]
  grind
theorem Ov.plus1 {D : Int} {n : Nat} {x : Rat} (h : Ov D n x) (zD : Sz 60 D) (hn : n ≤ 160) : Ov (D * 3) 180 (x + 1) := by
  obtain ⟨t, e, z⟩ := h
  refine ⟨(t + D) * 3, ?_, (((z.mono hn).add zD).mul (m := 2) ⟨by decide⟩).mono (by decide)⟩
  rw [Rat.intCast_mul, Rat.intCast_mul, Rat.intCast_add, ← e]
  grind
theorem OvP.up3 {D : Int} {n : Nat} {p : Pt} (h : OvP D n p) (hn : n ≤ 160) : OvP (D * 3) 180 p := ⟨(h.1.scale (e := 2) ⟨by decide⟩).mono (by omega), (h.2.scale (e := 2) ⟨by decide⟩).mono (by omega)⟩
/-! ### promises -/
noncomputable def spSpareG (K : PySem.W.Frag) : Sp := fun vs H Q _ => ∃ (a : Addr) (ws : List V) (ps : List Pt), vs = [.ref a] ∧ H a = some (.lst ws) ∧ PtsV H ws ps ∧ 1 ≤ ps.length ∧ ∀ b : Bool, (b = true ↔ 1 < ps.length ∧ ps[ps.length - 1]? = some (0, 0)) → Q (.bl b) H
noncomputable def spLoweredX (K : PySem.W.Frag) (C : Addr) : Sp := fun vs H Q E => ∃ (a : Addr) (ws : List V) (ps : List Pt) (D : Int) (m : Nat), vs = [.ref a] ∧ SqL K H a ws ∧ PtsV H ws ps ∧ Fine1 ps D m ∧ m ≤ 1000 ∧
  (∀ qs, lpP ps = lpP qs ++ [(0, 0)] → 1 ≤ qs.length → ∀ (l : Addr) (us : List V) (H' : Hp), Same H H' → H l = none → H' l = some (.lst us) → PtsV H' us qs → Q (.ref l) H') ∧ ((ps.length = 1 ∨ lastD ps ≠ (0, 0)) → ∀ H', Same H H' → E (.ref C) none H')
noncomputable def spToldL (K : PySem.W.Frag) : Sp := fun vs H Q _ => ∃ (a : Addr) (ws : List V) (ps : List Pt) (D : Int) (m : Nat), vs = [.ref a] ∧ SqL K H a ws ∧ PtsV H ws ps ∧ Fine1 ps D m ∧ m ≤ 1000 ∧
  (∀ qs, lpP ps = lpP qs ++ [(0, 0)] → 1 ≤ qs.length → ∀ (l : Addr) (us : List V) (H' : Hp), Same H H' → H l = none → H' l = some (.lst us) → PtsV H' us qs → Q (.ref l) H') ∧ ((ps.length = 1 ∨ lastD ps ≠ (0, 0)) → ∀ H', Same H H' → Q (.bl true) H')
noncomputable def spLRaised (K : PySem.W.Frag) : Sp := fun vs H Q _ => ∃ (a : Addr) (ws : List V) (ps : List Pt), vs = [.ref a] ∧ SqL K H a ws ∧ PtsV H ws ps ∧ (∀ p ∈ ps, Bd 2800 p.1 ∧ Bd 2800 p.2) ∧ 1 ≤ ps.length ∧ ps.length ≤ 12 ∧
  ∀ (l : Addr) (us : List V) (H' : Hp), Same H H' → H l = none → H' l = some (.lst us) → PtsV H' us (raP ps) → Q (.ref l) H'
noncomputable def spLHanded (K : PySem.W.Frag) : Sp := fun vs H Q _ => ∃ (a : Addr) (ns : List Int), vs = [.ref a] ∧ SqL K H a (ns.map V.int) ∧ ∀ (l : Addr) (ws : List V) (ps : List Pt) (D : Int) (H' : Hp), Same H H' → H l = none → H' l = some (.lst ws) → PtsV H' ws ps → 1 ≤ ps.length → ps.length ≤ 12 → 0 < D → Sz 60 D → (∀ p ∈ ps, OvP D 180 p) → Q (.ref l) H'
noncomputable def spLastD (K : PySem.W.Frag) : Sp := fun vs H Q _ => ∃ (a : Addr) (ws : List V) (ps : List Pt) (D : Int) (m : Nat), vs = [.ref a] ∧ SqL K H a ws ∧ PtsV H ws ps ∧ 1 ≤ ps.length ∧ ps.length ≤ 12 ∧ 0 < D ∧ Sz 1500 D ∧ m ≤ 1500 ∧ (∀ p ∈ ps, OvP D m p) ∧ ∀ v H', Same H H' → PtV H' v (lastD ps).1 (lastD ps).2 → Q v H'
end Cv

set_option maxHeartbeats 4000000
namespace Cv
open PySem L2
local macro_rules | `(tactic| walk_at "hf") => `(tactic| first
  | assumption
  | exact upd_same
  | (refine upd_keep (by assumption) ?_; walk_at "hf")
  | (refine (by assumption : L2.Same _ _) _ _ ?_; walk_at "hf")
  | fail)
local macro_rules | `(tactic| walk_at "sm") => `(tactic| first
  | assumption
  | exact L2.Same.refl _
  | (refine L2.Same.trans ?_ (by assumption : L2.Same _ _); walk_at "sm")
  | (refine L2.Same.trans ?_ (Same.new (by assumption)); walk_at "sm")
  | fail)
local macro_rules | `(tactic| walk_at "mv") => `(tactic| first
  | assumption
  | (refine ShV.same ?_ (by assumption : L2.Same _ _); walk_at "mv")
  | (refine ShV.same ?_ (Same.new (by assumption)); walk_at "mv")
  | (refine PtV.same ?_ (by assumption : L2.Same _ _); walk_at "mv")
  | (refine PtV.same ?_ (Same.new (by assumption)); walk_at "mv")
  | (refine RwV.same ?_ (by assumption : L2.Same _ _); walk_at "mv")
  | (refine RwV.same ?_ (Same.new (by assumption)); walk_at "mv")
  | (refine RwQ.same ?_ (by assumption : L2.Same _ _); walk_at "mv")
  | (refine RwQ.same ?_ (Same.new (by assumption)); walk_at "mv")
  | (refine MpV.same ?_ (by assumption : L2.Same _ _); walk_at "mv")
  | (refine MpV.same ?_ (Same.new (by assumption)); walk_at "mv")
  | (refine PtsV.same ?_ (by assumption : L2.Same _ _); walk_at "mv")
  | (refine PtsV.same ?_ (Same.new (by assumption)); walk_at "mv")
  | (refine AxV.same ?_ (by assumption : L2.Same _ _); walk_at "mv")
  | (refine AxV.same ?_ (Same.new (by assumption)); walk_at "mv")
  | (refine ShL.same ?_ (by assumption : L2.Same _ _); walk_at "mv")
  | (refine ShL.same ?_ (Same.new (by assumption)); walk_at "mv")
  | (refine SqL.same' ?_ (by assumption : L2.Same _ _); walk_at "mv")
  | (refine SqL.same' ?_ (Same.new (by assumption)); walk_at "mv")
  | fail)
local macro_rules | `(tactic| walk_at "sq") => `(tactic| first
  | exact SqT.of (by walk_at "hf")
  | exact SqL.of (by walk_at "hf")
  | walk_at "mv"
  | fail)
local macro_rules | `(tactic| walk_at "at") => `(tactic| first
  | rfl
  | assumption
  | exact at_mapZ _ _ (by omega) (by omega)
  | fail)
local macro_rules | `(tactic| walk_at "sz") => `(tactic| first
  | assumption
  | exact Bd.num (by assumption)
  | exact Bd.den (by assumption)
  | exact Sz.one
  | exact Sz.mul (by walk_at "sz") (by walk_at "sz")
  | exact Sz.add (by walk_at "sz") (by walk_at "sz")
  | exact Sz.sub (by walk_at "sz") (by walk_at "sz")
  | exact Sz.neg (by walk_at "sz")
  | fail)
local macro_rules | `(tactic| walk_at "bdx") => `(tactic| first
  | assumption
  | exact Bd.zero'
  | exact Bd.one'
  | exact Bd.add (by walk_at "bdx") (by walk_at "bdx")
  | exact Bd.sub (by walk_at "bdx") (by walk_at "bdx")
  | exact Bd.mul (by walk_at "bdx") (by walk_at "bdx")
  | fail)
local macro_rules | `(tactic| walk_at "bd") => `(tactic| exact Bd.mono (by walk_at "bdx") (by decide))
local macro_rules | `(tactic| walk_at "szm") => `(tactic| exact Sz.mono (by walk_at "sz") (by decide))
local macro_rules | `(tactic| walk_at "arith") => `(tactic| first
  | exact pos30
  | exact pl
  | exact ⟨by decide, by decide⟩
  | exact ⟨by decide, by decide, by decide⟩
  | exact mulL (by decide) (by decide)
  | exact mulR (by decide) (by decide)
  | exact mulR (by omega) (by omega)
  | exact mulL (by omega) (by omega)
  | exact mulB (by walk_at "sz") (by walk_at "sz")
  | fail)
local macro_rules | `(tactic| walk_at "len") => `(tactic| first
  | (show 2 ≤ sizeLine; decide)
  | (show 0 ≤ sizeLine; decide)
  | (show 1 ≤ sizeLine; decide)
  | (show 3 ≤ sizeLine; decide)
  | (show 4 ≤ sizeLine; decide)
  | (show 5 ≤ sizeLine; decide)
  | (show 6 ≤ sizeLine; decide)
  | (show 8 ≤ sizeLine; decide)
  | fail)
local macro_rules | `(tactic| walk_at "r1") => `(tactic| first
  | refine ⟨_, _, rfl, rfl, by walk_at "arith", ?_⟩
  | refine ⟨_, _, rfl, rfl, ?_⟩
  | refine ⟨_, _, _, _, rfl, rfl, by walk_at "sq", by walk_at "at", ?_⟩
  | refine ⟨_, rfl, ?_⟩
  | refine ⟨rfl, ?_⟩
  | refine ⟨_, _, rfl, .inr (SqT.of (by walk_at "hf")), ?_⟩
  | refine ⟨_, _, rfl, .inl (SqL.of (by walk_at "hf")), ?_⟩
  | refine ⟨_, "tuple", _, _, rfl, TyOf.tup (by walk_at "hf"), kit_tt _, ?_⟩
  | refine ⟨_, "list", _, _, rfl, TyOf.lst (by walk_at "hf"), kit_ll _, ?_⟩
  | refine ⟨_, "int", _, _, rfl, TyOf.int _, kit_ii _, ?_⟩
  | refine ⟨_, "bool", _, _, rfl, TyOf.int _, kit_ib _, ?_⟩
  | refine ⟨_, "bool", _, _, rfl, TyOf.bl _, kit_bb _, ?_⟩
  | refine ⟨by walk_at "len", ?_⟩
  | refine ⟨by decide, ?_⟩
  | fail)
local macro_rules | `(tactic| walk_at "rd") => `(tactic| repeat walk_at "r1")
local macro_rules | `(tactic| walk_at "fr") => `(tactic| first
  | assumption
  | (refine L2.Same.free (by assumption : L2.Same _ _) ?_; walk_at "fr")
  | (refine L2.Same.free (Same.new (by assumption)) ?_; walk_at "fr")
  | fail)
local macro_rules | `(tactic| walk_at "tk") => `(tactic| first
  | assumption
  | fail)
local macro_rules | `(tactic| walk_at "mv") => `(tactic| first
  | assumption
  | (refine ShK.same ?_ (by assumption : L2.Same _ _); walk_at "mv")
  | (refine ShK.same ?_ (Same.new (by assumption)); walk_at "mv")
  | (refine PtK.same ?_ (by assumption : L2.Same _ _); walk_at "mv")
  | (refine PtK.same ?_ (Same.new (by assumption)); walk_at "mv")
  | (refine PtsK.same ?_ (by assumption : L2.Same _ _); walk_at "mv")
  | (refine PtsK.same ?_ (Same.new (by assumption)); walk_at "mv")
  | (refine ShV.k ?_; walk_at "mv")
  | (refine PtV.k ?_; walk_at "mv")
  | (refine PtsV.k ?_; walk_at "mv")
  | fail)
local macro_rules | `(tactic| walk_at "sq") => `(tactic| first
  | exact TK.sq (by walk_at "tk")
  | fail)
local macro_rules | `(tactic| walk_at "rk1") => `(tactic| first
  | refine ⟨_, "tuple", _, _, rfl, .inr ⟨rfl, _, _, rfl, by walk_at "sq"⟩, kit_tt _, ?_⟩
  | refine ⟨_, "list", _, _, rfl, .inl (TyOf.lst (by walk_at "hf")), kit_ll _, ?_⟩
  | refine ⟨_, "int", _, _, rfl, .inl (TyOf.int _), kit_ii _, ?_⟩
  | refine ⟨_, "bool", _, _, rfl, .inl (TyOf.int _), kit_ib _, ?_⟩
  | refine ⟨_, "bool", _, _, rfl, .inl (TyOf.bl _), kit_bb _, ?_⟩
  | refine ⟨_, _, rfl, .inr (by walk_at "sq"), ?_⟩
  | walk_at "r1"
  | fail)
local macro_rules | `(tactic| walk_at "rk") => `(tactic| repeat walk_at "rk1")

structure Cst (K : PySem.W.Frag) (mg : Str → Option Value) (A_NOUGHT : Addr) : Prop where
  NOUGHT : mg "NOUGHT" = some (.ref A_NOUGHT)
  pNOUGHT : ∀ H, PtK K H (.ref A_NOUGHT) 0 0
structure Exc (K : PySem.W.Frag) (mg : Str → Option Value) (C_SeatError C_NoLower C_NoShare C_NoMap C_NoJoin C_NoPlace C_TooMany C_NoText C_NoName : Addr) : Prop where
  SeatError : mg "SeatError" = some (.ref C_SeatError)
  NoLower : mg "NoLower" = some (.ref C_NoLower)
  NoShare : mg "NoShare" = some (.ref C_NoShare)
  NoMap : mg "NoMap" = some (.ref C_NoMap)
  NoJoin : mg "NoJoin" = some (.ref C_NoJoin)
  NoPlace : mg "NoPlace" = some (.ref C_NoPlace)
  TooMany : mg "TooMany" = some (.ref C_TooMany)
  NoText : mg "NoText" = some (.ref C_NoText)
  NoName : mg "NoName" = some (.ref C_NoName)
  xNoLower : XCls K mg "NoLower" C_NoLower
  mNoLower : PySem.W.exmOne K (.ref C_NoLower) (.ref C_SeatError) = some true
  vNoLower : PySem.W.kitOne K (.ref C_NoLower) (.type "ValueError") = some true
  nNoLower : XNot K C_NoLower
  fNoLower_NoShare : PySem.W.kitOne K (.ref C_NoLower) (.ref C_NoShare) = some false
  fNoLower_NoMap : PySem.W.kitOne K (.ref C_NoLower) (.ref C_NoMap) = some false
  fNoLower_NoJoin : PySem.W.kitOne K (.ref C_NoLower) (.ref C_NoJoin) = some false
  fNoLower_NoPlace : PySem.W.kitOne K (.ref C_NoLower) (.ref C_NoPlace) = some false
  fNoLower_TooMany : PySem.W.kitOne K (.ref C_NoLower) (.ref C_TooMany) = some false
  fNoLower_NoText : PySem.W.kitOne K (.ref C_NoLower) (.ref C_NoText) = some false
  fNoLower_NoName : PySem.W.kitOne K (.ref C_NoLower) (.ref C_NoName) = some false
noncomputable def top (i : Nat) : Stmt := PySem.Challenge.pw_curveseat_k32_lowered_or_not.main.body.getD i (.Pass ⟨0, 0, 0, 0⟩)
noncomputable abbrev s_greatest_common : Stmt := top 11
theorem sc_greatest_common : FnScope ["one", "other"] ["one", "other"] (defScope s_greatest_common) := ⟨rfl, rfl, rfl, by decide +kernel, rfl, by decide +kernel, by decide +kernel⟩
noncomputable abbrev s_common_bottoms : Stmt := top 14
theorem sc_common_bottoms : FnScope ["shares", "found", "whole", "one", "more"] ["shares"] (defScope s_common_bottoms) := ⟨rfl, rfl, rfl, by decide +kernel, rfl, by decide +kernel, by decide +kernel⟩
noncomputable abbrev s_product : Stmt := top 15
theorem sc_product : FnScope ["numbers", "found", "number"] ["numbers"] (defScope s_product) := ⟨rfl, rfl, rfl, by decide +kernel, rfl, by decide +kernel, by decide +kernel⟩
noncomputable abbrev s_share_over : Stmt := top 16
theorem sc_share_over : FnScope ["top", "bottoms", "below", "bottom", "common"] ["top", "bottoms"] (defScope s_share_over) := ⟨rfl, rfl, rfl, by decide +kernel, rfl, by decide +kernel, by decide +kernel⟩
noncomputable abbrev s_axis : Stmt := top 17
theorem sc_axis : FnScope ["shares", "bottoms", "whole"] ["shares"] (defScope s_axis) := ⟨rfl, rfl, rfl, by decide +kernel, rfl, by decide +kernel, by decide +kernel⟩
noncomputable abbrev s_axes : Stmt := top 18
theorem sc_axes : FnScope ["points"] ["points"] (defScope s_axes) := ⟨rfl, rfl, rfl, by decide +kernel, rfl, by decide +kernel, by decide +kernel⟩
noncomputable abbrev s_points_of : Stmt := top 19
theorem sc_points_of : FnScope ["xs", "ys"] ["xs", "ys"] (defScope s_points_of) := ⟨rfl, rfl, rfl, by decide +kernel, rfl, by decide +kernel, by decide +kernel⟩
noncomputable abbrev s_spread : Stmt := top 20
theorem sc_spread : FnScope ["n", "one", "other", "found"] ["n", "one", "other"] (defScope s_spread) := ⟨rfl, rfl, rfl, by decide +kernel, rfl, by decide +kernel, by decide +kernel⟩
noncomputable abbrev s_axis_powers : Stmt := top 22
theorem sc_axis_powers : FnScope ["one", "tops", "bottoms", "found", "ways"] ["one"] (defScope s_axis_powers) := ⟨rfl, rfl, rfl, by decide +kernel, rfl, by decide +kernel, by decide +kernel⟩
noncomputable abbrev s_axis_seats : Stmt := top 23
theorem sc_axis_seats : FnScope ["one", "tops", "bottoms", "parts", "more", "found", "top", "part"] ["one"] (defScope s_axis_seats) := ⟨rfl, rfl, rfl, by decide +kernel, rfl, by decide +kernel, by decide +kernel⟩
noncomputable abbrev s_sums_from : Stmt := top 24
theorem sc_sums_from : FnScope ["first", "steps", "found", "more"] ["first", "steps"] (defScope s_sums_from) := ⟨rfl, rfl, rfl, by decide +kernel, rfl, by decide +kernel, by decide +kernel⟩
noncomputable abbrev s_powers : Stmt := top 25
theorem sc_powers : FnScope ["curve", "xs", "ys"] ["curve"] (defScope s_powers) := ⟨rfl, rfl, rfl, by decide +kernel, rfl, by decide +kernel, by decide +kernel⟩
noncomputable abbrev s_of_powers : Stmt := top 26
theorem sc_of_powers : FnScope ["some", "xs", "ys"] ["some"] (defScope s_of_powers) := ⟨rfl, rfl, rfl, by decide +kernel, rfl, by decide +kernel, by decide +kernel⟩
noncomputable abbrev s_last_is_spare : Stmt := top 28
theorem sc_last_is_spare : FnScope ["some"] ["some"] (defScope s_last_is_spare) := ⟨rfl, rfl, rfl, by decide +kernel, rfl, by decide +kernel, by decide +kernel⟩
noncomputable abbrev s_lowered : Stmt := top 29
theorem sc_lowered : FnScope ["curve", "some"] ["curve"] (defScope s_lowered) := ⟨rfl, rfl, rfl, by decide +kernel, rfl, by decide +kernel, by decide +kernel⟩
noncomputable abbrev s_l_cell_at : Stmt := top 31
theorem sc_l_cell_at : FnScope ["_law_script", "_law_k"] ["_law_script", "_law_k"] (defScope s_l_cell_at) := ⟨rfl, rfl, rfl, by decide +kernel, rfl, by decide +kernel, by decide +kernel⟩
noncomputable abbrev s_l_stream : Stmt := top 32
theorem sc_l_stream : FnScope ["_law_cell", "_law_many", "_law_number", "_law_found", "_law_k"] ["_law_cell", "_law_many"] (defScope s_l_stream) := ⟨rfl, rfl, rfl, by decide +kernel, rfl, by decide +kernel, by decide +kernel⟩
noncomputable abbrev s_l_low : Stmt := top 33
theorem sc_l_low : FnScope ["_law_top", "_law_bottom", "_law_one", "_law_other"] ["_law_top", "_law_bottom"] (defScope s_l_low) := ⟨rfl, rfl, rfl, by decide +kernel, rfl, by decide +kernel, by decide +kernel⟩
noncomputable abbrev s_l_plus : Stmt := top 34
theorem sc_l_plus : FnScope ["_law_one", "_law_other"] ["_law_one", "_law_other"] (defScope s_l_plus) := ⟨rfl, rfl, rfl, by decide +kernel, rfl, by decide +kernel, by decide +kernel⟩
noncomputable abbrev s_l_between : Stmt := top 36
theorem sc_l_between : FnScope ["_law_one", "_law_other", "_law_t_here", "_law_mine", "_law_yours"] ["_law_one", "_law_other", "_law_t_here"] (defScope s_l_between) := ⟨rfl, rfl, rfl, by decide +kernel, rfl, by decide +kernel, by decide +kernel⟩
noncomputable abbrev s_l_on_way : Stmt := top 37
theorem sc_l_on_way : FnScope ["_law_one", "_law_other", "_law_t_here"] ["_law_one", "_law_other", "_law_t_here"] (defScope s_l_on_way) := ⟨rfl, rfl, rfl, by decide +kernel, rfl, by decide +kernel, by decide +kernel⟩
noncomputable abbrev s_l_curve : Stmt := top 41
theorem sc_l_curve : FnScope ["_law_cell", "_law_more", "_law_xs", "_law_many", "_law_bottom", "_law_far", "_law_curve_here", "_law_k", "_law_x", "_law_y"] ["_law_cell", "_law_more"] (defScope s_l_curve) := ⟨rfl, rfl, rfl, by decide +kernel, rfl, by decide +kernel, by decide +kernel⟩
noncomputable abbrev s_l_is_share : Stmt := top 42
theorem sc_l_is_share : FnScope ["_law_thing"] ["_law_thing"] (defScope s_l_is_share) := ⟨rfl, rfl, rfl, by decide +kernel, rfl, by decide +kernel, by decide +kernel⟩
noncomputable abbrev s_l_is_curve : Stmt := top 43
theorem sc_l_is_curve : FnScope ["_law_thing", "_law_many", "_law_seat"] ["_law_thing", "_law_many"] (defScope s_l_is_curve) := ⟨rfl, rfl, rfl, by decide +kernel, rfl, by decide +kernel, by decide +kernel⟩
noncomputable abbrev s_l_raised : Stmt := top 44
theorem sc_l_raised : FnScope ["_law_curve_here", "_law_many", "_law_found", "_law_k"] ["_law_curve_here"] (defScope s_l_raised) := ⟨rfl, rfl, rfl, by decide +kernel, rfl, by decide +kernel, by decide +kernel⟩
noncomputable abbrev s_l_handed : Stmt := top 45
theorem sc_l_handed : FnScope ["_law_script", "_law_curve_here", "_law_way", "_law_k", "_law_at", "_law_more", "_law_x", "_law_y"] ["_law_script"] (defScope s_l_handed) := ⟨rfl, rfl, rfl, by decide +kernel, rfl, by decide +kernel, by decide +kernel⟩
noncomputable abbrev s_l_last_difference : Stmt := top 46
theorem sc_l_last_difference : FnScope ["_law_curve_here", "_law_row", "_law_longer", "_law_k", "_law_x", "_law_y", "_law_u", "_law_v"] ["_law_curve_here"] (defScope s_l_last_difference) := ⟨rfl, rfl, rfl, by decide +kernel, rfl, by decide +kernel, by decide +kernel⟩
noncomputable abbrev s_l_told : Stmt := top 47
theorem sc_l_told : FnScope ["_law_curve_here", "_law_found", "e", "_law_kinds"] ["_law_curve_here"] (defScope s_l_told) := ⟨rfl, rfl, rfl, by decide +kernel, rfl, by decide +kernel, by decide +kernel⟩
noncomputable abbrev s_law : Stmt := top 48
theorem sc_law : FnScope ["_law_script", "_law_curve_here", "_law_handed_here", "_law_found"] ["_law_script"] (defScope s_law) := ⟨rfl, rfl, rfl, by decide +kernel, rfl, by decide +kernel, by decide +kernel⟩
section
variable {P : Program} {w : World} {K : PySem.W.Frag} {mg : Str → Option Value} {base : Heap}
theorem ok_l_cell_at (F : FunAt K mg "_law_cell_at" s_l_cell_at ["_law_script", "_law_k"]) (B : Blt mg) {C_SeatError C_NoLower C_NoShare C_NoMap C_NoJoin C_NoPlace C_TooMany C_NoText C_NoName : Addr} (X : Exc K mg C_SeatError C_NoLower C_NoShare C_NoMap C_NoJoin C_NoPlace C_TooMany C_NoText C_NoName) {A_NOUGHT : Addr} (G : Cst K mg A_NOUGHT) : DefOk P w K mg base CX0 1 "_law_cell_at" ["_law_script", "_law_k"] (spCell K) := by
  refine def_okI F sc_l_cell_at (fun vs H Q E h => ?_) (fun f cdv A outer s H vs Q E hr h => ?_)
  · obtain ⟨a, ns, i, rfl, _⟩ := h; rfl
  · obtain ⟨a, ns, i, rfl, hS, h0, k⟩ := h
    have hu := hr.units
    refine ⟨_, (pss_consI (ps_ifI (pt_cmpRI op_lt (pvI 1) (pe_callBI (call_lenK K) (by rfl) B.len PySem.boot_len (pa_consI (pvI 0) pa_nilI)) (nomark _)) (pss_oneI (ps_retI (pe_ixI (ix_listK K) (pvI 0) (pvI 1) (fun _ _ => rfl)))) pss_nilI)
      (pss_oneI (ps_retI pe_intI))), ?_⟩
    refine ⟨_, rfl, _, rfl, a, _, rfl, .inl hS, _, _, rfl, rfl, _, rfl, ite_dec (fun hn => ?_) (fun hn => ?_)⟩
    · rw [List.length_map] at hn
      refine ⟨_, rfl, _, rfl, a, _, _, _, rfl, rfl, hS, at_mapZ ns i h0 hn, ?_⟩
      exact k _
    · exact k 0
theorem ok_l_low (F : FunAt K mg "_law_low" s_l_low ["_law_top", "_law_bottom"]) (B : Blt mg) {C_SeatError C_NoLower C_NoShare C_NoMap C_NoJoin C_NoPlace C_TooMany C_NoText C_NoName : Addr} (X : Exc K mg C_SeatError C_NoLower C_NoShare C_NoMap C_NoJoin C_NoPlace C_TooMany C_NoText C_NoName) {A_NOUGHT : Addr} (G : Cst K mg A_NOUGHT) : DefOk P w K mg base CX0 1 "_law_low" ["_law_top", "_law_bottom"] spLShare := by
  refine def_okI F sc_l_low (fun vs H Q E h => ?_) (fun f cdv A outer s H vs Q E hr h => ?_)
  · obtain ⟨a, b, rfl, _⟩ := h; rfl
  · obtain ⟨t, b, rfl, hb, hz, k⟩ := h
    have hu := hr.units
    refine ⟨_, (pss_consI (ps_setI (i := 2) sc_l_low.nd rfl (by first | exact Or.inl rfl | exact Or.inr rfl) (pe_callBI call_abs (by rfl) B.abs PyProof.Rows.boot_abs (pa_consI (pvI 0) pa_nilI)))
      (pss_consI (ps_setI (i := 3) sc_l_low.nd rfl (by first | exact Or.inl rfl | exact Or.inr rfl) (pvI 1))
      (pss_consI (ps_whileI PassesOwn.never (pt_cmpRI op_ne (pvI 3) pe_intI (nomark _)) (pss_oneI (ps_parI (i := 2) (j := 3) rfl sc_l_low.nd rfl rfl (by decide) rfl rfl (pa_consI (pvI 3) (pa_consI (pe_opI op_mod (pvI 2) (pvI 3)) pa_nilI)) rfl)))
      (pss_oneI (ps_retI (pe_tupI (pa_consI (pe_opI op_fdivB (pvI 0) (pvI 2)) (pa_consI (pe_opI op_fdivB (pvI 1) (pvI 2)) pa_nilI)))))))), ?_⟩
    have g0 : (Int.gcd t b : Int) ≠ 0 := gcd_pos' t b (by omega)
    have gz : Sz 9000 (Int.gcd t b : Int) := hz.le (by
      rw [Int.natAbs_natCast]
      exact Nat.le_of_dvd (by omega) (Int.gcd_dvd_natAbs_right t b))
    walk_at "rd"
    refine while_by (fun σ H' => ∃ x y : Int, σ = [some (.int t), some (.int b), some (.int x), some (.int y)] ∧ H' = H ∧ 0 ≤ x ∧ 0 ≤ y ∧ Int.gcd x y = Int.gcd t b) (fun σ _ => match σ with | [_, _, _, some (.int y)] => y.natAbs | _ => 0) ⟨_, b, rfl, rfl, by split <;> omega, by omega, gcd_abs t b⟩ ?_ ?_
    · rintro σ H' ⟨x, y, rfl, rfl, hx, hy, e⟩
      refine ⟨_, rfl, rfl, _, rfl, ?_⟩
      by_cases h0 : y = 0
      · subst h0
        have hg := low_gcd hx e
        subst hg
        refine iteNS rfl ?_
        refine ⟨_, rfl, _, rfl, _, _, rfl, rfl, ⟨g0, gz⟩, _, rfl, _, rfl, _, _, rfl, rfl, ⟨g0, gz⟩, (by show 2 ≤ sizeLine; decide), fun p hp => ?_⟩
        have e := share_pos t b hb
        refine k _ _ (Same.new hp) ⟨p, rfl, ?_⟩
        rw [upd_same, ← e.1, ← e.2]
      · refine ifT (dec_int_ne h0) ?_
        have hn : 0 < y := by omega
        refine ⟨_, rfl, _, rfl, _, rfl, _, _, rfl, rfl, hn, _, _, rfl, ⟨_, _, rfl, rfl, hy, Int.emod_nonneg x (by omega), ?_⟩, ?_⟩
        · rw [emod_gcd x y hn]; exact e
        · show (x % y).natAbs < y.natAbs
          have := Int.emod_lt_of_pos x hn
          have := Int.emod_nonneg x (b := y) (by omega)
          omega
    · rintro σ H' Q Q' hq ⟨v, h1, hs, k1, h2, h3⟩
      exact ⟨v, h1, hs, k1, h2, hq _ _ h3⟩
theorem ok_l_stream (F : FunAt K mg "_law_stream" s_l_stream ["_law_cell", "_law_many"]) (B : Blt mg) {C_SeatError C_NoLower C_NoShare C_NoMap C_NoJoin C_NoPlace C_TooMany C_NoText C_NoName : Addr} (X : Exc K mg C_SeatError C_NoLower C_NoShare C_NoMap C_NoJoin C_NoPlace C_TooMany C_NoText C_NoName) {A_NOUGHT : Addr} (G : Cst K mg A_NOUGHT) : DefOk P w K mg base CX0 1 "_law_stream" ["_law_cell", "_law_many"] spStreamB := by
  refine def_okI F sc_l_stream (fun vs H Q E h => ?_) (fun f cdv A outer s H vs Q E hr h => ?_)
  · obtain ⟨c, n, rfl, _⟩ := h; rfl
  · obtain ⟨c, n, rfl, hn, k⟩ := h
    have hu := hr.units
    refine ⟨_, (pss_consI (ps_setI (i := 2) sc_l_stream.nd rfl (by first | exact Or.inl rfl | exact Or.inr rfl) (pe_opI op_add (pe_opI op_mod (pvI 0) pe_intI) pe_intI))
      (pss_consI (ps_setI (i := 3) sc_l_stream.nd rfl (by first | exact Or.inl rfl | exact Or.inr rfl) (pe_lstI pa_nilI))
      (pss_consI (ps_forI PassesOwn.never rfl (pi_range1I rfl B.range (pa_consI (pe_opI op_add (pvI 1) pe_intI) pa_nilI)) (pg_nameI (i := 4) sc_l_stream.nd rfl (by first | exact Or.inl rfl | exact Or.inr rfl))
      (pss_consI (ps_setI (i := 2) sc_l_stream.nd rfl (by first | exact Or.inl rfl | exact Or.inr rfl) (pe_opI op_mod (pe_opI op_add (pe_opI op_add (pe_opI op_add (pe_opI op_mulA (pvI 2) pe_intI) (pe_opI op_fdiv (pvI 2) pe_intI)) (pe_opI op_mulA pe_intI (pvI 4))) pe_intI) pe_intI))
      (pss_oneI (ps_exprI (pe_bmI PySem.F.plainAttrs_list PySem.F.slot_list_append PySem.F.type_list_append mt_append (pvI 3) (pa_consI (pe_opI op_fdiv (pvI 2) pe_intI) pa_nilI))))))
      (pss_oneI (ps_retI (pe_sliceI (sl_listK K) (pvI 3) (po_someI pe_intI) po_noneI)))))), ?_⟩
    walk_at "rd"
    intro l hl
    walk_at "rd"
    refine ⟨by omega, by omega, for_range (fun i σ H' => ∃ (x : Int) (xs : List Int) (y : Option V), σ = [some (.int c), some (.int (n : Int)), some (.int x), some (.ref l), y] ∧ Same H H' ∧ H' l = some (.lst (xs.map V.int)) ∧ xs.length = i ∧ ∀ z ∈ xs, 0 ≤ z) ⟨_, [], none, rfl, Same.new hl, upd_same, rfl, fun _ h => nomatch h⟩ ?_ ?_⟩
    · rintro i σ H2 hi ⟨x, xs, y, rfl, s2, h2, hlen, hx⟩
      walk_at "rd"
      refine ⟨.inl ⟨rfl, _, SqL.of h2⟩, ?_⟩
      walk_at "rd"
      refine ⟨l, _, _, rfl, rfl, h2, ?_, ?_⟩
      · rw [List.length_map, hlen]; exact small_line (by omega)
      · refine ⟨_, xs ++ [(x * 48271 + x / 40692 + 31 * (0 + (i : Int)) + 3) % 2147483647 / 8], _, rfl, fun b o e => ?_, ?_, ?_, ?_⟩
        · rw [upd_ne (ne_of_none e hl)]; exact s2 b o e
        · rw [upd_same, List.map_append]; rfl
        · rw [List.length_append, hlen]; rfl
        · intro z hz
          rcases List.mem_append.mp hz with hz | hz
          · exact hx z hz
          · cases List.mem_singleton.mp hz
            have := Int.emod_nonneg (x * 48271 + x / 40692 + 31 * (0 + (i : Int)) + 3) (b := 2147483647) (by decide)
            exact Int.ediv_nonneg this (by decide)
    · rintro σ H2 ⟨x, xs, y, rfl, s2, h2, hlen, hx⟩
      refine ⟨_, rfl, 2, rfl, l, _, rfl, SqL.of h2, fun q hq => ?_⟩
      rw [cut_fromI V.int xs 2 2 rfl (by omega)]
      exact k q (xs.drop 2) _ (s2.trans (Same.new hq)) upd_same (by rw [List.length_drop, hlen]; omega) fun z hz => hx z (List.mem_of_mem_drop hz)
theorem ok_l_curve (F : FunAt K mg "_law_curve" s_l_curve ["_law_cell", "_law_more"]) (B : Blt mg) {C_SeatError C_NoLower C_NoShare C_NoMap C_NoJoin C_NoPlace C_TooMany C_NoText C_NoName : Addr} (X : Exc K mg C_SeatError C_NoLower C_NoShare C_NoMap C_NoJoin C_NoPlace C_TooMany C_NoText C_NoName) {A_NOUGHT : Addr} (G : Cst K mg A_NOUGHT) (D_l_low : DefOk P w K mg base CX0 1 "_law_low" ["_law_top", "_law_bottom"] spLShare) (D_l_stream : DefOk P w K mg base CX0 1 "_law_stream" ["_law_cell", "_law_many"] spStreamB) : DefOk P w K mg base CX0 2 "_law_curve" ["_law_cell", "_law_more"] spLCurve := by
  refine def_okI F sc_l_curve (fun vs H Q E h => ?_) (fun f cdv A outer s H vs Q E hr h => ?_)
  · obtain ⟨c, m, rfl, _⟩ := h; rfl
  · obtain ⟨c, m, rfl, k⟩ := h
    have hu := hr.units
    refine ⟨_, (pss_consI (ps_setI (i := 2) sc_l_curve.nd rfl (by first | exact Or.inl rfl | exact Or.inr rfl) (pe_fnI D_l_stream hr pass0 (pa_consI (pvI 0) (pa_consI pe_intI pa_nilI))))
      (pss_consI (ps_setI (i := 3) sc_l_curve.nd rfl (by first | exact Or.inl rfl | exact Or.inr rfl) (pe_ixI (ix_listK K) (pe_lstI (pa_consI pe_intI (pa_consI pe_intI (pa_consI pe_intI (pa_consI pe_intI (pa_consI pe_intI (pa_consI pe_intI (pa_consI pe_intI (pa_consI pe_intI pa_nilI))))))))) (pe_opI op_mod (pe_ixI (ix_listK K) (pvI 2) pe_intI (fun _ _ => rfl)) pe_intI) (fun _ _ => rfl)))
      (pss_consI (ps_ifI (pt_cmpRI op_eq (pe_opI op_mod (pe_ixI (ix_listK K) (pvI 2) pe_intI (fun _ _ => rfl)) pe_intI) pe_intI (nomark _)) (pss_oneI (ps_setI (i := 3) sc_l_curve.nd rfl (by first | exact Or.inl rfl | exact Or.inr rfl) (pe_opI op_add pe_intI (pe_opI op_mod (pe_ixI (ix_listK K) (pvI 2) pe_intI (fun _ _ => rfl)) pe_intI)))) pss_nilI)
      (pss_consI (ps_setI (i := 4) sc_l_curve.nd rfl (by first | exact Or.inl rfl | exact Or.inr rfl) (pe_ixI (ix_listK K) (pe_lstI (pa_consI pe_intI (pa_consI pe_intI (pa_consI pe_intI (pa_consI pe_intI (pa_consI pe_intI (pa_consI pe_intI (pa_consI pe_intI (pa_consI (pe_opI op_add (pe_opI op_pow pe_intI pe_intI) pe_intI) pa_nilI))))))))) (pe_opI op_mod (pe_ixI (ix_listK K) (pvI 2) pe_intI (fun _ _ => rfl)) pe_intI) (fun _ _ => rfl)))
      (pss_consI (ps_setI (i := 5) sc_l_curve.nd rfl (by first | exact Or.inl rfl | exact Or.inr rfl) (pe_opI op_mulA (pe_ixI (ix_listK K) (pe_lstI (pa_consI pe_intI (pa_consI pe_intI (pa_consI pe_intI pa_nilI)))) (pe_opI op_mod (pe_opI op_fdiv (pe_ixI (ix_listK K) (pvI 2) pe_intI (fun _ _ => rfl)) pe_intI) pe_intI) (fun _ _ => rfl)) (pe_opI op_mod (pvI 1) (pe_opI op_pow pe_intI pe_intI))))
      (pss_consI (ps_setI (i := 6) sc_l_curve.nd rfl (by first | exact Or.inl rfl | exact Or.inr rfl) (pe_lstI pa_nilI))
      (pss_consI (ps_forI PassesOwn.never rfl (pi_range1I rfl B.range (pa_consI (pvI 3) pa_nilI)) (pg_nameI (i := 7) sc_l_curve.nd rfl (by first | exact Or.inl rfl | exact Or.inr rfl))
      (pss_consI (ps_setI (i := 8) sc_l_curve.nd rfl (by first | exact Or.inl rfl | exact Or.inr rfl) (pe_opI op_sub (pe_opI op_mod (pe_ixI (ix_listK K) (pvI 2) (pe_opI op_add pe_intI (pvI 7)) (fun _ _ => rfl)) pe_intI) pe_intI))
      (pss_consI (ps_setI (i := 9) sc_l_curve.nd rfl (by first | exact Or.inl rfl | exact Or.inr rfl) (pe_opI op_sub (pe_opI op_mod (pe_opI op_fdiv (pe_ixI (ix_listK K) (pvI 2) (pe_opI op_add pe_intI (pvI 7)) (fun _ _ => rfl)) pe_intI) pe_intI) pe_intI))
      (pss_oneI (ps_ifI (PW_ptI (pw_andI (pt_cmpRI op_gt (pvI 7) pe_intI (nomark _)) (pw_and1I (pt_cmpRI op_eq (pe_opI op_mod (pe_ixI (ix_listK K) (pvI 2) (pe_opI op_add pe_intI (pvI 7)) (fun _ _ => rfl)) pe_intI) pe_intI (nomark _))))) (pss_oneI (ps_exprI (pe_bmI PySem.F.plainAttrs_list PySem.F.slot_list_append PySem.F.type_list_append mt_append (pvI 6) (pa_consI (pe_ixI (ix_listK K) (pvI 6) (pe_opI op_sub (pvI 7) pe_intI) (fun _ _ => rfl)) pa_nilI)))) (pss_consI (ps_setI (i := 8) sc_l_curve.nd rfl (by first | exact Or.inl rfl | exact Or.inr rfl) (pe_fnI D_l_low hr pass0 (pa_consI (pe_opI op_add (pvI 8) (pe_opI op_mulA (pvI 5) (pe_opI op_mod (pe_ixI (ix_listK K) (pvI 2) (pe_opI op_add pe_intI (pvI 7)) (fun _ _ => rfl)) pe_intI))) (pa_consI (pvI 4) pa_nilI))))
      (pss_consI (ps_setI (i := 9) sc_l_curve.nd rfl (by first | exact Or.inl rfl | exact Or.inr rfl) (pe_fnI D_l_low hr pass0 (pa_consI (pe_opI op_sub (pvI 9) (pe_opI op_mulA (pvI 5) (pe_opI op_mod (pe_opI op_fdiv (pe_ixI (ix_listK K) (pvI 2) (pe_opI op_add pe_intI (pvI 7)) (fun _ _ => rfl)) pe_intI) pe_intI))) (pa_consI (pvI 4) pa_nilI))))
      (pss_oneI (ps_exprI (pe_bmI PySem.F.plainAttrs_list PySem.F.slot_list_append PySem.F.type_list_append mt_append (pvI 6) (pa_consI (pe_tupI (pa_consI (pvI 8) (pa_consI (pvI 9) pa_nilI))) pa_nilI)))))))))))
      (pss_oneI (ps_retI (pvI 6)))))))))), ?_⟩
    walk_at "rd"
    refine ⟨_, 28, rfl, by decide, fun lx xs H1 s1 hx hxl hnn => ?_⟩
    have nn : ∀ j : Nat, 0 ≤ xs.getD j 0 := fun j => getD_nn hnn j
    walk_at "rd"
    intro lm hlm
    walk_at "rd"
    obtain ⟨many, hmany, many1, many2⟩ := tab [2, 3, 4, 1, 4, 5, 3, 6] 1 6 (xs.getD (Int.toNat 0) 0 % 8) (by decide) (by omega) (by show _ < (8 : Int); omega)
    refine ⟨_, _, _, _, rfl, rfl, SqL.of (by walk_at "hf"), hmany, ?_⟩
    walk_at "rd"
    refine if_mergeN (fun σ' H' => H' = upd H1 lm (.lst [.int 2, .int 3, .int 4, .int 1, .int 4, .int 5, .int 3, .int 6]) ∧ ∃ mm : Int, σ' = [some (.int c), some (.int m), some (.ref lx), some (.int mm), none, none, none, none, none, none] ∧ 1 ≤ mm ∧ mm ≤ 12) ?_ (fun N hR _ => ?_) (fun _ => ⟨rfl, many, rfl, many1, by omega⟩)
    rotate_left
    · walk_at "rd"
      exact hR _ _ ⟨rfl, _, rfl, by omega, by omega⟩
    clear hmany many1 many2 many
    rintro σ' H' ⟨rfl, many, rfl, many1, many2⟩
    walk_at "rd"
    intro lb hlb
    walk_at "rd"
    obtain ⟨B, hB, B1, B2⟩ := tab [1, 1, 2, 3, 4, 12, 1, (10 : Int) ^ (9 : Int).toNat + 7] 1 1000000007 (xs.getD (Int.toNat 3) 0 % 8) (by rw [p9]; decide) (by omega) (by show _ < (8 : Int); omega)
    refine ⟨_, _, _, _, rfl, rfl, SqL.of (by walk_at "hf"), hB, ?_⟩
    walk_at "rd"
    intro lf hlf
    walk_at "rd"
    obtain ⟨F0, hF0, F1, F2⟩ := tab [0, 0, 1] 0 1 (xs.getD (Int.toNat 1) 0 / 8 % 3) (by decide) (by omega) (by show _ < (3 : Int); omega)
    refine ⟨_, _, _, _, rfl, rfl, SqL.of (by walk_at "hf"), hF0, ?_⟩
    walk_at "rd"
    have fb : (F0 * (m % (10 : Int) ^ (30 : Int).toNat)).natAbs ≤ 1000000000000000000000000000000 := by
      rw [p30]
      have a1 := Int.emod_nonneg m (b := 1000000000000000000000000000000) (by decide)
      have a2 := Int.emod_lt_of_pos m (b := 1000000000000000000000000000000) (by decide)
      have : F0 = 0 ∨ F0 = 1 := by omega
      rcases this with rfl | rfl <;> omega
    intro l hl
    walk_at "rd"
    refine ⟨by omega, by omega, for_range (fun i σ H' => ∃ (y1 y2 y3 : Option V) (ws : List V) (ps : List Pt), σ = [some (.int c), some (.int m), some (.ref lx), some (.int many), some (.int B), some (.int (F0 * (m % (10 : Int) ^ (30 : Int).toNat))), some (.ref l), y1, y2, y3] ∧ Same (upd (upd (upd H1 lm (.lst [.int 2, .int 3, .int 4, .int 1, .int 4, .int 5, .int 3, .int 6])) lb (.lst [.int 1, .int 1, .int 2, .int 3, .int 4, .int 12, .int 1, .int ((10 : Int) ^ (9 : Int).toNat + 7)])) lf (.lst [.int 0, .int 0, .int 1])) H' ∧ H' l = some (.lst ws) ∧ PtsV H' ws ps ∧ ps.length = i ∧ ∀ p ∈ ps, OvP B 110 p) ⟨none, none, none, [], [], rfl, Same.new hl, upd_same, PtsV.nil _, rfl, fun _ h => nomatch h⟩ ?_ ?_⟩
    · rintro i σ H2 hi ⟨y1, y2, y3, ws, ps, rfl, s2, h2, hP, hpl, hov⟩
      have hx2 : H2 lx = some (.lst (xs.map V.int)) := s2 _ _ (by walk_at "hf")
      have hi' : (i : Int) < 12 := by omega
      have hwl := hP.len
      walk_at "rd"
      have n1 := nn (16 + (0 + (i : Int))).toNat
      have n2 := nn (4 + (0 + (i : Int))).toNat
      refine and_mergeP ?_ (fun hR h0' => ?_)
      rotate_left
      · have h0 := of_decide_eq_true h0'
        walk_at "rd"
        refine ifB (fun _ => ?_) (fun _ => ?_)
        · have ei : ps[i - 1]? = some (ps[i - 1]'(by omega)) := List.getElem?_eq_getElem _
          obtain ⟨w, ew, pw⟩ := hP.at ei
          walk_at "rd"
          refine ⟨.inl ⟨rfl, _, SqL.of h2⟩, ?_⟩
          refine ⟨_, rfl, _, rfl, _, _, rfl, rfl, l, _, _, _, rfl, rfl, SqL.of h2, atI_nat' (j := i - 1) (by omega) ew, ?_⟩
          refine ⟨l, _, _, rfl, rfl, h2, small_line (by omega), ?_⟩
          refine ⟨_, _, _, ws ++ [w], ps ++ [ps[i - 1]'(by omega)], rfl, fun b o e => ?_, upd_same, PtsV.snoc (hP.tup (Tup.lst h2)) (pw.tup (Tup.lst h2)), by rw [List.length_append]; show ps.length + 1 = i + 1; omega, fun p hp => ?_⟩
          · rw [upd_ne (ne_of_none e hl)]; exact s2 b o e
          · rcases List.mem_append.mp hp with hp | hp
            · exact hov p hp
            · rw [List.mem_singleton.mp hp]; exact hov _ (List.getElem_mem _)
        · exact ifF_elim hR
      · walk_at "rd"
        refine ⟨_, _, rfl, by omega, Sz.mono (n := 31) (sz_of (b := 1000000007) (by omega) (by decide)) (by decide), fun v1 H3 s3 w1 => ?_⟩
        have hx3 : H3 lx = some (.lst (xs.map V.int)) := s3 _ _ hx2
        walk_at "rd"
        refine ⟨_, _, rfl, by omega, Sz.mono (n := 31) (sz_of (b := 1000000007) (by omega) (by decide)) (by decide), fun v2 H4 s4 w2 => ?_⟩
        have h4 : H4 l = some (.lst ws) := s4 _ _ (s3 _ _ h2)
        walk_at "rd"
        refine ⟨.inl ⟨rfl, _, SqL.of h4⟩, ?_⟩
        walk_at "rd"
        intro pp hpp
        have h5 : (upd H4 pp (.tup [v1, v2])) l = some (.lst ws) := upd_keep hpp h4
        refine ⟨l, _, _, rfl, rfl, h5, small_line (by omega), ?_⟩
        have s5 : Same H2 (upd H4 pp (.tup [v1, v2])) := (s3.trans s4).trans (Same.new hpp)
        refine ⟨_, _, _, ws ++ [V.ref pp], ps ++ [(Rat.divInt (xs.getD (4 + (0 + (i : Int))).toNat 0 % 41 - 20 + (F0 * (m % (10 : Int) ^ (30 : Int).toNat)) * (xs.getD (16 + (0 + (i : Int))).toNat 0 % 7)) B, Rat.divInt (xs.getD (4 + (0 + (i : Int))).toNat 0 / 41 % 41 - 20 - (F0 * (m % (10 : Int) ^ (30 : Int).toNat)) * (xs.getD (16 + (0 + (i : Int))).toNat 0 / 7 % 3)) B)], rfl, fun b o e => ?_, upd_same, PtsV.snoc (hP.tup (s5.tup.trans (Tup.lst h5))) ?_, by rw [List.length_append]; show ps.length + 1 = i + 1; omega, fun p hp => ?_⟩
        · rw [upd_ne (ne_of_none e hl)]; exact s5 _ _ (s2 b o e)
        · have pv : PtV (upd H4 pp (.tup [v1, v2])) (.ref pp) _ _ := ⟨pp, v1, v2, rfl, upd_same, (w1.same s4).same (Same.new hpp), w2.same (Same.new hpp)⟩
          exact pv.tup (Tup.lst h5)
        · rcases List.mem_append.mp hp with hp | hp
          · exact hov p hp
          · rw [List.mem_singleton.mp hp]
            have r1 := Int.emod_nonneg (xs.getD (16 + (0 + (i : Int))).toNat 0) (b := 7) (by decide)
            have r2 := Int.emod_lt_of_pos (xs.getD (16 + (0 + (i : Int))).toNat 0) (b := 7) (by decide)
            have r3 := Int.emod_nonneg (xs.getD (16 + (0 + (i : Int))).toNat 0 / 7) (b := 3) (by decide)
            have r4 := Int.emod_lt_of_pos (xs.getD (16 + (0 + (i : Int))).toNat 0 / 7) (b := 3) (by decide)
            have zf : Sz 100 (F0 * (m % (10 : Int) ^ (30 : Int).toNat)) := sz_of (b := 1000000000000000000000000000000) fb (by decide)
            have z1 : Sz 4 (xs.getD (16 + (0 + (i : Int))).toNat 0 % 7) := sz_of (b := 7) (by omega) (by decide)
            have z2 : Sz 4 (xs.getD (16 + (0 + (i : Int))).toNat 0 / 7 % 3) := sz_of (b := 7) (by omega) (by decide)
            have z3 : Sz 7 (xs.getD (4 + (0 + (i : Int))).toNat 0 % 41 - 20) := sz_of (b := 61) (by omega) (by decide)
            have z4 : Sz 7 (xs.getD (4 + (0 + (i : Int))).toNat 0 / 41 % 41 - 20) := sz_of (b := 61) (by omega) (by decide)
            exact ⟨ov_divInt (by omega) ((z3.add (zf.mul z1)).mono (by decide)), ov_divInt (by omega) ((z4.sub (zf.mul z2)).mono (by decide))⟩
    · rintro σ H2 ⟨y1, y2, y3, ws, ps, rfl, s2, h2, hP, hpl, hov⟩
      exact ⟨_, rfl, k l ws ps B H2 (by walk_at "sm") (s1.free (L2.Same.free (Same.new hlm) (L2.Same.free (Same.new hlb) (L2.Same.free (Same.new hlf) hl)))) h2 hP (by omega) (by omega) (by omega) (sz_of (b := 1000000007) (by omega) (by decide)) hov⟩
theorem ok_l_plus (F : FunAt K mg "_law_plus" s_l_plus ["_law_one", "_law_other"]) (B : Blt mg) {C_SeatError C_NoLower C_NoShare C_NoMap C_NoJoin C_NoPlace C_TooMany C_NoText C_NoName : Addr} (X : Exc K mg C_SeatError C_NoLower C_NoShare C_NoMap C_NoJoin C_NoPlace C_TooMany C_NoText C_NoName) {A_NOUGHT : Addr} (G : Cst K mg A_NOUGHT) (D_l_low : DefOk P w K mg base CX0 1 "_law_low" ["_law_top", "_law_bottom"] spLShare) : DefOk P w K mg base CX0 2 "_law_plus" ["_law_one", "_law_other"] spPlus := by
  refine def_okI F sc_l_plus (fun vs H Q E h => ?_) (fun f cdv A outer s H vs Q E hr h => ?_)
  · obtain ⟨x, y, p, q, rfl, _⟩ := h; rfl
  · obtain ⟨_, _, p, q, rfl, ⟨a, rfl, ha⟩, ⟨b, rfl, hb⟩, hp, hq, _, k⟩ := h
    have hu := hr.units
    refine ⟨_, (pss_oneI (ps_retI (pe_fnI D_l_low hr pass0 (pa_consI (pe_opI op_add (pe_opI op_mulA (pe_ixI (ix_tupK K) (pvI 0) pe_intI (fun _ _ => rfl)) (pe_ixI (ix_tupK K) (pvI 1) pe_intI (fun _ _ => rfl))) (pe_opI op_mulA (pe_ixI (ix_tupK K) (pvI 1) pe_intI (fun _ _ => rfl)) (pe_ixI (ix_tupK K) (pvI 0) pe_intI (fun _ _ => rfl)))) (pa_consI (pe_opI op_mulA (pe_ixI (ix_tupK K) (pvI 0) pe_intI (fun _ _ => rfl)) (pe_ixI (ix_tupK K) (pvI 1) pe_intI (fun _ _ => rfl))) pa_nilI))))), ?_⟩
    walk_at "rd"
    refine ⟨_, _, rfl, den_mul_pos p q, by walk_at "szm", fun v H' hs hv => k v H' hs ?_⟩
    show ShV H' v (p + q)
    rw [← add_eq]; exact hv
theorem ok_l_between (F : FunAt K mg "_law_between" s_l_between ["_law_one", "_law_other", "_law_t_here"]) (B : Blt mg) {C_SeatError C_NoLower C_NoShare C_NoMap C_NoJoin C_NoPlace C_TooMany C_NoText C_NoName : Addr} (X : Exc K mg C_SeatError C_NoLower C_NoShare C_NoMap C_NoJoin C_NoPlace C_TooMany C_NoText C_NoName) {A_NOUGHT : Addr} (G : Cst K mg A_NOUGHT) (D_l_low : DefOk P w K mg base CX0 1 "_law_low" ["_law_top", "_law_bottom"] spLShare) : DefOk P w K mg base CX0 2 "_law_between" ["_law_one", "_law_other", "_law_t_here"] spLBtw := by
  refine def_okI F sc_l_between (fun vs H Q E h => ?_) (fun f cdv A outer s H vs Q E hr h => ?_)
  · obtain ⟨x, y, z, p, q, t, rfl, _⟩ := h; rfl
  · obtain ⟨_, _, _, p, q, t, rfl, ⟨a, rfl, ha⟩, ⟨b, rfl, hb⟩, ⟨c, rfl, hc⟩, hp, hq, ht, k⟩ := h
    have hu := hr.units
    refine ⟨_, (pss_consI (ps_setI (i := 3) sc_l_between.nd rfl (by first | exact Or.inl rfl | exact Or.inr rfl) (pe_opI op_mulA (pe_opI op_mulA (pe_ixI (ix_tupK K) (pvI 0) pe_intI (fun _ _ => rfl)) (pe_ixI (ix_tupK K) (pvI 1) pe_intI (fun _ _ => rfl))) (pe_opI op_sub (pe_ixI (ix_tupK K) (pvI 2) pe_intI (fun _ _ => rfl)) (pe_ixI (ix_tupK K) (pvI 2) pe_intI (fun _ _ => rfl)))))
      (pss_consI (ps_setI (i := 4) sc_l_between.nd rfl (by first | exact Or.inl rfl | exact Or.inr rfl) (pe_opI op_mulA (pe_opI op_mulA (pe_ixI (ix_tupK K) (pvI 1) pe_intI (fun _ _ => rfl)) (pe_ixI (ix_tupK K) (pvI 0) pe_intI (fun _ _ => rfl))) (pe_ixI (ix_tupK K) (pvI 2) pe_intI (fun _ _ => rfl))))
      (pss_oneI (ps_retI (pe_fnI D_l_low hr pass0 (pa_consI (pe_opI op_add (pvI 3) (pvI 4)) (pa_consI (pe_opI op_mulA (pe_opI op_mulA (pe_ixI (ix_tupK K) (pvI 0) pe_intI (fun _ _ => rfl)) (pe_ixI (ix_tupK K) (pvI 1) pe_intI (fun _ _ => rfl))) (pe_ixI (ix_tupK K) (pvI 2) pe_intI (fun _ _ => rfl))) pa_nilI))))))), ?_⟩
    walk_at "rd"
    refine ⟨_, _, rfl, Int.mul_pos (den_mul_pos p q) (by have := t.den_pos; omega), by walk_at "szm", fun v H' hs hv => k v H' hs ?_⟩
    rw [btw_div]; exact hv
theorem ok_l_on_way (F : FunAt K mg "_law_on_way" s_l_on_way ["_law_one", "_law_other", "_law_t_here"]) (B : Blt mg) {C_SeatError C_NoLower C_NoShare C_NoMap C_NoJoin C_NoPlace C_TooMany C_NoText C_NoName : Addr} (X : Exc K mg C_SeatError C_NoLower C_NoShare C_NoMap C_NoJoin C_NoPlace C_TooMany C_NoText C_NoName) {A_NOUGHT : Addr} (G : Cst K mg A_NOUGHT) (D_l_between : DefOk P w K mg base CX0 2 "_law_between" ["_law_one", "_law_other", "_law_t_here"] spLBtw) : DefOk P w K mg base CX0 3 "_law_on_way" ["_law_one", "_law_other", "_law_t_here"] spLOnWay := by
  refine def_okI F sc_l_on_way (fun vs H Q E h => ?_) (fun f cdv A outer s H vs Q E hr h => ?_)
  · obtain ⟨x, y, z, p, q, t, rfl, _⟩ := h; rfl
  · obtain ⟨_, _, z, p, q, t, rfl, ⟨a, ax, ay, rfl, ha, hax, hay⟩, ⟨b, bx, by_, rfl, hb, hbx, hby⟩, hz, ⟨p1, p2⟩, ⟨q1, q2⟩, ht, k⟩ := h
    have hu := hr.units
    refine ⟨_, (pss_oneI (ps_retI (pe_tupI (pa_consI (pe_fnI D_l_between hr pass0 (pa_consI (pe_ixI (ix_tupK K) (pvI 0) pe_intI (fun _ _ => rfl)) (pa_consI (pe_ixI (ix_tupK K) (pvI 1) pe_intI (fun _ _ => rfl)) (pa_consI (pvI 2) pa_nilI)))) (pa_consI (pe_fnI D_l_between hr pass0 (pa_consI (pe_ixI (ix_tupK K) (pvI 0) pe_intI (fun _ _ => rfl)) (pa_consI (pe_ixI (ix_tupK K) (pvI 1) pe_intI (fun _ _ => rfl)) (pa_consI (pvI 2) pa_nilI)))) pa_nilI))))), ?_⟩
    walk_at "rd"
    refine ⟨_, _, _, p.1, q.1, t, rfl, by walk_at "mv", by walk_at "mv", by walk_at "mv", p1, q1, ht, fun v1 H1 s1 w1 => ?_⟩
    walk_at "rd"
    refine ⟨_, _, _, p.2, q.2, t, rfl, by walk_at "mv", by walk_at "mv", by walk_at "mv", p2, q2, ht, fun v2 H2 s2 w2 => ?_⟩
    walk_at "rd"
    intro l hl
    exact k _ _ (by walk_at "sm") ⟨l, v1, v2, rfl, upd_same, by walk_at "mv", by walk_at "mv"⟩
theorem ok_l_raised (F : FunAt K mg "_law_raised" s_l_raised ["_law_curve_here"]) (B : Blt mg) {C_SeatError C_NoLower C_NoShare C_NoMap C_NoJoin C_NoPlace C_TooMany C_NoText C_NoName : Addr} (X : Exc K mg C_SeatError C_NoLower C_NoShare C_NoMap C_NoJoin C_NoPlace C_TooMany C_NoText C_NoName) {A_NOUGHT : Addr} (G : Cst K mg A_NOUGHT) (D_l_low : DefOk P w K mg base CX0 1 "_law_low" ["_law_top", "_law_bottom"] spLShare) (D_l_on_way : DefOk P w K mg base CX0 3 "_law_on_way" ["_law_one", "_law_other", "_law_t_here"] spLOnWay) : DefOk P w K mg base CX0 4 "_law_raised" ["_law_curve_here"] (spLRaised K) := by
  refine def_okI F sc_l_raised (fun vs H Q E h => ?_) (fun f cdv A outer s H vs Q E hr h => ?_)
  · obtain ⟨a, ws, ps, rfl, _⟩ := h; rfl
  · obtain ⟨a, ws, ps, rfl, hS, hP, hbd, h1, h12, k⟩ := h
    have hu := hr.units
    refine ⟨_, (pss_consI (ps_setI (i := 1) sc_l_raised.nd rfl (by first | exact Or.inl rfl | exact Or.inr rfl) (pe_callBI (call_lenK K) (by rfl) B.len PySem.boot_len (pa_consI (pvI 0) pa_nilI)))
      (pss_consI (ps_setI (i := 2) sc_l_raised.nd rfl (by first | exact Or.inl rfl | exact Or.inr rfl) (pe_lstI (pa_consI (pe_ixI (ix_listK K) (pvI 0) pe_intI (fun _ _ => rfl)) pa_nilI)))
      (pss_consI (ps_forI PassesOwn.never rfl (pi_range2I rfl B.range (pa_consI pe_intI (pa_consI (pvI 1) pa_nilI))) (pg_nameI (i := 3) sc_l_raised.nd rfl (by first | exact Or.inl rfl | exact Or.inr rfl))
      (pss_oneI (ps_exprI (pe_bmI PySem.F.plainAttrs_list PySem.F.slot_list_append PySem.F.type_list_append mt_append (pvI 2) (pa_consI (pe_fnI D_l_on_way hr pass0 (pa_consI (pe_ixI (ix_listK K) (pvI 0) (pvI 3) (fun _ _ => rfl)) (pa_consI (pe_ixI (ix_listK K) (pvI 0) (pe_opI op_sub (pvI 3) pe_intI) (fun _ _ => rfl)) (pa_consI (pe_fnI D_l_low hr pass0 (pa_consI (pvI 3) (pa_consI (pvI 1) pa_nilI))) pa_nilI)))) pa_nilI)))))
      (pss_oneI (ps_retI (pe_opI op_cat (pvI 2) (pe_lstI (pa_consI (pe_ixI (ix_listK K) (pvI 0) (pe_unI un_neg pe_intI) (fun _ _ => rfl)) pa_nilI)))))))), ?_⟩
    have hwl := hP.len
    have gg : ∀ j, j < ps.length → ps[j]? = some (ptAt ps j) := fun j hj => by
      unfold ptAt gX gY
      rw [List.getElem?_eq_getElem hj]; rfl
    obtain ⟨v0, e0, p0⟩ := hP.at (gg 0 (by omega))
    refine ⟨_, rfl, a, ws, rfl, .inl hS, ?_⟩
    walk_at "rd"
    refine ⟨a, _, _, _, rfl, rfl, hS, atI_nat' (j := 0) rfl e0, ?_⟩
    walk_at "rd"
    intro lf hlf
    walk_at "rd"
    refine ⟨_, _, rfl, ⟨by omega, by omega, by omega, by omega⟩, for_range (fun i σ H' => ∃ (us : List V) (y : Option V), σ = [some (.ref a), some (.int (ws.length : Int)), some (.ref lf), y] ∧ Same H H' ∧ H' lf = some (.lst us) ∧ PtsV H' us ((raP ps).take (i + 1))) ⟨[v0], none, rfl, Same.new hlf, upd_same, ?_⟩ ?_ ?_⟩
    · have e : (raP ps).take (0 + 1) = [ptAt ps 0] := by unfold raP; rw [List.append_assoc]; rfl
      rw [e]
      exact (PtsV.one p0).same (Same.new hlf)
    · rintro i σ H1 hi ⟨us, y, rfl, s1, g1, g2⟩
      have hi' : i + 1 < ps.length := by omega
      obtain ⟨v1, e1, p1⟩ := (hP.same s1).at (gg (i + 1) hi')
      obtain ⟨v2, e2, p2⟩ := (hP.same s1).at (gg i (by omega))
      have bt : Bd 20 (Rat.divInt ((1 : Int) + (i : Int)) (ps.length : Int)) := (Bd.of (n := 20) (m := 20) (sz_of (b := 100) (by omega) (by decide)) (sz_of (b := 100) (by omega) (by decide)) (by omega)).mono (by decide)
      have b1 := hbd _ (List.mem_of_getElem? (gg (i + 1) hi'))
      have b2 := hbd _ (List.mem_of_getElem? (gg i (by omega)))
      have hS1 := s1.seq hS
      have hul := g2.len
      walk_at "rd"
      refine ⟨.inl ⟨rfl, _, SqL.of g1⟩, ?_⟩
      walk_at "rd"
      refine ⟨a, _, _, _, rfl, rfl, hS1, atI_nat' (j := i + 1) (by omega) e1, ?_⟩
      walk_at "rd"
      refine ⟨a, _, _, _, rfl, rfl, hS1, atI_nat' (j := i) (by omega) e2, ?_⟩
      walk_at "rd"
      refine ⟨_, _, rfl, by omega, Sz.mono (n := 20) (sz_of (b := 100) (by omega) (by decide)) (by decide), fun v3 H3 s3 w3 => ?_⟩
      rw [hwl] at w3
      refine ⟨_, _, _, ptAt ps (i + 1), ptAt ps i, _, rfl, p1.same s3, p2.same s3, w3, ⟨b1.1.mono (by decide), b1.2.mono (by decide)⟩, ⟨b2.1.mono (by decide), b2.2.mono (by decide)⟩, bt.mono (by decide), fun w H4 s4 pw => ?_⟩
      have g1' := s4 _ _ (s3 _ _ g1)
      refine ⟨lf, _, _, rfl, rfl, g1', small_line (by rw [hul, List.length_take, raP_len ps h1]; omega), ?_⟩
      have t4 := Tup.lst (o := .lst (us ++ [w])) g1'
      refine ⟨us ++ [w], _, rfl, same_upd hlf ((s1.trans s3).trans s4), upd_same, ?_⟩
      have ee : (raP ps)[i + 1]? = some (btwP (Rat.divInt ((1 : Int) + (i : Int)) (ps.length : Int)) (ptAt ps (i + 1)) (ptAt ps i)) := by
        unfold raP
        rw [List.append_assoc, List.getElem?_append_right (by simp), List.length_singleton, Nat.add_sub_cancel, List.getElem?_append_left (by rw [List.length_map, List.length_range]; omega), List.getElem?_map, List.getElem?_range (by omega)]
        rfl
      rw [take_snoc ee]
      exact PtsV.snoc (((g2.same s3).same s4).tup t4) (pw.tup t4)
    · rintro σ H1 ⟨us, y, rfl, s1, g1, g2⟩
      obtain ⟨v9, e9, p9⟩ := (hP.same s1).at (gg (ps.length - 1) (by omega))
      have hS1 := s1.seq hS
      have hul := g2.len
      have hlr := raP_len ps h1
      walk_at "rd"
      refine ⟨a, _, _, _, rfl, rfl, hS1, atI_last' _ _ (by rw [hwl]; exact e9) (by omega), ?_⟩
      walk_at "rd"
      intro q1 hq1
      refine ⟨lf, q1, _, _, rfl, rfl, upd_keep hq1 g1, upd_same, Nat.le_of_lt (small_line (by rw [hul, List.length_take, List.length_singleton]; omega)), fun q2 hq2 => ?_⟩
      have sX : Same H1 (upd (upd H1 q1 (.lst [v9])) q2 (.lst (us ++ [v9]))) := (Same.new hq1).trans (Same.new hq2)
      refine k q2 _ _ (s1.trans sX) (s1.free ((Same.new hq1).free hq2)) upd_same ?_
      have ee : (raP ps)[((ws.length : Int) - 1).toNat + 1]? = some (ptAt ps (ps.length - 1)) := by
        unfold raP
        rw [List.getElem?_append_right (by simp; omega)]
        have : ((ws.length : Int) - 1).toNat + 1 - ([ptAt ps 0] ++ (List.range (ps.length - 1)).map (fun i : Nat => btwP (Rat.divInt ((1 : Int) + (i : Int)) (ps.length : Int)) (ptAt ps (i + 1)) (ptAt ps i))).length = 0 := by simp; omega
        rw [this]; rfl
      have et : (raP ps).take (((ws.length : Int) - 1).toNat + 1 + 1) = raP ps := List.take_of_length_le (by omega)
      rw [← et, take_snoc ee]
      exact (PtsV.snoc g2 p9).same sX
theorem ok_l_handed (F : FunAt K mg "_law_handed" s_l_handed ["_law_script"]) (B : Blt mg) {C_SeatError C_NoLower C_NoShare C_NoMap C_NoJoin C_NoPlace C_TooMany C_NoText C_NoName : Addr} (X : Exc K mg C_SeatError C_NoLower C_NoShare C_NoMap C_NoJoin C_NoPlace C_TooMany C_NoText C_NoName) {A_NOUGHT : Addr} (G : Cst K mg A_NOUGHT) (D_l_cell_at : DefOk P w K mg base CX0 1 "_law_cell_at" ["_law_script", "_law_k"] (spCell K)) (D_l_low : DefOk P w K mg base CX0 1 "_law_low" ["_law_top", "_law_bottom"] spLShare) (D_l_curve : DefOk P w K mg base CX0 2 "_law_curve" ["_law_cell", "_law_more"] spLCurve) (D_l_plus : DefOk P w K mg base CX0 2 "_law_plus" ["_law_one", "_law_other"] spPlus) (D_l_raised : DefOk P w K mg base CX0 4 "_law_raised" ["_law_curve_here"] (spLRaised K)) : DefOk P w K mg base CX0 5 "_law_handed" ["_law_script"] (spLHanded K) := by
  refine def_okI F sc_l_handed (fun vs H Q E h => ?_) (fun f cdv A outer s H vs Q E hr h => ?_)
  · obtain ⟨a, ns, rfl, _⟩ := h; rfl
  · obtain ⟨a, ns, rfl, hS, k⟩ := h
    have hu := hr.units
    refine ⟨_, (pss_consI (ps_setI (i := 1) sc_l_handed.nd rfl (by first | exact Or.inl rfl | exact Or.inr rfl) (pe_fnI D_l_curve hr pass0 (pa_consI (pe_fnI D_l_cell_at hr pass0 (pa_consI (pvI 0) (pa_consI pe_intI pa_nilI))) (pa_consI (pe_fnI D_l_cell_at hr pass0 (pa_consI (pvI 0) (pa_consI pe_intI pa_nilI))) pa_nilI))))
      (pss_consI (ps_setI (i := 2) sc_l_handed.nd rfl (by first | exact Or.inl rfl | exact Or.inr rfl) (pe_fnI D_l_cell_at hr pass0 (pa_consI (pvI 0) (pa_consI pe_intI pa_nilI))))
      (pss_consI (ps_ifI (pt_cmpRI op_eq (pe_opI op_mod (pvI 2) pe_intI) pe_intI (nomark _)) (pss_oneI (ps_retI (pvI 1))) pss_nilI)
      (pss_consI (ps_forI PassesOwn.never rfl (pi_range1I rfl B.range (pa_consI (pe_callBI (call_min2 rfl) (by rfl) B.min PyProof.Rows.boot_min (pa_consI (pe_opI op_add pe_intI (pe_opI op_mod (pe_opI op_fdiv (pvI 2) pe_intI) pe_intI)) (pa_consI (pe_opI op_sub pe_intI (pe_callBI (call_lenK K) (by rfl) B.len PySem.boot_len (pa_consI (pvI 1) pa_nilI))) pa_nilI))) pa_nilI)) (pg_nameI (i := 3) sc_l_handed.nd rfl (by first | exact Or.inl rfl | exact Or.inr rfl))
      (pss_oneI (ps_setI (i := 1) sc_l_handed.nd rfl (by first | exact Or.inl rfl | exact Or.inr rfl) (pe_fnI D_l_raised hr pass0 (pa_consI (pvI 1) pa_nilI)))))
      (pss_consI (ps_ifI (pt_cmpRI op_eq (pe_opI op_mod (pe_opI op_fdiv (pvI 2) pe_intI) pe_intI) pe_intI (nomark _)) (pss_consI (ps_setI (i := 4) sc_l_handed.nd rfl (by first | exact Or.inl rfl | exact Or.inr rfl) (pe_opI op_mod (pe_fnI D_l_cell_at hr pass0 (pa_consI (pvI 0) (pa_consI pe_intI pa_nilI))) (pe_callBI (call_lenK K) (by rfl) B.len PySem.boot_len (pa_consI (pvI 1) pa_nilI))))
      (pss_consI (ps_setI (i := 5) sc_l_handed.nd rfl (by first | exact Or.inl rfl | exact Or.inr rfl) (pe_ixI (ix_listK K) (pe_lstI (pa_consI (pe_tupI (pa_consI pe_intI (pa_consI pe_intI pa_nilI))) (pa_consI (pe_fnI D_l_low hr pass0 (pa_consI (pe_opI op_sub (pe_opI op_sub pe_intI pe_intI) (pe_opI op_mod (pe_fnI D_l_cell_at hr pass0 (pa_consI (pvI 0) (pa_consI pe_intI pa_nilI))) (pe_opI op_pow pe_intI pe_intI))) (pa_consI pe_intI pa_nilI))) pa_nilI))) (pe_opI op_mod (pe_opI op_fdiv (pvI 2) pe_intI) pe_intI) (fun _ _ => rfl)))
      (pss_consI (ps_asgI (pe_ixI (ix_listK K) (pvI 1) (pvI 4) (fun _ _ => rfl)) (pg_tupKI (n := 2) K rfl (pgs_consI (pg_nameI (i := 6) sc_l_handed.nd rfl (by first | exact Or.inl rfl | exact Or.inr rfl)) (pgs_consI (pg_nameI (i := 7) sc_l_handed.nd rfl (by first | exact Or.inl rfl | exact Or.inr rfl)) pgs_nilI))))
      (pss_oneI (ps_asgI (pe_ixI (ix_listK K) (pe_lstI (pa_consI (pe_tupI (pa_consI (pe_fnI D_l_plus hr pass0 (pa_consI (pvI 6) (pa_consI (pvI 5) pa_nilI))) (pa_consI (pvI 7) pa_nilI))) (pa_consI (pe_tupI (pa_consI (pvI 6) (pa_consI (pe_fnI D_l_plus hr pass0 (pa_consI (pvI 7) (pa_consI (pvI 5) pa_nilI))) pa_nilI))) pa_nilI))) (pe_opI op_mod (pe_opI op_fdiv (pvI 2) pe_intI) pe_intI) (fun _ _ => rfl)) (pg_subI (pvI 1) (pvI 4) set_list)))))) pss_nilI)
      (pss_oneI (ps_retI (pvI 1)))))))), ?_⟩
    walk_at "rd"
    refine ⟨a, ns, _, rfl, hS, by decide, fun z0 => ?_⟩
    walk_at "rd"
    refine ⟨a, ns, _, rfl, hS, by decide, fun z1 => ?_⟩
    walk_at "rd"
    refine ⟨_, _, rfl, fun l ws ps Bt H1 s1 hl0 hl hP p1 p12 hB zB hov => ?_⟩
    have hwl := hP.len
    have hrl := raN_len ps p1
    have fra := fine_ra p1 hB zB hov
    have hS1 := s1.seq hS
    walk_at "rd"
    refine ⟨a, ns, _, rfl, hS1, by decide, fun z2 => ?_⟩
    walk_at "rd"
    refine ifB (fun _ => ?_) (fun _ => ?_)
    · walk_at "rd"
      exact k l ws ps Bt H1 s1 hl0 hl hP p1 p12 hB (zB.mono (by decide)) fun p hp => ⟨(hov p hp).1.mono (by decide), (hov p hp).2.mono (by decide)⟩
    walk_at "rd"
    refine ⟨_, _, rfl, ?_⟩
    refine ⟨_, rfl, by split <;> omega, by split <;> omega, for_range (fun i σ H' => ∃ (lc : Addr) (us : List V) (y1 y2 y3 y4 y5 : Option V), σ = [some (.ref a), some (.ref lc), some (.int z2), y1, y2, y3, y4, y5] ∧ Same H H' ∧ H lc = none ∧ H' lc = some (.lst us) ∧ PtsV H' us (raN i ps) ∧ ps.length + i ≤ 12 ∧ i ≤ 3) ⟨l, ws, none, none, none, none, none, rfl, s1, hl0, hl, hP, by omega, by omega⟩ ?_ ?_⟩
    · rintro i σ H2 hi ⟨lc, us, y1, y2, y3, y4, y5, rfl, s2, hlc0, g1, g2, g3, g4⟩
      have hi2 : (i : Int) + ws.length < 12 ∧ (i : Int) < 3 := by split at hi <;> omega
      obtain ⟨E, E1, E2, E3⟩ := fra i (by omega)
      walk_at "rd"
      refine ⟨lc, us, raN i ps, rfl, SqL.of g1, g2, fun p hp => ovp_bd4 E1 E2 (E3 p hp) 2800 (by omega) (by omega), by rw [hrl]; omega, by rw [hrl]; omega, fun lr vr H3 s3 hr0 hr hR => ?_⟩
      walk_at "rd"
      exact ⟨lr, vr, _, _, _, _, _, rfl, s2.trans s3, s2.free hr0, hr, hR, by omega, by omega⟩
    rintro σ H2 ⟨lc, us, y1, y2, y3, y4, y5, rfl, s2, hlc0, g1, g2, g3, g4⟩
    generalize hr : (if 12 - (ws.length : Int) < 1 + z2 / 2 % 3 then 12 - (ws.length : Int) else 1 + z2 / 2 % 3).toNat = r at *
    obtain ⟨E, E1, E2, E3⟩ := fra r (by omega)
    have hul := g2.len
    rw [hrl] at hul
    have hS2 := s2.seq hS
    walk_at "rd"
    refine ifB (fun _ => ?_) (fun _ => ?_)
    · walk_at "rd"
      refine ⟨a, ns, _, rfl, hS2, by decide, fun z3 => ?_⟩
      walk_at "rd"
      refine ⟨by show (0 : Int) < (us.length : Int); omega, ?_⟩
      walk_at "rd"
      have j0 := Int.emod_nonneg z3 (b := (us.length : Int)) (by omega)
      have j1 := Int.emod_lt_of_pos z3 (b := (us.length : Int)) (by omega)
      obtain ⟨j, ej⟩ : ∃ j : Nat, z3 % (us.length : Int) = (j : Int) := ⟨(z3 % (us.length : Int)).toNat, by omega⟩
      have hj : j < us.length := by omega
      obtain ⟨pj, epj⟩ : ∃ pj, (raN r ps)[j]? = some pj := ⟨_, List.getElem?_eq_getElem (by rw [hrl]; omega)⟩
      have oj := E3 pj (List.mem_of_getElem? epj)
      obtain ⟨vb, ec, b0, vx, vy, rfl, hb0, hbx, hby⟩ := g2.at epj
      obtain ⟨bx, by_⟩ := ovp_bd4 E1 E2 oj 200 (by omega) (by omega)
      intro q0 hq0
      walk_at "rd"
      refine ⟨a, ns, _, rfl, (Same.new hq0).seq hS2, by decide, fun z4 => ?_⟩
      walk_at "rd"
      have hz30 := Int.emod_nonneg z4 (b := (10 : Int) ^ (30 : Int).toNat) (by rw [p30]; decide)
      have hl30 := Int.emod_lt_of_pos z4 pos30
      rw [p30] at hl30
      have zu : Sz 101 (0 - 1 - z4 % (10 : Int) ^ (30 : Int).toNat) := sz_of (b := 1000000000000000000000000000001) (by rw [p30] at hz30 ⊢; omega) (by decide)
      refine ⟨_, _, rfl, by decide, Sz.mono (n := 2) ⟨by decide⟩ (by decide), fun vm H3 s3 wm => ?_⟩
      walk_at "rd"
      intro lm hlm
      have s4 : Same H2 (upd H3 lm (.lst [.ref q0, vm])) := ((Same.new hq0).trans s3).trans (Same.new hlm)
      have hq0' : ShV (upd H3 lm (.lst [.ref q0, vm])) (.ref q0) 1 := ⟨q0, rfl, upd_keep hlm (s3 _ _ upd_same)⟩
      have wm' := wm.same (Same.new (o := .lst [.ref q0, vm]) hlm)
      have hlm' : (upd H3 lm (.lst [.ref q0, vm])) lm = some (.lst [.ref q0, vm]) := upd_same
      generalize upd H3 lm (.lst [.ref q0, vm]) = H4 at *
      have zB' : Bd 101 (Rat.divInt (0 - 1 - z4 % (10 : Int) ^ (30 : Int).toNat) 3) := (Bd.of (n := 101) (m := 2) zu ⟨by decide⟩ (by decide)).mono (by decide)
      have E2' : Sz 60 E := E2.mono (by omega)
      obtain ⟨vv, hvv, hmm⟩ := atI_lt [V.ref q0, vm] (z2 / 12 % 2) (by omega) (by show _ < (2 : Int); omega)
      obtain ⟨mo, hmo, bmo, omo⟩ : ∃ mo : Rat, ShV H4 vv mo ∧ Bd 4000 mo ∧ ∀ x, Ov E (110 + 6 * r) x → Ov (E * 3) 180 (x + mo) := by
        simp only [List.mem_cons, List.not_mem_nil, or_false] at hmm
        rcases hmm with rfl | rfl
        · exact ⟨1, hq0', Bd.one'.mono (by decide), fun x hx => hx.plus1 E2' (by omega)⟩
        · exact ⟨_, wm', zB'.mono (by decide), fun x hx => hx.plus3 zu E2' (by omega)⟩
      have ovs : ∀ x, Ov E (110 + 6 * r) x → Ov (E * 3) 180 (x + mo) := fun x hx => omo x hx
      walk_at "rd"
      refine ⟨lc, _, _, _, rfl, rfl, SqL.of (s4 _ _ g1), atI_nat' (j := j) (by rw [ej]) ec, ?_⟩
      refine ⟨b0, _, rfl, SqT.of (s4 _ _ hb0), rfl, _, _, rfl, _, _, rfl, rfl, ?_⟩
      walk_at "rd"
      refine ⟨_, _, _, mo, rfl, hbx.same s4, hmo, bx.mono (by decide), bmo, True.intro, fun w1 H5 s5 p1 => ?_⟩
      walk_at "rd"
      intro q1 hq1
      walk_at "rd"
      refine ⟨_, _, _, mo, rfl, ((hby.same s4).same s5).same (Same.new hq1), (hmo.same s5).same (Same.new hq1), by_.mono (by decide), bmo, True.intro, fun w2 H6 s6 p2 => ?_⟩
      walk_at "rd"
      intro q2 hq2
      walk_at "rd"
      intro lq hlq
      have sZ : Same H2 (upd (upd H6 q2 (.tup [vx, w2])) lq (.lst [.ref q1, .ref q2])) := (((s4.trans s5).trans (Same.new hq1)).trans s6).trans ((Same.new hq2).trans (Same.new hlq))
      have P1 : PtV (upd (upd H6 q2 (.tup [vx, w2])) lq (.lst [.ref q1, .ref q2])) (.ref q1) (pj.1 + mo) pj.2 := ⟨q1, w1, vy, rfl, upd_keep hlq (upd_keep hq2 (s6 _ _ upd_same)), (((p1.same (Same.new hq1)).same s6).same (Same.new hq2)).same (Same.new hlq), hby.same sZ⟩
      have P2 : PtV (upd (upd H6 q2 (.tup [vx, w2])) lq (.lst [.ref q1, .ref q2])) (.ref q2) pj.1 (pj.2 + mo) := ⟨q2, vx, w2, rfl, upd_keep hlq upd_same, hbx.same sZ, (p2.same (Same.new hq2)).same (Same.new hlq)⟩
      have hlq' : (upd (upd H6 q2 (.tup [vx, w2])) lq (.lst [.ref q1, .ref q2])) lq = some (.lst [.ref q1, .ref q2]) := upd_same
      generalize upd (upd H6 q2 (.tup [vx, w2])) lq (.lst [.ref q1, .ref q2]) = H7 at *
      obtain ⟨v, hv, hm⟩ := atI_lt [V.ref q1, V.ref q2] (z2 / 24 % 2) (by omega) (by show _ < (2 : Int); omega)
      obtain ⟨pn, hpn, hon⟩ : ∃ pn : Pt, PtV H7 v pn.1 pn.2 ∧ OvP (E * 3) 180 pn := by
        simp only [List.mem_cons, List.not_mem_nil, or_false] at hm
        rcases hm with rfl | rfl
        · exact ⟨(pj.1 + mo, pj.2), P1, ovs _ oj.1, (OvP.up3 oj (by omega)).2⟩
        · exact ⟨(pj.1, pj.2 + mo), P2, (OvP.up3 oj (by omega)).1, ovs _ oj.2⟩
      walk_at "rd"
      have g7 := sZ _ _ g1
      refine ⟨lc, us, _, j, rfl, rfl, g7, (show ixN us.length (z3 % (us.length : Int)) = some j by rw [ej, ixN_of (by omega) (by omega)]; rfl), ?_⟩
      have t7 := Tup.lst (o := .lst (us.set j v)) g7
      refine ⟨_, rfl, k lc _ ((raN r ps).set j pn) (E * 3) _ (same_upd hlc0 (s2.trans sZ)) hlc0 upd_same (PtsV.set ((g2.same sZ).tup t7) j (hpn.tup t7)) (by rw [List.length_set, hrl]; omega) (by rw [List.length_set, hrl]; omega) (Int.mul_pos E1 (by decide)) ((E2.mul (m := 2) ⟨by decide⟩).mono (by omega)) fun q hq => ?_⟩
      rcases List.mem_or_eq_of_mem_set hq with hq | rfl
      · exact OvP.up3 (E3 q hq) (by omega)
      · exact hon
    · walk_at "rd"
      exact k lc us _ E H2 s2 hlc0 g1 g2 (by rw [hrl]; omega) (by rw [hrl]; omega) E1 (E2.mono (by omega)) fun p hp => ⟨(E3 p hp).1.mono (by omega), (E3 p hp).2.mono (by omega)⟩
theorem ok_l_is_share (F : FunAt K mg "_law_is_share" s_l_is_share ["_law_thing"]) (B : Blt mg) {C_SeatError C_NoLower C_NoShare C_NoMap C_NoJoin C_NoPlace C_TooMany C_NoText C_NoName : Addr} (X : Exc K mg C_SeatError C_NoLower C_NoShare C_NoMap C_NoJoin C_NoPlace C_TooMany C_NoText C_NoName) {A_NOUGHT : Addr} (G : Cst K mg A_NOUGHT) : DefOk P w K mg base CX0 1 "_law_is_share" ["_law_thing"] spLIsShare := by
  refine def_okI F sc_l_is_share (fun vs H Q E h => ?_) (fun f cdv A outer s H vs Q E hr h => ?_)
  · obtain ⟨x, q, rfl, _⟩ := h; rfl
  · obtain ⟨_, q, rfl, ⟨a, rfl, ha⟩, k⟩ := h
    have hu := hr.units
    refine ⟨_, (pss_consI (ps_ifI (PW_ptI (pw_orI (pt_notI (pt_valI (pe_callBI (call_isiK K) (by rfl) B.isinstance PyProof.Rows.boot_isinstance (pa_consI (pvI 0) (pa_consI (pe_bltnI (v := .ty "tuple") rfl B.tuple PyProof.Rows.boot_tuple rfl) pa_nilI))))) (pw_or1I (pt_cmpRI op_ne (pe_callBI (call_lenK K) (by rfl) B.len PySem.boot_len (pa_consI (pvI 0) pa_nilI)) pe_intI (nomark _))))) (pss_oneI (ps_retI pe_blI)) pss_nilI)
      (pss_oneI (ps_retI (pe_callBI (call_allB rfl) (by rfl) B.all PyProof.Rows.boot_all (pa_consI (pe_compSI (os := ["_law_part"]) (caps := []) ["_law_thing"] (defScope s_l_is_share) (pi_tupI (pvI 0)) (fun _ _ _ _ _ => (pg_nameI (i := 0) (show List.Nodup (["_law_part"] : List Str) from by decide +kernel) rfl (by first | exact Or.inl rfl | exact Or.inr rfl))) (fun _ _ _ _ _ => (pe_andI (pe_callBI (call_isiK K) (by rfl) B.isinstance PyProof.Rows.boot_isinstance (pa_consI (pvI 0) (pa_consI (pe_bltnI (v := .ty "int") rfl B.int PyProof.Rows.boot_int rfl) pa_nilI))) (pe_oneI (pe_notI (pe_callBI (call_isiK K) (by rfl) B.isinstance PyProof.Rows.boot_isinstance (pa_consI (pvI 0) (pa_consI (pe_bltnI (v := .ty "bool") rfl B.bool PyProof.Rows.boot_bool rfl) pa_nilI))))))) (by decide +kernel)) pa_nilI))))), ?_⟩
    walk_at "rd"
    refine ⟨⟨_, SqT.of ha⟩, ?_⟩
    refine comp1 (plain_tup (SqT.of ha)) (by show 2 ≤ 100000; decide) (fun _ v _ => v = .bl true) (fun _ _ _ _ _ h => h) (fun j H2 kk hj s2 hk => ?_) (fun D ys H2 hD s2 hD2 hl hr => ?_)
    · have hj2 : j = 0 ∨ j = 1 := by
        have : j < 2 := hj
        omega
      rcases hj2 with rfl | rfl
      · walk_at "rd"
        exact hk _ _ (L2.Same.refl _) rfl
      · walk_at "rd"
        exact hk _ _ (L2.Same.refl _) rfl
    · have e := map_true hr
      refine ⟨D, List.replicate ys.length true, rfl, by rw [← e]; exact SqL.of hD2, ?_⟩
      rw [all_true]
      exact k H2 s2
theorem ok_l_is_curve (F : FunAt K mg "_law_is_curve" s_l_is_curve ["_law_thing", "_law_many"]) (B : Blt mg) {C_SeatError C_NoLower C_NoShare C_NoMap C_NoJoin C_NoPlace C_TooMany C_NoText C_NoName : Addr} (X : Exc K mg C_SeatError C_NoLower C_NoShare C_NoMap C_NoJoin C_NoPlace C_TooMany C_NoText C_NoName) {A_NOUGHT : Addr} (G : Cst K mg A_NOUGHT) (D_l_is_share : DefOk P w K mg base CX0 1 "_law_is_share" ["_law_thing"] spLIsShare) : DefOk P w K mg base CX0 2 "_law_is_curve" ["_law_thing", "_law_many"] (spLIsCurve K) := by
  refine def_okI F sc_l_is_curve (fun vs H Q E h => ?_) (fun f cdv A outer s H vs Q E hr h => ?_)
  · obtain ⟨a, n, ws, ps, rfl, _⟩ := h; rfl
  · obtain ⟨a, n, ws, ps, rfl, ha, hP, hn, k⟩ := h
    have hu := hr.units
    refine ⟨_, (pss_consI (ps_ifI (PW_ptI (pw_orI (pt_notI (pt_valI (pe_callBI (call_isiK K) (by rfl) B.isinstance PyProof.Rows.boot_isinstance (pa_consI (pvI 0) (pa_consI (pe_bltnI (v := .ty "list") rfl B.list PyProof.Rows.boot_list rfl) pa_nilI))))) (pw_or1I (pt_cmpRI op_ne (pe_callBI (call_lenK K) (by rfl) B.len PySem.boot_len (pa_consI (pvI 0) pa_nilI)) (pvI 1) (nomark _))))) (pss_oneI (ps_retI pe_blI)) pss_nilI)
      (pss_consI (ps_forI PassesOwn.never rfl (pi_listI (pvI 0)) (pg_nameI (i := 2) sc_l_is_curve.nd rfl (by first | exact Or.inl rfl | exact Or.inr rfl))
      (pss_oneI (ps_ifI (PW_ptI (pw_orI (pt_notI (pt_valI (pe_callBI (call_isiK K) (by rfl) B.isinstance PyProof.Rows.boot_isinstance (pa_consI (pvI 2) (pa_consI (pe_bltnI (v := .ty "tuple") rfl B.tuple PyProof.Rows.boot_tuple rfl) pa_nilI))))) (pw_orI (pt_cmpRI op_ne (pe_callBI (call_lenK K) (by rfl) B.len PySem.boot_len (pa_consI (pvI 2) pa_nilI)) pe_intI (nomark _)) (pw_orI (pt_notI (pt_valI (pe_fnI D_l_is_share hr pass0 (pa_consI (pe_ixI (ix_tupK K) (pvI 2) pe_intI (fun _ _ => rfl)) pa_nilI)))) (pw_or1I (pt_notI (pt_valI (pe_fnI D_l_is_share hr pass0 (pa_consI (pe_ixI (ix_tupK K) (pvI 2) pe_intI (fun _ _ => rfl)) pa_nilI))))))))) (pss_oneI (ps_retI pe_blI)) pss_nilI)))
      (pss_oneI (ps_retI pe_blI)))), ?_⟩
    subst hn
    walk_at "rd"
    refine ifF (by simp [hP.len]) ?_
    walk_at "rd"
    refine ⟨⟨_, SqL.of ha⟩, for_list (xs := ws) (fun i σ H' => ∃ y, σ = [some (.ref a), some (.int (ps.length : Int)), y] ∧ Same H H') ⟨none, rfl, L2.Same.refl _⟩ ?_ ?_ ?_⟩
    · rintro i σ H' hi ⟨y, rfl, s1⟩
      exact SqL.of (s1 _ _ ha)
    · rintro i x σ H' hx ⟨y, rfl, s1⟩
      have hi : i < ps.length := by
        have := (List.getElem?_eq_some_iff.mp hx).1
        rw [hP.len] at this; exact this
      obtain ⟨b, vx, vy, rfl, hb, h1, h2⟩ := (hP.same s1).get i x _ hx (List.getElem?_eq_getElem hi)
      walk_at "rd"
      refine ⟨_, _, rfl, by walk_at "mv", fun H2 s2 => ?_⟩
      walk_at "rd"
      refine ⟨_, _, rfl, by walk_at "mv", fun H3 s3 => ?_⟩
      walk_at "rd"
      walk_at "sm"
    · rintro σ H' ⟨y, rfl, s1⟩
      exact k H' s1
theorem ok_l_last_difference (F : FunAt K mg "_law_last_difference" s_l_last_difference ["_law_curve_here"]) (B : Blt mg) {C_SeatError C_NoLower C_NoShare C_NoMap C_NoJoin C_NoPlace C_TooMany C_NoText C_NoName : Addr} (X : Exc K mg C_SeatError C_NoLower C_NoShare C_NoMap C_NoJoin C_NoPlace C_TooMany C_NoText C_NoName) {A_NOUGHT : Addr} (G : Cst K mg A_NOUGHT) (D_l_plus : DefOk P w K mg base CX0 2 "_law_plus" ["_law_one", "_law_other"] spPlus) : DefOk P w K mg base CX0 3 "_law_last_difference" ["_law_curve_here"] (spLastD K) := by
  refine def_okI F sc_l_last_difference (fun vs H Q E h => ?_) (fun f cdv A outer s H vs Q E hr h => ?_)
  · obtain ⟨a, ws, ps, D, n, rfl, _⟩ := h; rfl
  · obtain ⟨a, ws, ps, D, n, rfl, hS, hP, h1, h12, hD, zD, hn, hov, k⟩ := h
    have hu := hr.units
    refine ⟨_, (pss_consI (ps_setI (i := 1) sc_l_last_difference.nd rfl (by first | exact Or.inl rfl | exact Or.inr rfl) (pe_callTyI call_list_of rfl B.list PyProof.Rows.boot_list (pa_consI (pvI 0) pa_nilI)))
      (pss_consI (ps_whileI PassesOwn.never (pt_cmpRI op_gt (pe_callBI (call_lenK K) (by rfl) B.len PySem.boot_len (pa_consI (pvI 1) pa_nilI)) pe_intI (nomark _)) (pss_consI (ps_setI (i := 2) sc_l_last_difference.nd rfl (by first | exact Or.inl rfl | exact Or.inr rfl) (pe_lstI pa_nilI))
      (pss_consI (ps_forI PassesOwn.never rfl (pi_range1I rfl B.range (pa_consI (pe_opI op_sub (pe_callBI (call_lenK K) (by rfl) B.len PySem.boot_len (pa_consI (pvI 1) pa_nilI)) pe_intI) pa_nilI)) (pg_nameI (i := 3) sc_l_last_difference.nd rfl (by first | exact Or.inl rfl | exact Or.inr rfl))
      (pss_consI (ps_asgI (pe_ixI (ix_listK K) (pvI 1) (pvI 3) (fun _ _ => rfl)) (pg_tupKI (n := 2) K rfl (pgs_consI (pg_nameI (i := 4) sc_l_last_difference.nd rfl (by first | exact Or.inl rfl | exact Or.inr rfl)) (pgs_consI (pg_nameI (i := 5) sc_l_last_difference.nd rfl (by first | exact Or.inl rfl | exact Or.inr rfl)) pgs_nilI))))
      (pss_consI (ps_asgI (pe_ixI (ix_listK K) (pvI 1) (pe_opI op_add (pvI 3) pe_intI) (fun _ _ => rfl)) (pg_tupKI (n := 2) K rfl (pgs_consI (pg_nameI (i := 6) sc_l_last_difference.nd rfl (by first | exact Or.inl rfl | exact Or.inr rfl)) (pgs_consI (pg_nameI (i := 7) sc_l_last_difference.nd rfl (by first | exact Or.inl rfl | exact Or.inr rfl)) pgs_nilI))))
      (pss_oneI (ps_exprI (pe_bmI PySem.F.plainAttrs_list PySem.F.slot_list_append PySem.F.type_list_append mt_append (pvI 2) (pa_consI (pe_tupI (pa_consI (pe_fnI D_l_plus hr pass0 (pa_consI (pvI 6) (pa_consI (pe_tupI (pa_consI (pe_opI op_sub pe_intI (pe_ixI (ix_tupK K) (pvI 4) pe_intI (fun _ _ => rfl))) (pa_consI (pe_ixI (ix_tupK K) (pvI 4) pe_intI (fun _ _ => rfl)) pa_nilI))) pa_nilI))) (pa_consI (pe_fnI D_l_plus hr pass0 (pa_consI (pvI 7) (pa_consI (pe_tupI (pa_consI (pe_opI op_sub pe_intI (pe_ixI (ix_tupK K) (pvI 5) pe_intI (fun _ _ => rfl))) (pa_consI (pe_ixI (ix_tupK K) (pvI 5) pe_intI (fun _ _ => rfl)) pa_nilI))) pa_nilI))) pa_nilI))) pa_nilI)))))))
      (pss_oneI (ps_setI (i := 1) sc_l_last_difference.nd rfl (by first | exact Or.inl rfl | exact Or.inr rfl) (pvI 2))))))
      (pss_oneI (ps_retI (pe_ixI (ix_listK K) (pvI 1) pe_intI (fun _ _ => rfl)))))), ?_⟩
    have hwl := hP.len
    have bd : ∀ k j, j + k < ps.length → Bd 3000 (dl (gX ps) k j) ∧ Bd 3000 (dl (gY ps) k j) := fun k j h => ⟨ov_bd4 hD zD (dl_ov k j fun i hi => gX_ov hov (by omega)) 3000 (by omega) (by decide), ov_bd4 hD zD (dl_ov k j fun i hi => gY_ov hov (by omega)) 3000 (by omega) (by decide)⟩
    refine ⟨_, rfl, a, ws, rfl, .inl hS, fun lr hlr => ?_⟩
    refine while_by (fun σ H' => ∃ (i : Nat) (lr' : Addr) (y1 y2 y3 y4 y5 y6 : Option V) (vs : List V), σ = [some (.ref a), some (.ref lr'), y1, y2, y3, y4, y5, y6] ∧ Same H H' ∧ H' lr' = some (.lst vs) ∧ PtsV H' vs (rowD ps i) ∧ i < ps.length) (fun σ H' => match σ with | [_, some (.ref r), _, _, _, _, _, _] => (match H' r with | some (.lst vs) => vs.length | _ => 0) | _ => 0) ⟨0, lr, none, none, none, none, none, none, ws, rfl, Same.new hlr, upd_same, by rw [rowD_zero]; exact hP.same (Same.new hlr), by omega⟩ ?_ ?_
    · rintro σ H4 ⟨i, lr1, y1, y2, y3, y4, y5, y6, vs, rfl, s4, hr4, hR4, hi⟩
      have hvl := hR4.len
      rw [rowD_len] at hvl
      walk_at "rd"
      refine ite_dec (fun hlt => ?_) (fun hge => ?_)
      · walk_at "rd"
        intro ln hln
        have hr4' : (upd H4 ln (.lst [])) lr1 = some (.lst vs) := upd_keep hln hr4
        walk_at "rd"
        refine ⟨by omega, by omega, for_range (fun j σ H' => ∃ (y1 y3 y4 y5 y6 : Option V) (xs : List V), σ = [some (.ref a), some (.ref lr1), some (.ref ln), y1, y3, y4, y5, y6] ∧ Same H4 H' ∧ H' ln = some (.lst xs) ∧ PtsV H' xs ((rowD ps (i + 1)).take j))
          ⟨_, _, _, _, _, [], rfl, Same.new hln, upd_same, PtsV.nil _⟩ ?_ ?_⟩
        · rintro j σ H5 hj ⟨z1, z3, z4, z5, z6, xs, rfl, s5, hn5, hX⟩
          have hj' : j + 1 + i < ps.length := by omega
          obtain ⟨v1, ev1, g1, x1, u1, rfl, hg1, wx1, wu1⟩ := (hR4.same s5).at (rowD_get (ps := ps) (k := i) (j := j) (by omega))
          obtain ⟨v2, ev2, g2, x2, u2, rfl, hg2, wx2, wu2⟩ := (hR4.same s5).at (rowD_get (ps := ps) (k := i) (j := j + 1) (by omega))
          obtain ⟨c1, c2⟩ := bd i j (by omega)
          obtain ⟨c3, c4⟩ := bd i (j + 1) (by omega)
          have hr5 : H5 lr1 = some (.lst vs) := s5 _ _ hr4
          have hxl := hX.len
          walk_at "rd"
          refine ⟨lr1, _, _, _, rfl, rfl, SqL.of hr5, atI_nat' (j := j) (by omega) ev1, ?_⟩
          refine ⟨g1, _, rfl, SqT.of hg1, rfl, _, _, rfl, _, _, rfl, rfl, ?_⟩
          walk_at "rd"
          refine ⟨lr1, _, _, _, rfl, rfl, SqL.of hr5, atI_nat' (j := j + 1) (by omega) ev2, ?_⟩
          refine ⟨g2, _, rfl, SqT.of hg2, rfl, _, _, rfl, _, _, rfl, rfl, ?_⟩
          obtain ⟨gx1, rfl, hgx1⟩ := wx1
          obtain ⟨gu1, rfl, hgu1⟩ := wu1
          walk_at "rd"
          refine ⟨.inl ⟨rfl, _, SqL.of hn5⟩, ?_⟩
          walk_at "rd"
          intro r1 hr1'
          refine ⟨_, _, _, _, rfl, by walk_at "mv", sh_neg upd_same, c3.mono (by decide), (neg_bd c1).mono (by decide), True.intro, fun w3 H6 s6 p3 => ?_⟩
          have hgu2 : H6 gu1 = _ := s6 _ _ (upd_keep hr1' hgu1)
          walk_at "rd"
          intro r2 hr2'
          refine ⟨_, _, _, _, rfl, by walk_at "mv", sh_neg upd_same, c4.mono (by decide), (neg_bd c2).mono (by decide), True.intro, fun w4 H7 s7 p4 => ?_⟩
          walk_at "rd"
          intro r3 hr3'
          have hn7 : (upd H7 r3 (.tup [w3, w4])) ln = some (.lst xs) := by walk_at "hf"
          refine ⟨ln, _, _, rfl, rfl, hn7, small_line (by rw [hxl, List.length_take, rowD_len]; omega), ?_⟩
          have sC : Same H5 (upd H7 r3 (.tup [w3, w4])) := by walk_at "sm"
          have t7 : Tup (upd H7 r3 (.tup [w3, w4])) (upd (upd H7 r3 (.tup [w3, w4])) ln (.lst (xs ++ [.ref r3]))) := Tup.lst hn7
          refine ⟨_, _, _, _, _, xs ++ [.ref r3], rfl, same_upd hln (s5.trans sC), upd_same, ?_⟩
          rw [take_snoc (rowD_get (ps := ps) (k := i + 1) (j := j) (by omega))]
          refine PtsV.snoc ((hX.same sC).tup t7) (PtV.tup ⟨r3, w3, w4, rfl, upd_same, ?_, ?_⟩ t7)
          · have e : dl (gX ps) (i + 1) j = dl (gX ps) i (j + 1) + -dl (gX ps) i j := by show _ - _ = _; grind
            rw [e]; walk_at "mv"
          · have e : dl (gY ps) (i + 1) j = dl (gY ps) i (j + 1) + -dl (gY ps) i j := by show _ - _ = _; grind
            rw [e]; walk_at "mv"
        · rintro σ H5 ⟨z1, z3, z4, z5, z6, xs, rfl, s5, hn5, hX⟩
          have etk : (rowD ps (i + 1)).take ((vs.length : Int) - 1).toNat = rowD ps (i + 1) := List.take_of_length_le (by rw [rowD_len]; omega)
          have hX' : PtsV H5 xs (rowD ps (i + 1)) := by rw [← etk]; exact hX
          have hxl := hX'.len
          rw [rowD_len] at hxl
          walk_at "rd"
          refine ⟨⟨i + 1, ln, _, _, _, _, _, _, xs, rfl, s4.trans s5, hn5, hX', by omega⟩, ?_⟩
          show (match H5 ln with | some (.lst vs) => vs.length | _ => 0) < (match H4 lr1 with | some (.lst vs) => vs.length | _ => 0)
          rw [hn5, hr4]
          show xs.length < vs.length
          omega
      · have hi1 : i = ps.length - 1 := by omega
        subst hi1
        obtain ⟨v, ev, pv⟩ := hR4.at (rowD_get (ps := ps) (k := ps.length - 1) (j := 0) (by omega))
        walk_at "rd"
        refine ⟨lr1, _, _, _, rfl, rfl, SqL.of hr4, atI_nat' (j := 0) rfl ev, ?_⟩
        exact k v H4 s4 pv
    · rintro σ H' Q Q' hq ⟨v, e0, p', ys, e5, e6, j1, j2, e7, e8, kk, e9, h9⟩
      exact ⟨v, e0, p', ys, e5, e6, j1, j2, e7, e8, kk, e9, hq _ _ h9⟩
theorem ok_last_is_spare (F : FunAt K mg "last_is_spare" s_last_is_spare ["some"]) (B : Blt mg) {C_SeatError C_NoLower C_NoShare C_NoMap C_NoJoin C_NoPlace C_TooMany C_NoText C_NoName : Addr} (X : Exc K mg C_SeatError C_NoLower C_NoShare C_NoMap C_NoJoin C_NoPlace C_TooMany C_NoText C_NoName) {A_NOUGHT : Addr} (G : Cst K mg A_NOUGHT) : DefOk P w K mg base CX0 1 "last_is_spare" ["some"] (spSpareG K) := by
  refine def_okI F sc_last_is_spare (fun vs H Q E h => ?_) (fun f cdv A outer s H vs Q E hr h => ?_)
  · obtain ⟨a, ws, ps, rfl, _⟩ := h; rfl
  · obtain ⟨a, ws, ps, rfl, ha, hP, h1, k⟩ := h
    have hu := hr.units
    refine ⟨_, (pss_oneI (ps_retI (pe_andI (pe_cmpRI op_gt (pe_callBI (call_lenK K) (by rfl) B.len PySem.boot_len (pa_consI (pvI 0) pa_nilI)) pe_intI (nomark _)) (pe_oneI (pe_cmpRI (op_eqDK K hu) (pe_ixI (ix_listK K) (pvI 0) (pe_unI un_neg pe_intI) (fun _ _ => rfl)) (pe_globI (v := .ref A_NOUGHT) rfl G.NOUGHT rfl) (nomark _)))))), ?_⟩
    have hwl := hP.len
    obtain ⟨pl, ep⟩ : ∃ pl, ps[ps.length - 1]? = some pl := ⟨_, List.getElem?_eq_getElem (by omega)⟩
    obtain ⟨v, ev, pv⟩ := hP.at ep
    walk_at "rd"
    refine ite_dec (fun h2 => ?_) (fun h2 => ?_)
    · walk_at "rd"
      refine ⟨a, _, _, _, rfl, rfl, SqL.of ha, atI_last' _ _ (by rw [hwl]; exact ev) (by omega), ?_⟩
      walk_at "rd"
      refine ⟨datPt pl, datPt (0, 0), PtV.dn (p := pl) pv, PtK.dn (p := (0, 0)) (G.pNOUGHT _), datPt_ok _ 6, datPt_ok _ 6, fun b hb => ?_⟩
      refine k b ⟨fun e => ⟨by omega, ?_⟩, fun e => hb.mpr ?_⟩
      · rw [ep, datPt_inj.mp (hb.mp e)]
      · have := e.2
        rw [ep] at this
        rw [Option.some.inj this]
    · have e : decide ((1 : Int) < (ws.length : Int)) = false := decide_eq_false h2
      refine k _ ⟨fun z => absurd z (by simp [e]), fun z => absurd z.1 (by omega)⟩
theorem ok_greatest_common (F : FunAt K mg "greatest_common" s_greatest_common ["one", "other"]) (B : Blt mg) {C_SeatError C_NoLower C_NoShare C_NoMap C_NoJoin C_NoPlace C_TooMany C_NoText C_NoName : Addr} (X : Exc K mg C_SeatError C_NoLower C_NoShare C_NoMap C_NoJoin C_NoPlace C_TooMany C_NoText C_NoName) {A_NOUGHT : Addr} (G : Cst K mg A_NOUGHT) : DefOk P w K mg base CX0 1 "greatest_common" ["one", "other"] spGcd := by
  refine def_okI F sc_greatest_common (fun vs H Q E h => ?_) (fun f cdv A outer s H vs Q E hr h => ?_)
  · obtain ⟨a, b, rfl, _⟩ := h; rfl
  · obtain ⟨a, b, rfl, k⟩ := h
    have hu := hr.units
    refine ⟨_, (pss_consI (ps_whileI PassesOwn.never (pt_cmpRI op_ne (pvI 1) pe_intI (nomark _)) (pss_oneI (ps_parI (i := 0) (j := 1) rfl sc_greatest_common.nd rfl rfl (by decide) rfl rfl (pa_consI (pvI 1) (pa_consI (pe_opI op_modN (pvI 0) (pvI 1)) pa_nilI)) rfl)))
      (pss_oneI (ps_retI (pe_callBI call_abs (by rfl) B.abs PyProof.Rows.boot_abs (pa_consI (pvI 0) pa_nilI))))), ?_⟩
    refine while_by (fun σ H' => ∃ x y : Int, σ = [some (.int x), some (.int y)] ∧ H' = H ∧ Int.gcd x y = Int.gcd a b) (fun σ _ => match σ with | [_, some (.int y)] => y.natAbs | _ => 0) ⟨a, b, rfl, rfl, rfl⟩ ?_ ?_
    · rintro σ H' ⟨x, y, rfl, rfl, e⟩
      refine ⟨_, rfl, rfl, _, rfl, ?_⟩
      by_cases hy : y = 0
      · subst hy
        refine iteNS rfl ?_
        refine ⟨_, rfl, _, rfl, ?_⟩
        rw [gcd_zero, e]
        exact k
      · refine ifT (dec_int_ne hy) ?_
        refine ⟨_, rfl, _, rfl, _, rfl, _, _, rfl, rfl, hy, _, _, rfl, ⟨_, _, rfl, rfl, ?_⟩, ?_⟩
        · rw [gcd_step]; exact e
        · exact fmod_lt x y hy
    · rintro σ H' Q Q' hq ⟨v, h1, hs, k1, h2, h3⟩
      exact ⟨v, h1, hs, k1, h2, hq _ _ h3⟩
theorem ok_common_bottoms (F : FunAt K mg "common_bottoms" s_common_bottoms ["shares"]) (B : Blt mg) {C_SeatError C_NoLower C_NoShare C_NoMap C_NoJoin C_NoPlace C_TooMany C_NoText C_NoName : Addr} (X : Exc K mg C_SeatError C_NoLower C_NoShare C_NoMap C_NoJoin C_NoPlace C_TooMany C_NoText C_NoName) {A_NOUGHT : Addr} (G : Cst K mg A_NOUGHT) (D_greatest_common : DefOk P w K mg base CX0 1 "greatest_common" ["one", "other"] spGcd) : DefOk P w K mg base CX0 2 "common_bottoms" ["shares"] (spCommon K) := by
  refine def_okI F sc_common_bottoms (fun vs H Q E h => ?_) (fun f cdv A outer s H vs Q E hr h => ?_)
  · obtain ⟨a, ws, qs, D, rfl, _⟩ := h; rfl
  · obtain ⟨a, ws, qs, D, rfl, hS, hQ, hD, zD, hdv, h40, k⟩ := h
    have hu := hr.units
    refine ⟨_, (pss_consI (ps_setI (i := 1) sc_common_bottoms.nd rfl (by first | exact Or.inl rfl | exact Or.inr rfl) (pe_lstI pa_nilI))
      (pss_consI (ps_setI (i := 2) sc_common_bottoms.nd rfl (by first | exact Or.inl rfl | exact Or.inr rfl) pe_intI)
      (pss_consI (ps_forI PassesOwn.never rfl (pi_listI (pvI 0)) (pg_nameI (i := 3) sc_common_bottoms.nd rfl (by first | exact Or.inl rfl | exact Or.inr rfl))
      (pss_consI (ps_setI (i := 4) sc_common_bottoms.nd rfl (by first | exact Or.inl rfl | exact Or.inr rfl) (pe_opI op_fdivB (pe_ixI (ix_tupK K) (pvI 3) pe_intI (fun _ _ => rfl)) (pe_fnI D_greatest_common hr pass0 (pa_consI (pvI 2) (pa_consI (pe_ixI (ix_tupK K) (pvI 3) pe_intI (fun _ _ => rfl)) pa_nilI)))))
      (pss_oneI (ps_ifI (pt_cmpRI op_gt (pvI 4) pe_intI (nomark _)) (pss_consI (ps_exprI (pe_bmI PySem.F.plainAttrs_list PySem.F.slot_list_append PySem.F.type_list_append mt_append (pvI 1) (pa_consI (pvI 4) pa_nilI)))
      (pss_oneI (ps_setI (i := 2) sc_common_bottoms.nd rfl (by first | exact Or.inl rfl | exact Or.inr rfl) (pe_opI op_mulA (pvI 2) (pvI 4))))) pss_nilI))))
      (pss_oneI (ps_retI (pvI 1)))))), ?_⟩
    walk_at "rd"
    intro l hl
    walk_at "rd"
    refine ⟨⟨ws, by walk_at "mv"⟩, for_list (xs := ws) (fun i σ H' => ∃ (y1 y2 : Option V) (W : Int) (bs : List Int), σ = [some (.ref a), some (.ref l), some (.int W), y1, y2] ∧ W = prodI bs ∧ Same H H' ∧ H' l = some (.lst (bs.map V.int)) ∧ (∀ b ∈ bs, 0 < b ∧ Sz 9000 b) ∧ W ∣ D ∧ (∀ j q, j < i → qs[j]? = some q → (q.den : Int) ∣ W) ∧ bs.length ≤ i)
      ⟨none, none, 1, [], rfl, rfl, Same.new hl, upd_same, (fun _ h => nomatch h), ⟨D, by rw [Int.one_mul]⟩, fun j q h => absurd h (Nat.not_lt_zero _), Nat.le_refl _⟩ ?_ ?_ ?_⟩
    · rintro i σ H' hi ⟨y1, y2, W, bs, rfl, eW, s1, h1, hb, hW, hq, hn⟩
      exact s1.seq hS
    · rintro i x σ H' hx ⟨y1, y2, W, bs, rfl, eW, s1, h1, hb, hW, hq, hn⟩
      have hi : i < ws.length := (List.getElem?_eq_some_iff.mp hx).1
      have hwl := hQ.len
      obtain ⟨q, eq, c, rfl, hc⟩ := (hQ.same s1).atV hx
      have hdq := hdv q (List.mem_of_getElem? eq)
      have hd0 : 0 < (q.den : Int) := by have := q.den_pos; omega
      obtain ⟨g1, g2, g3, g4, g5⟩ := lcm_step hd0 hW hdq
      have zq : Sz 9000 (q.den : Int) := sz_dvd (by omega) hdq zD
      have zg : Sz 9000 (Int.gcd W q.den : Int) := sz_dvd (by omega) g5 zq
      walk_at "rd"
      refine ⟨W, q.den, rfl, ?_⟩
      refine ⟨_, _, rfl, rfl, ⟨by omega, zg⟩, ?_⟩
      walk_at "rd"
      have zW : Sz 9000 W := sz_dvd (by omega) hW zD
      have zm : Sz 9000 ((q.den : Int).fdiv (Int.gcd W q.den)) := quo_sz hd0 g4 g5 zq
      refine ite_dec (fun hm => ?_) (fun hm => ?_)
      · walk_at "rd"
        refine ⟨.inl ⟨rfl, _, SqL.of h1⟩, ?_⟩
        walk_at "rd"
        refine ⟨l, _, _, rfl, rfl, h1, small_line (by rw [List.length_map]; omega), ?_⟩
        walk_at "rd"
        refine ⟨_, _, _, bs ++ [(q.den : Int).fdiv (Int.gcd W q.den)], rfl, by rw [prodI_snoc, eW], fun b o e => ?_, ?_, ?_, g2, ?_, ?_⟩
        · rw [upd_ne (ne_of_none e hl)]; exact s1 b o e
        · rw [upd_same, List.map_append]; rfl
        · intro b hb'
          rcases List.mem_append.mp hb' with h | h
          · exact hb b h
          · rw [List.mem_singleton.mp h]; exact ⟨g3, zm⟩
        · intro j r hj er
          by_cases hji : j = i
          · subst hji
            rw [eq] at er; cases er
            exact g1
          · exact Int.dvd_trans (hq j r (by omega) er) ⟨_, rfl⟩
        · rw [List.length_append]; show bs.length + 1 ≤ i + 1; omega
      · have e1 : (q.den : Int).fdiv (Int.gcd W q.den) = 1 := by omega
        rw [e1, Int.mul_one] at g1
        refine ⟨_, _, _, bs, rfl, eW, s1, h1, hb, hW, ?_, by omega⟩
        intro j r hj er
        by_cases hji : j = i
        · subst hji
          rw [eq] at er; cases er
          exact g1
        · exact hq j r (by omega) er
    · rintro σ H' ⟨y1, y2, W, bs, rfl, eW, s1, h1, hb, hW, hq, hn⟩
      have hwl := hQ.len
      refine ⟨_, rfl, k l bs H' s1 h1 hb (fun q hm => ?_) (eW ▸ hW) (by omega)⟩
      obtain ⟨j, hj, rfl⟩ := List.getElem_of_mem hm
      rw [← eW]
      exact hq j _ (by omega) (List.getElem?_eq_getElem hj)
theorem ok_product (F : FunAt K mg "product" s_product ["numbers"]) (B : Blt mg) {C_SeatError C_NoLower C_NoShare C_NoMap C_NoJoin C_NoPlace C_TooMany C_NoText C_NoName : Addr} (X : Exc K mg C_SeatError C_NoLower C_NoShare C_NoMap C_NoJoin C_NoPlace C_TooMany C_NoText C_NoName) {A_NOUGHT : Addr} (G : Cst K mg A_NOUGHT) : DefOk P w K mg base CX0 1 "product" ["numbers"] (spProduct K) := by
  refine def_okI F sc_product (fun vs H Q E h => ?_) (fun f cdv A outer s H vs Q E hr h => ?_)
  · obtain ⟨a, bs, rfl, _⟩ := h; rfl
  · obtain ⟨a, bs, rfl, hS, hb, hn, k⟩ := h
    have hu := hr.units
    refine ⟨_, (pss_consI (ps_setI (i := 1) sc_product.nd rfl (by first | exact Or.inl rfl | exact Or.inr rfl) pe_intI)
      (pss_consI (ps_forI PassesOwn.never rfl (pi_listI (pvI 0)) (pg_nameI (i := 2) sc_product.nd rfl (by first | exact Or.inl rfl | exact Or.inr rfl))
      (pss_oneI (ps_setI (i := 1) sc_product.nd rfl (by first | exact Or.inl rfl | exact Or.inr rfl) (pe_opI op_mulA (pvI 1) (pvI 2)))))
      (pss_oneI (ps_retI (pvI 1))))), ?_⟩
    walk_at "rd"
    refine ⟨⟨_, hS⟩, for_list (xs := bs.map V.int) (fun i σ H' => ∃ (y : Option V) (W : Int), σ = [some (.ref a), some (.int W), y] ∧ W = prodI (bs.take i) ∧ H' = H) ⟨none, 1, rfl, rfl, rfl⟩ ?_ ?_ ?_⟩
    · rintro i σ H' hi ⟨y, W, rfl, eW, rfl⟩
      exact hS
    · rintro i x σ H' hx ⟨y, W, rfl, eW, rfl⟩
      obtain ⟨b, eb, rfl⟩ := ints_at hx
      have zW : Sz (9000 * 100 + 1) W := by
        rw [eW]
        exact (prod_sz fun c hc => hb c (List.mem_of_mem_take hc)).mono (by rw [List.length_take]; omega)
      walk_at "rd"
      refine ⟨mulB zW (hb b (List.mem_of_getElem? eb)).2, _, _, rfl, ?_, rfl⟩
      rw [take_snoc eb, prodI_snoc, eW]
    · rintro σ H' ⟨y, W, rfl, eW, rfl⟩
      refine ⟨_, rfl, ?_⟩
      rw [List.length_map, List.take_length] at eW
      rw [eW]; exact k
theorem ok_axis (F : FunAt K mg "axis" s_axis ["shares"]) (B : Blt mg) {C_SeatError C_NoLower C_NoShare C_NoMap C_NoJoin C_NoPlace C_TooMany C_NoText C_NoName : Addr} (X : Exc K mg C_SeatError C_NoLower C_NoShare C_NoMap C_NoJoin C_NoPlace C_TooMany C_NoText C_NoName) {A_NOUGHT : Addr} (G : Cst K mg A_NOUGHT) (D_common_bottoms : DefOk P w K mg base CX0 2 "common_bottoms" ["shares"] (spCommon K)) (D_product : DefOk P w K mg base CX0 1 "product" ["numbers"] (spProduct K)) : DefOk P w K mg base CX0 3 "axis" ["shares"] (spAxis K) := by
  refine def_okI F sc_axis (fun vs H Q E h => ?_) (fun f cdv A outer s H vs Q E hr h => ?_)
  · obtain ⟨a, ws, qs, D, m, rfl, _⟩ := h; rfl
  · obtain ⟨a, ws, qs, D, m, rfl, hS, hQ, hD, zD, hdv, hm, h40, k⟩ := h
    have hu := hr.units
    refine ⟨_, (pss_consI (ps_setI (i := 1) sc_axis.nd rfl (by first | exact Or.inl rfl | exact Or.inr rfl) (pe_fnI D_common_bottoms hr pass0 (pa_consI (pvI 0) pa_nilI)))
      (pss_consI (ps_setI (i := 2) sc_axis.nd rfl (by first | exact Or.inl rfl | exact Or.inr rfl) (pe_fnI D_product hr pass0 (pa_consI (pvI 1) pa_nilI)))
      (pss_oneI (ps_retI (pe_tupI (pa_consI (pe_compSI (os := ["one"]) (caps := [(2, "whole")]) ["shares", "bottoms", "whole"] (defScope s_axis) (pi_listI (pvI 0)) (fun _ _ _ _ _ => (pg_nameI (i := 0) (show List.Nodup (["one", "whole"] : List Str) from by decide +kernel) rfl (by first | exact Or.inl rfl | exact Or.inr rfl))) (fun _ _ _ _ _ => (pe_opI op_mulA (pe_ixI (ix_tupK K) (pvI 0) pe_intI (fun _ _ => rfl)) (pe_opI op_fdivB (pvI 1) (pe_ixI (ix_tupK K) (pvI 0) pe_intI (fun _ _ => rfl))))) (by decide +kernel)) (pa_consI (pvI 1) pa_nilI))))))), ?_⟩
    walk_at "rd"
    refine ⟨a, ws, qs, D, rfl, hS, hQ, hD, zD, fun q hq => (hdv q hq).1, h40, fun lb bs H1 s1 hlb hb hdb hbD hbl => ?_⟩
    have hW : 0 < prodI bs := prodI_pos fun b hb' => (hb b hb').1
    have zW : Sz 9000 (prodI bs) := sz_dvd (by omega) hbD zD
    have hwl := hQ.len
    walk_at "rd"
    refine ⟨lb, bs, rfl, SqL.of hlb, hb, by omega, ?_⟩
    walk_at "rd"
    refine ⟨⟨_, s1.seq hS⟩, comp1 (plain_list (s1.seq hS)) (by omega) (fun i v _ => ∀ q, qs[i]? = some q → v = .int (q.num * (prodI bs).fdiv q.den)) (fun _ _ _ _ _ h => h) (fun i H2 kk hi s2 hk => ?_) (fun E2 ys H2 hE s2 hE2 hl hr => ?_)⟩
    · have ew : ws[i]? = some ws[i] := List.getElem?_eq_getElem hi
      obtain ⟨q, eq, c, ec, hc⟩ := ((hQ.same s1).same s2).atV ew
      have ef : (ws[i]?).getD V.non = .ref c := by rw [ew]; exact ec
      obtain ⟨dq, bq⟩ := hdv q (List.mem_of_getElem? eq)
      have hd0 : 0 < (q.den : Int) := by have := q.den_pos; omega
      have zq : Sz 9000 (q.den : Int) := sz_dvd (by omega) dq zD
      have dW := hdb q (List.mem_of_getElem? eq)
      have zf : Sz 9000 ((prodI bs).fdiv q.den) := quo_sz hW hd0 dW zW
      rw [ef]
      walk_at "rd"
      refine ⟨⟨by omega, zq⟩, ?_⟩
      refine ⟨_, _, rfl, rfl, mulN bq.num zf (by omega), ?_⟩
      refine hk _ _ (L2.Same.refl _) fun q' e' => ?_
      rw [eq] at e'; cases e'
      rfl
    · walk_at "rd"
      intro p hp
      have ey := ints_of (by omega) hr
      refine k _ (qs.map fun q => q.num * (prodI bs).fdiv q.den) bs _ (by walk_at "sm") ⟨p, E2, lb, rfl, upd_same, ?_, ?_, ?_, hb, by omega, by rw [List.length_map]; omega⟩ (axR_tops hW hdb) hbl
      · rw [← ey]; exact upd_keep hp hE2
      · exact upd_keep hp (s2 _ _ hlb)
      · intro x hx
        obtain ⟨q, hq, rfl⟩ := List.mem_map.mp hx
        obtain ⟨dq, bq⟩ := hdv q hq
        exact (bq.num.mul (quo_sz hW (by have := q.den_pos; omega) (hdb q hq) zW)).mono (by omega)
theorem ok_axes (F : FunAt K mg "axes" s_axes ["points"]) (B : Blt mg) {C_SeatError C_NoLower C_NoShare C_NoMap C_NoJoin C_NoPlace C_TooMany C_NoText C_NoName : Addr} (X : Exc K mg C_SeatError C_NoLower C_NoShare C_NoMap C_NoJoin C_NoPlace C_TooMany C_NoText C_NoName) {A_NOUGHT : Addr} (G : Cst K mg A_NOUGHT) (D_axis : DefOk P w K mg base CX0 3 "axis" ["shares"] (spAxis K)) : DefOk P w K mg base CX0 4 "axes" ["points"] (spAxes K) := by
  refine def_okI F sc_axes (fun vs H Q E h => ?_) (fun f cdv A outer s H vs Q E hr h => ?_)
  · obtain ⟨a, ws, ps, D, m, rfl, _⟩ := h; rfl
  · obtain ⟨a, ws, ps, D, m, rfl, hS, hP, hD, zD, hdv, hm, h40, k⟩ := h
    have hu := hr.units
    refine ⟨_, (pss_oneI (ps_retI (pe_tupI (pa_consI (pe_fnI D_axis hr pass0 (pa_consI (pe_compSI (os := ["place"]) (caps := []) ["points"] (defScope s_axes) (pi_listI (pvI 0)) (fun _ _ _ _ _ => (pg_nameI (i := 0) (show List.Nodup (["place"] : List Str) from by decide +kernel) rfl (by first | exact Or.inl rfl | exact Or.inr rfl))) (fun _ _ _ _ _ => (pe_ixI (ix_tupK K) (pvI 0) pe_intI (fun _ _ => rfl))) (by decide +kernel)) pa_nilI)) (pa_consI (pe_fnI D_axis hr pass0 (pa_consI (pe_compSI (os := ["place"]) (caps := []) ["points"] (defScope s_axes) (pi_listI (pvI 0)) (fun _ _ _ _ _ => (pg_nameI (i := 0) (show List.Nodup (["place"] : List Str) from by decide +kernel) rfl (by first | exact Or.inl rfl | exact Or.inr rfl))) (fun _ _ _ _ _ => (pe_ixI (ix_tupK K) (pvI 0) pe_intI (fun _ _ => rfl))) (by decide +kernel)) pa_nilI)) pa_nilI))))), ?_⟩
    have hwl := hP.len
    walk_at "rd"
    refine ⟨⟨ws, by walk_at "mv"⟩, comp1 (plain_list (by walk_at "mv" : SqL K _ a ws)) (by omega) (fun i v H => ∀ p, ps[i]? = some p → ShV H v p.1) (fun _ _ _ _ t h p e => (h p e).tup t) (fun i H2 kk hi s2 hk => ?_) (fun E2 ys2 H2 hE2 s2 hE'2 hl2 hr2 => ?_)⟩
    · have ew : ws[i]? = some ws[i] := List.getElem?_eq_getElem hi
      obtain ⟨p, ep, c, vx, vy, ec, hc, hx, hy⟩ := (show PtsV H2 ws ps by walk_at "mv").atV ew
      have ef : (ws[i]?).getD V.non = .ref c := by rw [ew]; exact ec
      rw [ef]
      walk_at "rd"
      refine hk _ _ (L2.Same.refl _) fun p' e' => ?_
      rw [ep] at e'; cases e'
      assumption
    have hq2 : ShL H2 ys2 (ps.map (·.1)) := ShL.map (by omega) hr2
    clear hr2
    refine ⟨E2, ys2, ps.map (·.1), D, m, rfl, SqL.of hE'2, hq2, hD, zD, fun q hq => ?_, hm, by rw [List.length_map]; omega, fun v3 t3 b3 H3 s3 A3 e3 n3 => ?_⟩
    · obtain ⟨p, hp, rfl⟩ := List.mem_map.mp hq
      exact (hdv p hp).1
    rw [List.length_map] at n3
    walk_at "rd"
    refine ⟨⟨ws, by walk_at "mv"⟩, comp1 (plain_list (by walk_at "mv" : SqL K _ a ws)) (by omega) (fun i v H => ∀ p, ps[i]? = some p → ShV H v p.2) (fun _ _ _ _ t h p e => (h p e).tup t) (fun i H4 kk hi s4 hk => ?_) (fun E4 ys4 H4 hE4 s4 hE'4 hl4 hr4 => ?_)⟩
    · have ew : ws[i]? = some ws[i] := List.getElem?_eq_getElem hi
      obtain ⟨p, ep, c, vx, vy, ec, hc, hx, hy⟩ := (show PtsV H4 ws ps by walk_at "mv").atV ew
      have ef : (ws[i]?).getD V.non = .ref c := by rw [ew]; exact ec
      rw [ef]
      walk_at "rd"
      refine hk _ _ (L2.Same.refl _) fun p' e' => ?_
      rw [ep] at e'; cases e'
      assumption
    have hq4 : ShL H4 ys4 (ps.map (·.2)) := ShL.map (by omega) hr4
    clear hr4
    refine ⟨E4, ys4, ps.map (·.2), D, m, rfl, SqL.of hE'4, hq4, hD, zD, fun q hq => ?_, hm, by rw [List.length_map]; omega, fun v5 t5 b5 H5 s5 A5 e5 n5 => ?_⟩
    · obtain ⟨p, hp, rfl⟩ := List.mem_map.mp hq
      exact (hdv p hp).2
    rw [List.length_map] at n5
    walk_at "rd"
    intro c hc
    exact k c v3 v5 t3 b3 t5 b5 _ (by walk_at "sm") upd_same (by walk_at "mv") (by walk_at "mv") e3 e5 n3 n5
theorem ok_spread (F : FunAt K mg "spread" s_spread ["n", "one", "other"]) (B : Blt mg) {C_SeatError C_NoLower C_NoShare C_NoMap C_NoJoin C_NoPlace C_TooMany C_NoText C_NoName : Addr} (X : Exc K mg C_SeatError C_NoLower C_NoShare C_NoMap C_NoJoin C_NoPlace C_TooMany C_NoText C_NoName) {A_NOUGHT : Addr} (G : Cst K mg A_NOUGHT) : DefOk P w K mg base CX0 1 "spread" ["n", "one", "other"] spSpread := by
  refine def_okI F sc_spread (fun vs H Q E h => ?_) (fun f cdv A outer s H vs Q E hr h => ?_)
  · obtain ⟨n, x, y, rfl, _⟩ := h; rfl
  · obtain ⟨n, x, y, rfl, hn, zx, zy, k⟩ := h
    have hu := hr.units
    refine ⟨_, (pss_consI (ps_setI (i := 3) sc_spread.nd rfl (by first | exact Or.inl rfl | exact Or.inr rfl) (pe_lstI (pa_consI pe_intI pa_nilI)))
      (pss_consI (ps_whileI PassesOwn.never (pt_cmpRI op_le (pe_callBI (call_lenK K) (by rfl) B.len PySem.boot_len (pa_consI (pvI 3) pa_nilI)) (pvI 0) (nomark _)) (pss_oneI (ps_compSI (i := 3) (os := ["left", "taken"]) (caps := [(1, "one"), (2, "other")]) ["n", "one", "other", "found"] (defScope s_spread) sc_spread.nd rfl rfl (pi_zipI rfl B.zip (pa_consI (pe_opI op_cat (pvI 3) (pe_lstI (pa_consI pe_intI pa_nilI))) (pa_consI (pe_opI op_cat (pe_lstI (pa_consI pe_intI pa_nilI)) (pvI 3)) pa_nilI))) (fun _ _ _ _ _ => (pg_tupKI (n := 2) K rfl (pgs_consI (pg_nameI (i := 0) (show List.Nodup (["left", "taken", "one", "other"] : List Str) from by decide +kernel) rfl (by first | exact Or.inl rfl | exact Or.inr rfl)) (pgs_consI (pg_nameI (i := 1) (show List.Nodup (["left", "taken", "one", "other"] : List Str) from by decide +kernel) rfl (by first | exact Or.inl rfl | exact Or.inr rfl)) pgs_nilI)))) (fun _ _ _ _ _ => (pe_opI op_add (pe_opI op_mulA (pvI 2) (pvI 0)) (pe_opI op_mulA (pvI 3) (pvI 1)))) (by decide +kernel))))
      (pss_oneI (ps_retI (pvI 3))))), ?_⟩
    walk_at "rd"
    intro l0 hl0
    refine while_by (fun σ H' => ∃ (l : Addr) (r : Nat), σ = [some (.int (n : Int)), some (.int y), some (.int x), some (.ref l)] ∧ Same H H' ∧ H l = none ∧ H' l = some (.lst (spL x y r)) ∧ r ≤ n) (muL n) ⟨l0, 0, rfl, Same.new hl0, hl0, by rw [upd_same]; unfold spL spI; simp [ch], by omega⟩ ?_ ?_
    · rintro σ H1 ⟨l, r, rfl, s1, hl, h1, hr⟩
      have hsl := spL_len x y r
      walk_at "rd"
      refine ite_dec (fun hle => ?_) (fun hle => ?_)
      · have hrn : r < n := by omega
        walk_at "rd"
        intro l1 hl1
        refine ⟨l, l1, _, _, rfl, rfl, by walk_at "hf", upd_same, ?_, fun l2 hl2 => ?_⟩
        · exact Nat.le_of_lt (small_line (by simp; omega))
        walk_at "rd"
        intro l3 hl3
        walk_at "rd"
        refine ⟨l3, l, _, _, rfl, rfl, upd_same, by walk_at "hf", ?_, fun l4 hl4 => ?_⟩
        · exact Nat.le_of_lt (small_line (by simp; omega))
        walk_at "rd"
        refine ⟨l2, l4, rfl, ⟨_, SqL.of (by walk_at "hf")⟩, ⟨_, SqL.of upd_same⟩, comp2 (plain_zip (xs := spL x y r ++ [V.int 0]) (ys := [V.int 0] ++ spL x y r) (SqL.of (by walk_at "hf")) (SqL.of upd_same)) (by simp; omega) (fun i v _ => v = V.int (spI x y (r + 1) i)) (fun _ _ _ _ _ h => h) (fun i H2 kk hi s2 hk => ?_) (fun D us H2 hD s2 hD2 hul hr' => ?_)⟩
        · have hi' : i ≤ r + 1 := by
            have : i < min (spL x y r ++ [V.int 0]).length ([V.int 0] ++ spL x y r).length := hi
            simp at this; omega
          obtain ⟨z, e2, _, hz⟩ := right_get x y r i hi'
          rw [left_get x y r i hi', e2]
          have zs := spI_szs (k := i) zx zy (show r ≤ 12 by omega) hi'
          have zz : Sz 8100 z := by
            rcases hz with ⟨_, rfl⟩ | ⟨j, _, rfl⟩
            · exact zero_sz
            · exact spI_szs zx zy (by omega) (by omega)
          walk_at "rd"
          refine hk _ H2 (L2.Same.refl _) ?_
          show V.int (y * spI x y r i + x * z) = _
          rcases hz with ⟨rfl, rfl⟩ | ⟨j, rfl, rfl⟩
          · rw [spI_zero, Int.mul_zero, Int.add_zero]
          · rw [spI_succ _ _ _ _ (by omega)]
        · have eu : us = spL x y (r + 1) := spL_of (by rw [hul]; simp; omega) hr'
          subst eu
          have sH : Same H H2 := by walk_at "sm"
          refine ⟨⟨D, r + 1, rfl, sH, s1.free ((Same.new hl1).free ((Same.new hl2).free ((Same.new hl3).free ((Same.new hl4).free hD)))), hD2, by omega⟩, ?_⟩
          rw [muL_eq h1]
          show muL n [_, _, _, some (.ref D)] H2 < _
          rw [muL_eq hD2, spL_len, spL_len]; omega
      · have e : r = n := by omega
        subst e
        walk_at "rd"
        exact k l H1 s1 hl h1
    · rintro σ H1 Q1 Q2 hq ⟨v, h1, p, ys, h2, h3, u, h4, i, j, h5, h6, c, h7, h8⟩
      exact ⟨v, h1, p, ys, h2, h3, u, h4, i, j, h5, h6, c, h7, hq _ _ h8⟩
theorem ok_sums_from (F : FunAt K mg "sums_from" s_sums_from ["first", "steps"]) (B : Blt mg) {C_SeatError C_NoLower C_NoShare C_NoMap C_NoJoin C_NoPlace C_TooMany C_NoText C_NoName : Addr} (X : Exc K mg C_SeatError C_NoLower C_NoShare C_NoMap C_NoJoin C_NoPlace C_TooMany C_NoText C_NoName) {A_NOUGHT : Addr} (G : Cst K mg A_NOUGHT) : DefOk P w K mg base CX0 1 "sums_from" ["first", "steps"] (spSums K) := by
  refine def_okI F sc_sums_from (fun vs H Q E h => ?_) (fun f cdv A outer s H vs Q E hr h => ?_)
  · obtain ⟨f, a, ms, rfl, _⟩ := h; rfl
  · obtain ⟨f, a, ms, rfl, hS, h100, k⟩ := h
    have hu := hr.units
    refine ⟨_, (pss_consI (ps_setI (i := 2) sc_sums_from.nd rfl (by first | exact Or.inl rfl | exact Or.inr rfl) (pe_lstI (pa_consI (pvI 0) pa_nilI)))
      (pss_consI (ps_forI PassesOwn.never rfl (pi_listI (pvI 1)) (pg_nameI (i := 3) sc_sums_from.nd rfl (by first | exact Or.inl rfl | exact Or.inr rfl))
      (pss_oneI (ps_exprI (pe_bmI PySem.F.plainAttrs_list PySem.F.slot_list_append PySem.F.type_list_append mt_append (pvI 2) (pa_consI (pe_opI op_add (pe_ixI (ix_listK K) (pvI 2) (pe_unI un_neg pe_intI) (fun _ _ => rfl)) (pvI 3)) pa_nilI)))))
      (pss_oneI (ps_retI (pvI 2))))), ?_⟩
    walk_at "rd"
    intro lf hlf
    have hS1 : SqL K (upd H lf (.lst [.int f])) a (ms.map V.int) := by walk_at "mv"
    walk_at "rd"
    refine ⟨⟨_, hS1⟩, for_list (xs := ms.map V.int) (fun i σ H' => ∃ (y : Option V), σ = [some (.int f), some (.ref a), some (.ref lf), y] ∧ Same H H' ∧ H' lf = some (.lst ((sumsI f (ms.take i)).map V.int))) ⟨none, rfl, Same.new hlf, upd_same⟩ ?_ ?_ ?_⟩
    · rintro i σ H' hi ⟨y, rfl, s1, g1⟩
      exact s1.seq hS
    · rintro i x σ H' hx ⟨y, rfl, s1, g1⟩
      obtain ⟨b, eb, rfl⟩ := ints_at hx
      have hi : i < ms.length := (List.getElem?_eq_some_iff.mp eb).1
      have hsl := sumsI_len (ms.take i) f
      rw [List.length_take] at hsl
      have el : ((sumsI f (ms.take i)).map V.int)[((sumsI f (ms.take i)).map V.int).length - 1]? = some (V.int (((sumsI f (ms.take i)).getLast?).getD 0)) := by
        rw [List.length_map, List.getElem?_map, List.getLast?_eq_getElem?, List.getElem?_eq_getElem (by omega)]; rfl
      walk_at "rd"
      refine ⟨.inl ⟨rfl, _, SqL.of g1⟩, ?_⟩
      walk_at "rd"
      refine ⟨lf, _, _, _, rfl, rfl, SqL.of g1, atI_last' _ _ el (by rw [List.length_map]; omega), ?_⟩
      walk_at "rd"
      refine ⟨lf, _, _, rfl, rfl, g1, small_line (by rw [List.length_map]; omega), ?_⟩
      refine ⟨_, rfl, same_upd hlf s1, ?_⟩
      rw [upd_same, take_snoc eb, sums_snoc, List.map_append]; rfl
    · rintro σ H' ⟨y, rfl, s1, g1⟩
      rw [List.length_map, List.take_length] at g1
      exact ⟨_, rfl, k lf H' s1 hlf g1⟩
theorem ok_axis_seats (F : FunAt K mg "axis_seats" s_axis_seats ["one"]) (B : Blt mg) {C_SeatError C_NoLower C_NoShare C_NoMap C_NoJoin C_NoPlace C_TooMany C_NoText C_NoName : Addr} (X : Exc K mg C_SeatError C_NoLower C_NoShare C_NoMap C_NoJoin C_NoPlace C_TooMany C_NoText C_NoName) {A_NOUGHT : Addr} (G : Cst K mg A_NOUGHT) (D_axis : DefOk P w K mg base CX0 3 "axis" ["shares"] (spAxis K)) (D_spread : DefOk P w K mg base CX0 1 "spread" ["n", "one", "other"] spSpread) (D_sums_from : DefOk P w K mg base CX0 1 "sums_from" ["first", "steps"] (spSums K)) : DefOk P w K mg base CX0 4 "axis_seats" ["one"] spAxSe := by
  refine def_okI F sc_axis_seats (fun vs H Q E h => ?_) (fun f cdv A outer s H vs Q E hr h => ?_)
  · obtain ⟨x, n, tops, bs, rfl, _⟩ := h; rfl
  · obtain ⟨_, n, tops, bs, rfl, ⟨a1, lt, lb, rfl, h1, ht, hb, z1, g1, n1, m1⟩, l1, l12, hn, h50, k⟩ := h
    have hu := hr.units
    refine ⟨_, (pss_consI (ps_asgI (pvI 0) (pg_tupKI (n := 2) K rfl (pgs_consI (pg_nameI (i := 1) sc_axis_seats.nd rfl (by first | exact Or.inl rfl | exact Or.inr rfl)) (pgs_consI (pg_nameI (i := 2) sc_axis_seats.nd rfl (by first | exact Or.inl rfl | exact Or.inr rfl)) pgs_nilI))))
      (pss_consI (ps_asgI (pe_fnI D_axis hr pass0 (pa_consI (pe_compSI (os := ["ways"]) (caps := []) ["one", "tops", "bottoms", "parts", "more", "found", "top", "part"] (defScope s_axis_seats) (pi_listI (pe_fnI D_spread hr pass0 (pa_consI (pe_opI op_sub (pe_callBI (call_lenK K) (by rfl) B.len PySem.boot_len (pa_consI (pvI 1) pa_nilI)) pe_intI) (pa_consI pe_intI (pa_consI pe_intI pa_nilI))))) (fun _ _ _ _ _ => (pg_nameI (i := 0) (show List.Nodup (["ways"] : List Str) from by decide +kernel) rfl (by first | exact Or.inl rfl | exact Or.inr rfl))) (fun _ _ _ _ _ => (pe_tupI (pa_consI pe_intI (pa_consI (pvI 0) pa_nilI)))) (by decide +kernel)) pa_nilI)) (pg_tupKI (n := 2) K rfl (pgs_consI (pg_nameI (i := 3) sc_axis_seats.nd rfl (by first | exact Or.inl rfl | exact Or.inr rfl)) (pgs_consI (pg_nameI (i := 4) sc_axis_seats.nd rfl (by first | exact Or.inl rfl | exact Or.inr rfl)) pgs_nilI))))
      (pss_consI (ps_setI (i := 5) sc_axis_seats.nd rfl (by first | exact Or.inl rfl | exact Or.inr rfl) (pe_lstI pa_nilI))
      (pss_consI (ps_forI PassesOwn.never rfl (pi_revI rfl B.reversed (pa_consI (pe_listzipI rfl B.list rfl B.zip (pa_consI (pvI 1) (pa_consI (pvI 3) pa_nilI))) pa_nilI)) (pg_tupKI (n := 2) K rfl (pgs_consI (pg_nameI (i := 6) sc_axis_seats.nd rfl (by first | exact Or.inl rfl | exact Or.inr rfl)) (pgs_consI (pg_nameI (i := 7) sc_axis_seats.nd rfl (by first | exact Or.inl rfl | exact Or.inr rfl)) pgs_nilI)))
      (pss_oneI (ps_setI (i := 5) sc_axis_seats.nd rfl (by first | exact Or.inl rfl | exact Or.inr rfl) (pe_fnI D_sums_from hr pass0 (pa_consI (pe_opI op_mulA (pvI 6) (pvI 7)) (pa_consI (pvI 5) pa_nilI))))))
      (pss_oneI (ps_retI (pe_tupI (pa_consI (pvI 5) (pa_consI (pe_opI op_cat (pvI 2) (pvI 4)) pa_nilI))))))))), ?_⟩
    obtain ⟨n0, e0⟩ : ∃ n0, tops.length = n0 + 1 := ⟨tops.length - 1, by omega⟩
    walk_at "rd"
    refine ⟨a1, _, rfl, SqT.of h1, rfl, _, _, rfl, _, _, rfl, rfl, ?_⟩
    walk_at "rd"
    refine ⟨n0, 1, 1, by show [V.int (((tops.map V.int).length : Int) - 1), V.int 1, V.int 1] = _; rw [List.length_map, e0]; congr 2; omega, by omega, ⟨by decide⟩, ⟨by decide⟩, fun ls H2 s2 hs0 hs => ?_⟩
    walk_at "rd"
    refine ⟨⟨_, SqL.of hs⟩, comp1 (plain_list (SqL.of hs)) (by simp; omega) (fun i v H => i ≤ n0 → ShV H v (Rat.divInt 1 (ch n0 i : Int))) (fun _ _ _ _ t h hi => (h hi).tup t) (fun i H3 kk hi s3 hk => ?_) (fun E ys H3 hE s3 hE3 hl hr => ?_)⟩
    · have hi' : i < n0 + 1 := by simpa using hi
      have ei : ((((List.range (n0 + 1)).map (spI 1 1 n0)).map V.int)[i]?).getD .non = V.int (ch n0 i : Int) := by
        rw [List.getElem?_map, List.getElem?_map, List.getElem?_range hi', ← sp_one]; rfl
      rw [ei]
      walk_at "rd"
      intro g hg
      have cp := ch_pos n0 i (by omega)
      have hu := low_unique (top := 1) (below := (ch n0 i : Int)) (P := (ch n0 i : Int)) (T := 1) (by omega) (by omega) (by simp) rfl
      refine hk _ _ (Same.new hg) fun _ => ⟨g, rfl, ?_⟩
      rw [upd_same, hu.1, hu.2]
    have hl' : ys.length = n0 + 1 := by rw [hl]; simp
    have hQ : ShL H3 ys ((List.range (n0 + 1)).map fun k => Rat.divInt 1 (ch n0 k : Int)) := by
      refine ⟨by rw [hl']; simp, fun i v q e1 e2 => ?_⟩
      have hi : i < n0 + 1 := by have := (List.getElem?_eq_some_iff.mp e1).1; omega
      rw [List.getElem?_map, List.getElem?_range hi] at e2
      cases e2
      exact hr i v e1 (by omega)
    clear hr
    refine ⟨E, ys, _, lprod n0, 20, rfl, SqL.of hE3, hQ, lprod_pos n0, (lprod_sz (by omega)).mono (by decide), fun q hq => ?_, by decide, by simp; omega, fun v tp bm H4 s4 A4 e4 n4 => ?_⟩
    · obtain ⟨j, hj, rfl⟩ := List.mem_map.mp hq
      have hj' := List.mem_range.mp hj
      have cp := ch_pos n0 j (by omega)
      have hu := low_unique (top := 1) (below := (ch n0 j : Int)) (P := (ch n0 j : Int)) (T := 1) (by omega) (by omega) (by simp) rfl
      refine ⟨?_, ⟨?_, ?_⟩⟩
      · rw [hu.2]; exact ch_dvd (by omega)
      · rw [hu.1]; exact ⟨by decide⟩
      · rw [hu.2]; exact (ch_sz n0 j).mono (by omega)
    obtain ⟨a2, lp, lm, rfl, k1, k2, k3, k4, k5, k6, k7⟩ := A4
    have htl : tp.length = n0 + 1 := by have := congrArg List.length e4; rw [axR_len] at this; simpa using this
    have hbl : bm.length ≤ 13 := by simp at n4; omega
    refine ⟨a2, _, rfl, SqT.of k1, rfl, _, _, rfl, _, _, rfl, rfl, ?_⟩
    walk_at "rd"
    intro lf hlf
    walk_at "rd"
    have hlt5 : (upd H4 lf (.lst [])) lt = some (.lst (tops.map V.int)) := by walk_at "hf"
    refine ⟨lt, lp, tops.map V.int, tp.map V.int, rfl, SqL.of hlt5, SqL.of (upd_keep hlf k2), by simp; omega, fun lz us H5 hz0 s5 hz5 hul hpr => ?_⟩
    have hul' : us.length = n0 + 1 := by rw [hul]; simp; omega
    have hml : (List.zipWith (· * ·) tops tp).length = n0 + 1 := by rw [List.length_zipWith]; omega
    refine ⟨lz, us, rfl, SqL.of hz5, for_plain2 (plain2_rev (SqL.of hz5) hpr) (fun i σ H' => ∃ (lf' : Addr) (y1 y2 : Option V), σ = [some (.ref a1), some (.ref lt), some (.ref lb), some (.ref lp), some (.ref lm), some (.ref lf'), y1, y2] ∧ Same H5 H' ∧ H' lf' = some (.lst ((seT ((List.zipWith (· * ·) tops tp).drop (n0 + 1 - i))).map V.int)))
      ⟨lf, none, none, rfl, L2.Same.refl _, by rw [List.drop_of_length_le (by omega)]; exact s5 _ _ upd_same⟩ (fun i σ H' p => by obtain ⟨_, _, _, _, s, _⟩ := p; exact s) ?_ ?_⟩
    · rintro i g σ H6 H7 hi ⟨lf', y1, y2, rfl, s6, g6⟩ s7 hg
      rw [hul'] at hi hg
      have hj : n0 + 1 - 1 - i < n0 + 1 := by omega
      have et : tops[n0 + 1 - 1 - i]? = some (tops[n0 + 1 - 1 - i]'(by omega)) := List.getElem?_eq_getElem _
      have ep : tp[n0 + 1 - 1 - i]? = some (tp[n0 + 1 - 1 - i]'(by omega)) := List.getElem?_eq_getElem _
      rw [int_at et, int_at ep] at hg
      have zt := z1 _ (List.mem_of_getElem? et)
      have zp := k4 _ (List.mem_of_getElem? ep)
      refine ⟨g, _, rfl, hg, rfl, _, _, rfl, _, _, rfl, rfl, ?_⟩
      have g7 := s7 _ _ g6
      walk_at "rd"
      refine ⟨mulN zt zp (by omega), ?_⟩
      walk_at "rd"
      refine ⟨_, lf', _, rfl, SqL.of g7, by rw [seT_len, List.length_drop]; omega, fun l8 H8 s8 h80 h8 => ?_⟩
      walk_at "rd"
      refine ⟨l8, _, _, rfl, (s6.trans s7).trans s8, ?_⟩
      have ed : (List.zipWith (· * ·) tops tp).drop (n0 + 1 - (i + 1)) = tops[n0 + 1 - 1 - i]'(by omega) * tp[n0 + 1 - 1 - i]'(by omega) :: (List.zipWith (· * ·) tops tp).drop (n0 + 1 - i) := by
        have hd := List.drop_eq_getElem_cons (l := List.zipWith (· * ·) tops tp) (i := n0 + 1 - (i + 1)) (by omega)
        rw [hd, List.getElem_zipWith]
        have c1 : n0 + 1 - (i + 1) + 1 = n0 + 1 - i := by omega
        have c2 : n0 + 1 - (i + 1) = n0 + 1 - 1 - i := by omega
        rw [c1]
        simp only [c2]
      rw [ed]
      exact h8
    · rintro σ H6 ⟨lf', y1, y2, rfl, s6, g6⟩
      rw [hul', Nat.sub_self, List.drop_zero] at g6
      have hlb6 : H6 lb = some (.lst (bs.map V.int)) := by walk_at "hf"
      have hlm6 : H6 lm = some (.lst (bm.map V.int)) := s6 _ _ (s5 _ _ (upd_keep hlf k3))
      walk_at "rd"
      refine ⟨Nat.le_of_lt (small_line (by simp; omega)), fun q hq => ?_⟩
      rw [← List.map_append]
      walk_at "rd"
      intro c hc
      obtain ⟨nn, hnn⟩ := szs_exist (seT (List.zipWith (· * ·) tops tp))
      have P1 : prodI bs ≠ 0 := by have := prodI_pos fun b hb' => (g1 b hb').1; omega
      have P2 : prodI bm ≠ 0 := by have := prodI_pos fun b hb' => (k5 b hb').1; omega
      refine k _ _ (seT (List.zipWith (· * ·) tops tp)) (bs ++ bm) nn (by walk_at "sm") ⟨c, lf', q, rfl, upd_same, upd_keep hc (upd_keep hq g6), upd_keep hc upd_same, hnn, fun b hb' => ?_, by rw [List.length_append]; omega, by rw [seT_len]; omega⟩ (by rw [seT_len]; omega) ?_
      · rcases List.mem_append.mp hb' with h | h
        · exact g1 b h
        · exact k5 b h
      · unfold axR ofQ
        rw [prodI_append, se_div _ (Int.mul_ne_zero P1 P2)]
        congr 1
        exact way_of e0 htl P1 P2 e4
theorem ok_share_over (F : FunAt K mg "share_over" s_share_over ["top", "bottoms"]) (B : Blt mg) {C_SeatError C_NoLower C_NoShare C_NoMap C_NoJoin C_NoPlace C_TooMany C_NoText C_NoName : Addr} (X : Exc K mg C_SeatError C_NoLower C_NoShare C_NoMap C_NoJoin C_NoPlace C_TooMany C_NoText C_NoName) {A_NOUGHT : Addr} (G : Cst K mg A_NOUGHT) (D_greatest_common : DefOk P w K mg base CX0 1 "greatest_common" ["one", "other"] spGcd) : DefOk P w K mg base CX0 2 "share_over" ["top", "bottoms"] (spOverAll K) := by
  refine def_okI F sc_share_over (fun vs H Q E h => ?_) (fun f cdv A outer s H vs Q E hr h => ?_)
  · obtain ⟨top, a, bs, rfl, _⟩ := h; rfl
  · obtain ⟨top, a, bs, rfl, hS, hb, hn, k⟩ := h
    have hu := hr.units
    refine ⟨_, (pss_consI (ps_setI (i := 2) sc_share_over.nd rfl (by first | exact Or.inl rfl | exact Or.inr rfl) pe_intI)
      (pss_consI (ps_forI PassesOwn.never rfl (pi_listI (pvI 1)) (pg_nameI (i := 3) sc_share_over.nd rfl (by first | exact Or.inl rfl | exact Or.inr rfl))
      (pss_consI (ps_setI (i := 4) sc_share_over.nd rfl (by first | exact Or.inl rfl | exact Or.inr rfl) (pe_fnI D_greatest_common hr pass0 (pa_consI (pvI 0) (pa_consI (pvI 3) pa_nilI))))
      (pss_oneI (ps_parI (i := 0) (j := 2) rfl sc_share_over.nd rfl rfl (by decide) rfl rfl (pa_consI (pe_opI op_fdivB (pvI 0) (pvI 4)) (pa_consI (pe_opI op_mulA (pvI 2) (pe_opI op_fdivB (pvI 3) (pvI 4))) pa_nilI)) rfl))))
      (pss_oneI (ps_retI (pe_tupI (pa_consI (pvI 0) (pa_consI (pvI 2) pa_nilI))))))), ?_⟩
    walk_at "rd"
    refine ⟨⟨_, hS⟩, for_list (xs := bs.map V.int) (fun i σ H' => ∃ (y1 y2 : Option V) (T B : Int), σ = [some (.int T), some (.ref a), some (.int B), y1, y2] ∧ 0 < B ∧ Int.gcd T B = 1 ∧ T * prodI (bs.take i) = top * B ∧ Sz (9000 * i + 1) B ∧ H' = H) ⟨none, none, top, 1, rfl, by decide, by simp, by simp [prodI], ⟨by decide⟩, rfl⟩ ?_ ?_ ?_⟩
    · rintro i σ H' hi ⟨y1, y2, T, B, rfl, hB, hg, he, hz, rfl⟩
      exact hS
    · rintro i x σ H' hx ⟨y1, y2, T, B, rfl, hB, hg, he, hz, rfl⟩
      obtain ⟨b, eb, rfl⟩ := ints_at hx
      have hi : i < bs.length := (List.getElem?_eq_some_iff.mp eb).1
      obtain ⟨b0, zb⟩ := hb b (List.mem_of_getElem? eb)
      obtain ⟨g1, g2, g3, g4, g5⟩ := over_step b0 hB hg
      have zg : Sz 9000 (Int.gcd T b : Int) := sz_dvd (by omega) g5 zb
      have zq : Sz 9000 (b.fdiv (Int.gcd T b)) := quo_sz b0 g4 g5 zb
      walk_at "rd"
      refine ⟨T, b, rfl, ?_⟩
      walk_at "rd"
      refine ⟨⟨by omega, zg⟩, ?_⟩
      walk_at "rd"
      refine ⟨⟨by omega, zg⟩, ?_⟩
      refine ⟨_, _, rfl, rfl, mulN hz zq (by omega), ?_⟩
      refine ⟨_, _, rfl, _, _, _, _, rfl, g2, g1, ?_, (hz.mul zq).mono (by omega), rfl⟩
      rw [take_snoc eb, prodI_snoc]
      have e1 : T.fdiv (Int.gcd T b) * (prodI (bs.take i) * b) = (T.fdiv (Int.gcd T b) * b) * prodI (bs.take i) := by grind
      rw [e1, g3]
      have e2 : T * b.fdiv (Int.gcd T b) * prodI (bs.take i) = (T * prodI (bs.take i)) * b.fdiv (Int.gcd T b) := by grind
      rw [e2, he]; grind
    · rintro σ H' ⟨y1, y2, T, B, rfl, hB, hg, he, hz, rfl⟩
      rw [List.length_map, List.take_length] at he
      walk_at "rd"
      intro p hp
      have hu := low_unique hB (prodI_pos fun b hb' => (hb b hb').1) hg he
      refine k _ _ (Same.new hp) ⟨p, rfl, ?_⟩
      rw [upd_same, hu.1, hu.2]
theorem ok_points_of (F : FunAt K mg "points_of" s_points_of ["xs", "ys"]) (B : Blt mg) {C_SeatError C_NoLower C_NoShare C_NoMap C_NoJoin C_NoPlace C_TooMany C_NoText C_NoName : Addr} (X : Exc K mg C_SeatError C_NoLower C_NoShare C_NoMap C_NoJoin C_NoPlace C_TooMany C_NoText C_NoName) {A_NOUGHT : Addr} (G : Cst K mg A_NOUGHT) (D_share_over : DefOk P w K mg base CX0 2 "share_over" ["top", "bottoms"] (spOverAll K)) : DefOk P w K mg base CX0 3 "points_of" ["xs", "ys"] spPointsOf := by
  refine def_okI F sc_points_of (fun vs H Q E h => ?_) (fun f cdv A outer s H vs Q E hr h => ?_)
  · obtain ⟨x, y, n, t1, b1, t2, b2, rfl, _⟩ := h; rfl
  · obtain ⟨_, _, n, t1, b1, t2, b2, rfl, ⟨a1, lt1, lb1, rfl, h1, ht1, hb1, z1, g1, n1, m1⟩, ⟨a2, lt2, lb2, rfl, h2, ht2, hb2, z2, g2, n2, m2⟩, h12, k⟩ := h
    have hu := hr.units
    refine ⟨_, (pss_oneI (ps_retI (pe_compSI (os := ["x", "y"]) (caps := [(0, "xs"), (1, "ys")]) ["xs", "ys"] (defScope s_points_of) (pi_zipI rfl B.zip (pa_consI (pe_ixI (ix_tupK K) (pvI 0) pe_intI (fun _ _ => rfl)) (pa_consI (pe_ixI (ix_tupK K) (pvI 1) pe_intI (fun _ _ => rfl)) pa_nilI))) (fun _ _ _ _ _ => (pg_tupKI (n := 2) K rfl (pgs_consI (pg_nameI (i := 0) (show List.Nodup (["x", "y", "xs", "ys"] : List Str) from by decide +kernel) rfl (by first | exact Or.inl rfl | exact Or.inr rfl)) (pgs_consI (pg_nameI (i := 1) (show List.Nodup (["x", "y", "xs", "ys"] : List Str) from by decide +kernel) rfl (by first | exact Or.inl rfl | exact Or.inr rfl)) pgs_nilI)))) (fun _ _ _ _ _ => (pe_tupI (pa_consI (pe_fnI D_share_over hr pass0 (pa_consI (pvI 0) (pa_consI (pe_ixI (ix_tupK K) (pvI 2) pe_intI (fun _ _ => rfl)) pa_nilI))) (pa_consI (pe_fnI D_share_over hr pass0 (pa_consI (pvI 1) (pa_consI (pe_ixI (ix_tupK K) (pvI 3) pe_intI (fun _ _ => rfl)) pa_nilI))) pa_nilI)))) (by decide +kernel)))), ?_⟩
    walk_at "rd"
    refine ⟨_, _, rfl, ⟨_, SqL.of ht1⟩, ⟨_, SqL.of ht2⟩, comp2 (plain_zip (SqL.of ht1) (SqL.of ht2)) (by rw [List.length_map, List.length_map]; omega) (fun i v H => ∀ x y, t1[i]? = some x → t2[i]? = some y → PtV H v (Rat.divInt x (prodI b1)) (Rat.divInt y (prodI b2))) (fun _ _ _ _ t h x y e f => (h x y e f).tup t) (fun i H2 kk hi s2 hk => ?_) (fun D us H2 hD s2 hD2 hl hr => ?_)⟩
    · rw [List.length_map, List.length_map] at hi
      have e1 : t1[i]? = some (t1[i]'(by omega)) := List.getElem?_eq_getElem _
      have e2 : t2[i]? = some (t2[i]'(by omega)) := List.getElem?_eq_getElem _
      rw [int_at e1, int_at e2]
      walk_at "rd"
      refine ⟨_, lb1, b1, rfl, SqL.of (by walk_at "hf"), g1, n1, fun v3 H3 s3 w3 => ?_⟩
      walk_at "rd"
      refine ⟨_, lb2, b2, rfl, SqL.of (by walk_at "hf"), g2, n2, fun v4 H4 s4 w4 => ?_⟩
      walk_at "rd"
      intro p hp
      refine hk _ _ (by walk_at "sm") fun x y ex ey => ?_
      rw [e1] at ex; rw [e2] at ey
      cases ex; cases ey
      exact ⟨p, v3, v4, rfl, upd_same, (w3.same s4).same (Same.new hp), w4.same (Same.new hp)⟩
    · rw [List.length_map, List.length_map] at hl
      obtain ⟨ps, q1, q2, q3⟩ := pts_zip (b1 := b1) (b2 := b2) (show us.length = t1.length by omega) h12 hr
      exact k D us ps H2 s2 hD hD2 q1 q2 q3
theorem ok_of_powers (F : FunAt K mg "of_powers" s_of_powers ["some"]) (B : Blt mg) {C_SeatError C_NoLower C_NoShare C_NoMap C_NoJoin C_NoPlace C_TooMany C_NoText C_NoName : Addr} (X : Exc K mg C_SeatError C_NoLower C_NoShare C_NoMap C_NoJoin C_NoPlace C_TooMany C_NoText C_NoName) {A_NOUGHT : Addr} (G : Cst K mg A_NOUGHT) (D_axes : DefOk P w K mg base CX0 4 "axes" ["points"] (spAxes K)) (D_axis_seats : DefOk P w K mg base CX0 4 "axis_seats" ["one"] spAxSe) (D_points_of : DefOk P w K mg base CX0 3 "points_of" ["xs", "ys"] spPointsOf) : DefOk P w K mg base CX0 5 "of_powers" ["some"] (spOf1 K) := by
  refine def_okI F sc_of_powers (fun vs H Q E h => ?_) (fun f cdv A outer s H vs Q E hr h => ?_)
  · obtain ⟨a, ws, ps, D, m, rfl, _⟩ := h; rfl
  · obtain ⟨a, ws, ps, D, m, rfl, hS, hP, fine, k⟩ := h
    have hu := hr.units
    refine ⟨_, (pss_consI (ps_asgI (pe_fnI D_axes hr pass0 (pa_consI (pvI 0) pa_nilI)) (pg_tupKI (n := 2) K rfl (pgs_consI (pg_nameI (i := 1) sc_of_powers.nd rfl (by first | exact Or.inl rfl | exact Or.inr rfl)) (pgs_consI (pg_nameI (i := 2) sc_of_powers.nd rfl (by first | exact Or.inl rfl | exact Or.inr rfl)) pgs_nilI))))
      (pss_oneI (ps_retI (pe_fnI D_points_of hr pass0 (pa_consI (pe_fnI D_axis_seats hr pass0 (pa_consI (pvI 1) pa_nilI)) (pa_consI (pe_fnI D_axis_seats hr pass0 (pa_consI (pvI 2) pa_nilI)) pa_nilI)))))), ?_⟩
    have f1 := fine.l1
    have f2 := fine.l2
    walk_at "rd"
    refine ⟨a, ws, ps, D, 9000, rfl, hS, hP, fine.pos, fine.sz, fine.dv, by decide, by omega, fun c x1 y1 t1 b1 t2 b2 H1 s1 hc A1 A2 e1 e2 n1 n2 => ?_⟩
    refine ⟨c, _, rfl, SqT.of hc, rfl, _, _, rfl, _, _, rfl, rfl, ?_⟩
    have l1 : t1.length = ps.length := by have := congrArg List.length e1; rw [axR_len, List.length_map] at this; exact this
    have l2 : t2.length = ps.length := by have := congrArg List.length e2; rw [axR_len, List.length_map] at this; exact this
    walk_at "rd"
    refine ⟨_, _, t1, b1, rfl, A1, by omega, by omega, by decide, by omega, fun v2 H2 u1 c1 m1 s2 A3 i1 i2 => ?_⟩
    walk_at "rd"
    refine ⟨_, _, t2, b2, rfl, A2.same s2, by omega, by omega, by decide, by omega, fun v3 H3 u2 c2 m2 s3 A4 j1 j2 => ?_⟩
    refine ⟨_, _, max m1 m2, u1, c1, u2, c2, rfl, (A3.same s3).mono (by omega), A4.mono (by omega), by omega, fun l us qs H4 s4 hl0 hl hU f1 f2 => ?_⟩
    have eq : qs = ofP ps := pairs_eq f1 f2 (by rw [ofP_fst, i2, e1]) (by rw [ofP_snd, j2, e2])
    subst eq
    exact k l us H4 (by walk_at "sm") (s1.free (s2.free (s3.free hl0))) hl hU
theorem ok_axis_powers (F : FunAt K mg "axis_powers" s_axis_powers ["one"]) (B : Blt mg) {C_SeatError C_NoLower C_NoShare C_NoMap C_NoJoin C_NoPlace C_TooMany C_NoText C_NoName : Addr} (X : Exc K mg C_SeatError C_NoLower C_NoShare C_NoMap C_NoJoin C_NoPlace C_TooMany C_NoText C_NoName) {A_NOUGHT : Addr} (G : Cst K mg A_NOUGHT) (D_spread : DefOk P w K mg base CX0 1 "spread" ["n", "one", "other"] spSpread) : DefOk P w K mg base CX0 2 "axis_powers" ["one"] spAxPw := by
  refine def_okI F sc_axis_powers (fun vs H Q E h => ?_) (fun f cdv A outer s H vs Q E hr h => ?_)
  · obtain ⟨x, n, tops, bs, rfl, _⟩ := h; rfl
  · obtain ⟨_, n, tops, bs, rfl, ⟨a1, lt, lb, rfl, h1, ht, hb, z1, g1, n1, m1⟩, l1, l12, hn, k⟩ := h
    have hu := hr.units
    refine ⟨_, (pss_consI (ps_asgI (pvI 0) (pg_tupKI (n := 2) K rfl (pgs_consI (pg_nameI (i := 1) sc_axis_powers.nd rfl (by first | exact Or.inl rfl | exact Or.inr rfl)) (pgs_consI (pg_nameI (i := 2) sc_axis_powers.nd rfl (by first | exact Or.inl rfl | exact Or.inr rfl)) pgs_nilI))))
      (pss_consI (ps_setI (i := 3) sc_axis_powers.nd rfl (by first | exact Or.inl rfl | exact Or.inr rfl) (pe_lstI pa_nilI))
      (pss_consI (ps_forI PassesOwn.never rfl (pi_listI (pe_fnI D_spread hr pass0 (pa_consI (pe_opI op_sub (pe_callBI (call_lenK K) (by rfl) B.len PySem.boot_len (pa_consI (pvI 1) pa_nilI)) pe_intI) (pa_consI pe_intI (pa_consI pe_intI pa_nilI))))) (pg_nameI (i := 4) sc_axis_powers.nd rfl (by first | exact Or.inl rfl | exact Or.inr rfl))
      (pss_consI (ps_exprI (pe_bmI PySem.F.plainAttrs_list PySem.F.slot_list_append PySem.F.type_list_append mt_append (pvI 3) (pa_consI (pe_opI op_mulA (pvI 4) (pe_ixI (ix_listK K) (pvI 1) pe_intI (fun _ _ => rfl))) pa_nilI)))
      (pss_oneI (ps_compSI (i := 1) (os := ["top", "beside"]) (caps := []) ["one", "tops", "bottoms", "found", "ways"] (defScope s_axis_powers) sc_axis_powers.nd rfl rfl (pi_zipI rfl B.zip (pa_consI (pvI 1) (pa_consI (pe_sliceI (sl_listK K) (pvI 1) (po_someI pe_intI) po_noneI) pa_nilI))) (fun _ _ _ _ _ => (pg_tupKI (n := 2) K rfl (pgs_consI (pg_nameI (i := 0) (show List.Nodup (["top", "beside"] : List Str) from by decide +kernel) rfl (by first | exact Or.inl rfl | exact Or.inr rfl)) (pgs_consI (pg_nameI (i := 1) (show List.Nodup (["top", "beside"] : List Str) from by decide +kernel) rfl (by first | exact Or.inl rfl | exact Or.inr rfl)) pgs_nilI)))) (fun _ _ _ _ _ => (pe_opI op_sub (pvI 1) (pvI 0))) (by decide +kernel)))))
      (pss_oneI (ps_retI (pe_tupI (pa_consI (pvI 3) (pa_consI (pvI 2) pa_nilI)))))))), ?_⟩
    obtain ⟨n0, e0⟩ : ∃ n0, tops.length = n0 + 1 := ⟨tops.length - 1, by omega⟩
    walk_at "rd"
    refine ⟨a1, _, rfl, SqT.of h1, rfl, _, _, rfl, _, _, rfl, rfl, ?_⟩
    walk_at "rd"
    intro lf hlf
    have nfl : lt ≠ lf := ne_of_none ht hlf
    walk_at "rd"
    refine ⟨n0, 1, 1, by show [V.int (((tops.map V.int).length : Int) - 1), V.int 1, V.int 1] = _; rw [List.length_map, e0]; congr 2; omega, by omega, ⟨by decide⟩, ⟨by decide⟩, fun ls H2 s2 hs0 hs => ?_⟩
    have hlf2 : H2 lf = some (.lst []) := by walk_at "hf"
    have nsf : ls ≠ lf := fun e => by rw [e, upd_same] at hs0; cases hs0
    walk_at "rd"
    refine ⟨⟨_, SqL.of hs⟩, for_list (xs := ((List.range (n0 + 1)).map (spI 1 1 n0)).map V.int) (fun i σ H' => ∃ (lr : Addr) (y : Option V), σ = [some (.ref a1), some (.ref lr), some (.ref lb), some (.ref lf), y] ∧ Same H H' ∧ lr ≠ lf ∧ H' lr = some (.lst ((rowZ tops i).map V.int)) ∧ H' lf = some (.lst (((pwT tops).take i).map V.int)) ∧ H' ls = some (.lst (((List.range (n0 + 1)).map (spI 1 1 n0)).map V.int)))
      ⟨lt, none, rfl, by walk_at "sm", nfl, by rw [rowZ_zero]; walk_at "hf", hlf2, hs⟩ ?_ ?_ ?_⟩
    · rintro i σ H' hi ⟨lr, y, rfl, s3, nr, g3, g4, g5⟩
      exact SqL.of g5
    · rintro i x σ H3 hx ⟨lr, y, rfl, s3, nr, g3, g4, g5⟩
      have hi : i < n0 + 1 := by have := (List.getElem?_eq_some_iff.mp hx).1; simpa using this
      rw [List.getElem?_map, List.getElem?_map, List.getElem?_range hi] at hx
      obtain rfl : V.int (spI 1 1 n0 i) = x := by simpa using hx
      rw [sp_one]
      have er := rowZ_get (l := tops) (k := i) (j := 0) (by omega)
      have ev : ((rowZ tops i).map V.int)[0]? = some (V.int (dlZ (gI tops) i 0)) := by rw [List.getElem?_map, er]; rfl
      have zd := dlZ_sz (g := gI tops) i 0 fun j hj => gI_sz z1 (by omega)
      walk_at "rd"
      refine ⟨.inl ⟨rfl, _, SqL.of g4⟩, ?_⟩
      walk_at "rd"
      refine ⟨lr, _, _, _, rfl, rfl, SqL.of g3, atI_nat' (j := 0) rfl ev, ?_⟩
      refine ⟨_, _, rfl, rfl, mulN (ch_sz n0 i) zd (by omega), ?_⟩
      refine ⟨lf, _, _, rfl, rfl, g4, small_line (by rw [List.length_map, List.length_take]; omega), ?_⟩
      have g3' : (upd H3 lf (.lst (((pwT tops).take i).map V.int ++ [V.int ((ch n0 i : Int) * dlZ (gI tops) i 0)]))) lr = some (.lst ((rowZ tops i).map V.int)) := by rw [upd_ne nr]; exact g3
      have g5' : (upd H3 lf (.lst (((pwT tops).take i).map V.int ++ [V.int ((ch n0 i : Int) * dlZ (gI tops) i 0)]))) ls = some (.lst (((List.range (n0 + 1)).map (spI 1 1 n0)).map V.int)) := by rw [upd_ne nsf]; exact g5
      have g4' : (upd H3 lf (.lst (((pwT tops).take i).map V.int ++ [V.int ((ch n0 i : Int) * dlZ (gI tops) i 0)]))) lf = some (.lst (((pwT tops).take (i + 1)).map V.int)) := by
        rw [upd_same, take_snoc (pwT_get (l := tops) (k := i) (by omega)), List.map_append, show tops.length - 1 = n0 by omega]; rfl
      have s4 : Same H (upd H3 lf (.lst (((pwT tops).take i).map V.int ++ [V.int ((ch n0 i : Int) * dlZ (gI tops) i 0)]))) := same_upd hlf s3
      generalize upd H3 lf (.lst (((pwT tops).take i).map V.int ++ [V.int ((ch n0 i : Int) * dlZ (gI tops) i 0)])) = H4 at *
      walk_at "rd"
      refine ⟨lr, _, rfl, SqL.of g3', fun q hq => ?_⟩
      rw [cut_tail]
      have g6 : (upd H4 q (.lst (((rowZ tops i).drop 1).map V.int))) lr = some (.lst ((rowZ tops i).map V.int)) := by walk_at "hf"
      have hrl := rowZ_len tops i
      walk_at "rd"
      refine ⟨_, _, rfl, ⟨_, SqL.of g6⟩, ⟨_, SqL.of upd_same⟩, comp2 (plain_zip (SqL.of g6) (SqL.of upd_same)) (by rw [List.length_map, List.length_map, List.length_drop]; omega) (fun j v _ => ∀ x y, (rowZ tops i)[j]? = some x → (rowZ tops i)[j + 1]? = some y → v = .int (y - x)) (fun _ _ _ _ _ h => h) (fun j H5 kk hj s5 hk => ?_) (fun E us H5 hE s5 hE5 hl hr => ?_)⟩
      · rw [List.length_map, List.length_map, List.length_drop] at hj
        have e1 : (rowZ tops i)[j]? = some ((rowZ tops i)[j]'(by omega)) := List.getElem?_eq_getElem _
        have e2 : (rowZ tops i)[j + 1]? = some ((rowZ tops i)[j + 1]'(by omega)) := List.getElem?_eq_getElem _
        have e3 : ((rowZ tops i).drop 1)[j]? = some ((rowZ tops i)[j + 1]'(by omega)) := by rw [List.getElem?_drop, Nat.add_comm 1 j]; exact e2
        rw [int_at e1, int_at e3]
        walk_at "rd"
        refine hk _ _ (L2.Same.refl _) fun x y ex ey => ?_
        rw [e1] at ex; rw [e2] at ey
        cases ex; cases ey
        rfl
      · rw [List.length_map, List.length_map, List.length_drop] at hl
        have ey := row_ints (l := tops) (i := i) (by omega) hr
        subst ey
        have sq : Same H4 H5 := (Same.new hq).trans s5
        exact ⟨E, _, rfl, s4.trans sq, (fun e => by rw [e, upd_keep hq g4'] at hE; cases hE), hE5, sq _ _ g4', sq _ _ g5'⟩
    · rintro σ H3 ⟨lr, y, rfl, s3, nr, g3, g4, g5⟩
      have etk : (pwT tops).take (((List.range (n0 + 1)).map (spI 1 1 n0)).map V.int).length = pwT tops := List.take_of_length_le (by rw [pwT_len]; simp; omega)
      rw [etk] at g4
      walk_at "rd"
      intro c hc
      exact k _ _ (by walk_at "sm") ⟨c, lf, lb, rfl, upd_same, upd_keep hc g4, upd_keep hc (s3 _ _ hb), pwT_sz z1 (by omega), g1, n1, by rw [pwT_len]; exact m1⟩
theorem ok_powers (F : FunAt K mg "powers" s_powers ["curve"]) (B : Blt mg) {C_SeatError C_NoLower C_NoShare C_NoMap C_NoJoin C_NoPlace C_TooMany C_NoText C_NoName : Addr} (X : Exc K mg C_SeatError C_NoLower C_NoShare C_NoMap C_NoJoin C_NoPlace C_TooMany C_NoText C_NoName) {A_NOUGHT : Addr} (G : Cst K mg A_NOUGHT) (D_axes : DefOk P w K mg base CX0 4 "axes" ["points"] (spAxes K)) (D_points_of : DefOk P w K mg base CX0 3 "points_of" ["xs", "ys"] spPointsOf) (D_axis_powers : DefOk P w K mg base CX0 2 "axis_powers" ["one"] spAxPw) : DefOk P w K mg base CX0 5 "powers" ["curve"] (spPw1 K) := by
  refine def_okI F sc_powers (fun vs H Q E h => ?_) (fun f cdv A outer s H vs Q E hr h => ?_)
  · obtain ⟨a, ws, ps, D, m, rfl, _⟩ := h; rfl
  · obtain ⟨a, ws, ps, D, m, rfl, hS, hP, fine, k⟩ := h
    have hu := hr.units
    refine ⟨_, (pss_consI (ps_asgI (pe_fnI D_axes hr pass0 (pa_consI (pvI 0) pa_nilI)) (pg_tupKI (n := 2) K rfl (pgs_consI (pg_nameI (i := 1) sc_powers.nd rfl (by first | exact Or.inl rfl | exact Or.inr rfl)) (pgs_consI (pg_nameI (i := 2) sc_powers.nd rfl (by first | exact Or.inl rfl | exact Or.inr rfl)) pgs_nilI))))
      (pss_oneI (ps_retI (pe_fnI D_points_of hr pass0 (pa_consI (pe_fnI D_axis_powers hr pass0 (pa_consI (pvI 1) pa_nilI)) (pa_consI (pe_fnI D_axis_powers hr pass0 (pa_consI (pvI 2) pa_nilI)) pa_nilI)))))), ?_⟩
    have f1 := fine.l1
    have f2 := fine.l2
    walk_at "rd"
    refine ⟨a, ws, ps, D, 9000, rfl, hS, hP, fine.pos, fine.sz, fine.dv, by decide, by omega, fun c x1 y1 t1 b1 t2 b2 H1 s1 hc A1 A2 e1 e2 n1 n2 => ?_⟩
    refine ⟨c, _, rfl, SqT.of hc, rfl, _, _, rfl, _, _, rfl, rfl, ?_⟩
    have l1 : t1.length = ps.length := by have := congrArg List.length e1; rw [axR_len, List.length_map] at this; exact this
    have l2 : t2.length = ps.length := by have := congrArg List.length e2; rw [axR_len, List.length_map] at this; exact this
    have P1 : 0 < prodI b1 := by obtain ⟨_, _, _, _, _, _, _, _, g, _⟩ := A1; exact prodI_pos fun b hb => (g b hb).1
    have P2 : 0 < prodI b2 := by obtain ⟨_, _, _, _, _, _, _, _, g, _⟩ := A2; exact prodI_pos fun b hb => (g b hb).1
    walk_at "rd"
    refine ⟨_, _, t1, b1, rfl, A1, by omega, by omega, by decide, fun v2 H2 s2 A3 => ?_⟩
    walk_at "rd"
    refine ⟨_, _, t2, b2, rfl, A2.same s2, by omega, by omega, by decide, fun v3 H3 s3 A4 => ?_⟩
    refine ⟨_, _, _, _, b1, _, b2, rfl, A3.same s3, A4, by rw [pwT_len, pwT_len]; omega, fun l us qs H4 s4 hl0 hl hU f1 f2 => ?_⟩
    have eq : qs = lpP ps := pairs_eq f1 f2 (by rw [lpP_fst, ax_pw _ _ (by omega), e1]) (by rw [lpP_snd, ax_pw _ _ (by omega), e2])
    subst eq
    exact k l us H4 (by walk_at "sm") (s1.free (s2.free (s3.free hl0))) hl hU
theorem ok_lowered (F : FunAt K mg "lowered" s_lowered ["curve"]) (B : Blt mg) {C_SeatError C_NoLower C_NoShare C_NoMap C_NoJoin C_NoPlace C_TooMany C_NoText C_NoName : Addr} (X : Exc K mg C_SeatError C_NoLower C_NoShare C_NoMap C_NoJoin C_NoPlace C_TooMany C_NoText C_NoName) {A_NOUGHT : Addr} (G : Cst K mg A_NOUGHT) (D_last_is_spare : DefOk P w K mg base CX0 1 "last_is_spare" ["some"] (spSpareG K)) (D_of_powers : DefOk P w K mg base CX0 5 "of_powers" ["some"] (spOf1 K)) (D_powers : DefOk P w K mg base CX0 5 "powers" ["curve"] (spPw1 K)) : DefOk P w K mg base (CXx P w) 6 "lowered" ["curve"] (spLoweredX K C_NoLower) := by
  refine def_okXI F sc_lowered (fun vs H Q E h => ?_) (fun f cdv A outer s H vs Q E hr h => ?_)
  · obtain ⟨a, ws, ps, D, m, rfl, _⟩ := h; rfl
  · obtain ⟨a, ws, ps, D, m, rfl, hS, hP, fine, hm, k, kx⟩ := h
    have hu := hr.units
    refine ⟨_, (pss_consI (ps_setI (i := 1) sc_lowered.nd rfl (by first | exact Or.inl rfl | exact Or.inr rfl) (pe_fnI D_powers hr pass0 (pa_consI (pvI 0) pa_nilI)))
      (pss_consI (ps_ifI (pt_notI (pt_valI (pe_fnI D_last_is_spare hr pass0 (pa_consI (pvI 1) pa_nilI)))) (pss_oneI (ps_raiseI throws_cx X.xNoLower (pa_consI pe_strI pa_nilI))) pss_nilI)
      (pss_oneI (ps_retI (pe_fnI D_of_powers hr pass0 (pa_consI (pe_sliceI (sl_listK K) (pvI 1) po_noneI (po_someI (pe_unI un_neg pe_intI))) pa_nilI)))))), ?_⟩
    have f1 := fine.l1
    have f2 := fine.l2
    have hll := lpP_len ps
    have hov := lpP_ov fine.ov (by omega)
    have hlast := lp_last ps f1
    walk_at "rd"
    refine ⟨a, ws, ps, D, m, rfl, hS, hP, fine, fun l us H1 s1 hl0 hl hU => ?_⟩
    have hul := hU.len
    walk_at "rd"
    refine ⟨l, us, lpP ps, rfl, hl, hU, by omega, fun b hb => ?_⟩
    rw [hll, hlast] at hb
    cases b with
    | false =>
      refine ⟨_, rfl, ifT rfl ?_⟩
      refine ⟨(by show 1 ≤ sizeLine; decide), kx ?_ H1 s1⟩
      by_cases h1 : ps.length = 1
      · exact .inl h1
      · exact .inr fun e => by
          have := hb.mpr ⟨by omega, by rw [e]⟩
          cases this
    | true =>
      obtain ⟨h2, e⟩ := hb.mp rfl
      obtain ⟨qs, he, h1⟩ := low_of (by omega) (Option.some.inj e)
      have hlq := lpP_len qs
      have hpq := low_len he
      refine ⟨_, rfl, ifF rfl ?_⟩
      walk_at "rd"
      refine ⟨l, _, rfl, SqL.of hl, fun q hq => ?_⟩
      rw [cut_butlast us (by omega)]
      rw [he] at hU
      have hT : PtsV (upd H1 q (.lst (us.take (us.length - 1)))) (us.take (us.length - 1)) (lpP qs) := by
        have := (hU.take (us.length - 1)).same (Same.new (o := .lst (us.take (us.length - 1))) hq)
        have e : (lpP qs ++ [((0 : Rat), (0 : Rat))]).take (us.length - 1) = lpP qs := by
          rw [List.take_append_of_le_length (by omega)]
          exact List.take_of_length_le (by omega)
        rw [e] at this
        exact this
      walk_at "rd"
      refine ⟨q, _, lpP qs, D, m + 30, rfl, SqL.of upd_same, hT, ⟨fine.pos, fine.sz, fun p hp => hov p (by rw [he]; exact List.mem_append.mpr (.inl hp)), by omega, by omega, by omega⟩, fun l2 us2 H2 s2 h20 h2' hU2 => ?_⟩
      rw [of_lp] at hU2
      exact k qs he h1 l2 us2 H2 (by walk_at "sm") (s1.free ((Same.new hq).free h20)) h2' hU2
theorem ok_l_told (F : FunAt K mg "_law_told" s_l_told ["_law_curve_here"]) (B : Blt mg) {C_SeatError C_NoLower C_NoShare C_NoMap C_NoJoin C_NoPlace C_TooMany C_NoText C_NoName : Addr} (X : Exc K mg C_SeatError C_NoLower C_NoShare C_NoMap C_NoJoin C_NoPlace C_TooMany C_NoText C_NoName) {A_NOUGHT : Addr} (G : Cst K mg A_NOUGHT) (D_lowered : DefOk P w K mg base (CXx P w) 6 "lowered" ["curve"] (spLoweredX K C_NoLower)) : DefOk P w K mg base CX0 7 "_law_told" ["_law_curve_here"] (spToldL K) := by
  refine def_okI F sc_l_told (fun vs H Q E h => ?_) (fun f cdv A outer s H vs Q E hr h => ?_)
  · obtain ⟨a, ws, ps, D, m, rfl, _⟩ := h; rfl
  · obtain ⟨a, ws, ps, D, m, rfl, hS, hP, fine, hm, k, kx⟩ := h
    have hu := hr.units
    refine ⟨_, (pss_consI (ps_setI (i := 1) sc_l_told.nd rfl (by first | exact Or.inl rfl | exact Or.inr rfl) pe_nonI)
      (pss_consI (ps_try1I (n := 2) X.SeatError sc_l_told.nd (fun xe pn Ex hx => (pss_oneI (ps_setI (i := 1) sc_l_told.nd rfl (by first | exact Or.inl rfl | exact Or.inr rfl) (pe_fnI D_lowered hr hx (pa_consI (pvI 0) pa_nilI))))) (fun x => (pss_consI (ps_setI (i := 3) sc_l_told.nd rfl (by first | exact Or.inl rfl | exact Or.inr rfl) (pe_lstI (pa_consI (pe_callBI call_isx (by rfl) B.isinstance PyProof.Rows.boot_isinstance (pa_consI (pvI 2) (pa_consI (pe_globI (v := .ref C_NoJoin) rfl X.NoJoin rfl) pa_nilI))) (pa_consI (pe_callBI call_isx (by rfl) B.isinstance PyProof.Rows.boot_isinstance (pa_consI (pvI 2) (pa_consI (pe_globI (v := .ref C_TooMany) rfl X.TooMany rfl) pa_nilI))) (pa_consI (pe_callBI call_isx (by rfl) B.isinstance PyProof.Rows.boot_isinstance (pa_consI (pvI 2) (pa_consI (pe_globI (v := .ref C_NoMap) rfl X.NoMap rfl) pa_nilI))) (pa_consI (pe_callBI call_isx (by rfl) B.isinstance PyProof.Rows.boot_isinstance (pa_consI (pvI 2) (pa_consI (pe_globI (v := .ref C_NoName) rfl X.NoName rfl) pa_nilI))) pa_nilI))))))
      (pss_consI (ps_setI (i := 3) sc_l_told.nd rfl (by first | exact Or.inl rfl | exact Or.inr rfl) (pe_opI op_cat (pvI 3) (pe_lstI (pa_consI (pe_callBI call_isx (by rfl) B.isinstance PyProof.Rows.boot_isinstance (pa_consI (pvI 2) (pa_consI (pe_globI (v := .ref C_NoPlace) rfl X.NoPlace rfl) pa_nilI))) (pa_consI (pe_callBI call_isx (by rfl) B.isinstance PyProof.Rows.boot_isinstance (pa_consI (pvI 2) (pa_consI (pe_globI (v := .ref C_NoShare) rfl X.NoShare rfl) pa_nilI))) (pa_consI (pe_callBI call_isx (by rfl) B.isinstance PyProof.Rows.boot_isinstance (pa_consI (pvI 2) (pa_consI (pe_globI (v := .ref C_NoText) rfl X.NoText rfl) pa_nilI))) pa_nilI))))))
      (pss_oneI (ps_retI (pe_andI (pe_callBI call_isx (by rfl) B.isinstance PyProof.Rows.boot_isinstance (pa_consI (pvI 2) (pa_consI (pe_globI (v := .ref C_NoLower) rfl X.NoLower rfl) pa_nilI))) (pe_andI (pe_callBI call_isx (by rfl) B.isinstance PyProof.Rows.boot_isinstance (pa_consI (pvI 2) (pa_consI (pe_bltnI (v := .ty "ValueError") rfl B.ValueError PyProof.Rows.Boot.«ValueError» rfl) pa_nilI))) (pe_oneI (pe_notI (pe_callBI (call_anyX (x := x) rfl) (by rfl) B.any PyProof.Rows.boot_any (pa_consI (pvI 3) pa_nilI))))))))))))
      (pss_oneI (ps_retI (pvI 1))))), ?_⟩
    walk_at "rd"
    refine ⟨fun cls d H' => cls = .ref C_NoLower ∧ d = none ∧ Same H H' ∧ (ps.length = 1 ∨ lastD ps ≠ (0, 0)), ?_, ?_⟩
    · refine ⟨_, rfl, a, ws, ps, D, m, rfl, hS, hP, fine, hm, fun qs he h1 l us H' s1 h0 h2 hU => ⟨_, rfl, k qs he h1 l us H' s1 h0 h2 hU⟩, fun hc H' s1 => ⟨rfl, rfl, s1, hc⟩⟩
    · rintro cls x H' σ' ⟨rfl, _, hs, hz⟩ hx hl
      obtain ⟨y0, y1, y2, y3, rfl⟩ := st4 hl
      refine ⟨X.mNoLower, ?_⟩
      have sx : Same H' (upd H' x (ExcO x (.ref C_NoLower))) := Same.new hx
      have hx1 : (upd H' x (ExcO x (.ref C_NoLower))) x = some (ExcO x (.ref C_NoLower)) := upd_same
      generalize upd H' x (ExcO x (.ref C_NoLower)) = H1 at *
      refine ⟨_, rfl, x, C_NoLower, _, _, _, rfl, hx1, rfl, X.nNoLower, X.fNoLower_NoJoin, ?_⟩
      refine ⟨_, rfl, x, C_NoLower, _, _, _, rfl, hx1, rfl, X.nNoLower, X.fNoLower_TooMany, ?_⟩
      refine ⟨_, rfl, x, C_NoLower, _, _, _, rfl, hx1, rfl, X.nNoLower, X.fNoLower_NoMap, ?_⟩
      refine ⟨_, rfl, x, C_NoLower, _, _, _, rfl, hx1, rfl, X.nNoLower, X.fNoLower_NoName, ?_⟩
      refine ⟨by show 4 ≤ sizeLine; decide, fun l1 hl1 => ?_⟩
      have hx2 : (upd H1 l1 (.lst [.bl false, .bl false, .bl false, .bl false])) x = some (ExcO x (.ref C_NoLower)) := upd_keep hl1 hx1
      refine ⟨_, rfl, ?_⟩
      refine ⟨_, rfl, x, C_NoLower, _, _, _, rfl, hx2, rfl, X.nNoLower, X.fNoLower_NoPlace, ?_⟩
      refine ⟨_, rfl, x, C_NoLower, _, _, _, rfl, hx2, rfl, X.nNoLower, X.fNoLower_NoShare, ?_⟩
      refine ⟨_, rfl, x, C_NoLower, _, _, _, rfl, hx2, rfl, X.nNoLower, X.fNoLower_NoText, ?_⟩
      refine ⟨by show 3 ≤ sizeLine; decide, fun l2 hl2 => ?_⟩
      refine ⟨l1, l2, _, _, rfl, rfl, upd_keep hl2 upd_same, upd_same, by show 7 ≤ sizeLine; decide, fun l3 hl3 => ?_⟩
      have hx4 : (upd (upd (upd H1 l1 (.lst [.bl false, .bl false, .bl false, .bl false])) l2 (.lst [.bl false, .bl false, .bl false])) l3 (.lst [.bl false, .bl false, .bl false, .bl false, .bl false, .bl false, .bl false])) x = some (ExcO x (.ref C_NoLower)) := upd_keep hl3 (upd_keep hl2 hx2)
      have h34 : (upd (upd (upd H1 l1 (.lst [.bl false, .bl false, .bl false, .bl false])) l2 (.lst [.bl false, .bl false, .bl false])) l3 (.lst [.bl false, .bl false, .bl false, .bl false, .bl false, .bl false, .bl false])) l3 = some (.lst [.bl false, .bl false, .bl false, .bl false, .bl false, .bl false, .bl false]) := upd_same
      have s4 : Same H' (upd (upd (upd H1 l1 (.lst [.bl false, .bl false, .bl false, .bl false])) l2 (.lst [.bl false, .bl false, .bl false])) l3 (.lst [.bl false, .bl false, .bl false, .bl false, .bl false, .bl false, .bl false])) := ((sx.trans (Same.new hl1)).trans (Same.new hl2)).trans (Same.new hl3)
      refine ⟨_, rfl, x, C_NoLower, _, _, _, rfl, hx4, rfl, X.nNoLower, kit_self K _, _, rfl, iteT ?_⟩
      refine ⟨_, rfl, x, C_NoLower, _, _, _, rfl, hx4, rfl, X.nNoLower, X.vNoLower, _, rfl, iteT ?_⟩
      refine ⟨_, rfl, l3, [false, false, false, false, false, false, false], C_NoLower, rfl, SqL.of h34, hx4, _, rfl, ?_⟩
      exact kx hz _ (hs.trans s4)
theorem ok_law (F : FunAt K mg "law" s_law ["_law_script"]) (B : Blt mg) {C_SeatError C_NoLower C_NoShare C_NoMap C_NoJoin C_NoPlace C_TooMany C_NoText C_NoName : Addr} (X : Exc K mg C_SeatError C_NoLower C_NoShare C_NoMap C_NoJoin C_NoPlace C_TooMany C_NoText C_NoName) {A_NOUGHT : Addr} (G : Cst K mg A_NOUGHT) (D_l_raised : DefOk P w K mg base CX0 4 "_law_raised" ["_law_curve_here"] (spLRaised K)) (D_l_handed : DefOk P w K mg base CX0 5 "_law_handed" ["_law_script"] (spLHanded K)) (D_l_is_curve : DefOk P w K mg base CX0 2 "_law_is_curve" ["_law_thing", "_law_many"] (spLIsCurve K)) (D_l_last_difference : DefOk P w K mg base CX0 3 "_law_last_difference" ["_law_curve_here"] (spLastD K)) (D_l_told : DefOk P w K mg base CX0 7 "_law_told" ["_law_curve_here"] (spToldL K)) : DefOk P w K mg base CX0 8 "law" ["_law_script"] (spLaw K) := by
  refine def_okI F sc_law (fun vs H Q E h => ?_) (fun f cdv A outer s H vs Q E hr h => ?_)
  · obtain ⟨a, ns, rfl, _⟩ := h; rfl
  · obtain ⟨a, ns, rfl, hS, hlen, k⟩ := h
    have hu := hr.units
    refine ⟨_, (pss_consI (ps_setI (i := 1) sc_law.nd rfl (by first | exact Or.inl rfl | exact Or.inr rfl) (pe_fnI D_l_handed hr pass0 (pa_consI (pvI 0) pa_nilI)))
      (pss_consI (ps_setI (i := 2) sc_law.nd rfl (by first | exact Or.inl rfl | exact Or.inr rfl) (pe_callTyI call_list_of rfl B.list PyProof.Rows.boot_list (pa_consI (pvI 1) pa_nilI)))
      (pss_consI (ps_setI (i := 3) sc_law.nd rfl (by first | exact Or.inl rfl | exact Or.inr rfl) (pe_fnI D_l_told hr pass0 (pa_consI (pvI 2) pa_nilI)))
      (pss_consI (ps_ifI (pt_cmpRI (op_neDK K hu) (pvI 2) (pvI 1) (nomark _)) (pss_oneI (ps_retI pe_blI)) pss_nilI)
      (pss_consI (ps_ifI (PW_ptI (pw_orI (pt_cmpRI op_eq (pe_callBI (call_lenK K) (by rfl) B.len PySem.boot_len (pa_consI (pvI 1) pa_nilI)) pe_intI (nomark _)) (pw_or1I (pt_cmpRI (op_neDK K hu) (pe_fnI D_l_last_difference hr pass0 (pa_consI (pvI 1) pa_nilI)) (pe_tupI (pa_consI (pe_tupI (pa_consI pe_intI (pa_consI pe_intI pa_nilI))) (pa_consI (pe_tupI (pa_consI pe_intI (pa_consI pe_intI pa_nilI))) pa_nilI))) (nomark _))))) (pss_oneI (ps_retI (pe_cmpRI op_is_bl (pvI 3) pe_blI (nomark _)))) pss_nilI)
      (pss_oneI (ps_retI (pe_andI (pe_fnI D_l_is_curve hr pass0 (pa_consI (pvI 3) (pa_consI (pe_opI op_sub (pe_callBI (call_lenK K) (by rfl) B.len PySem.boot_len (pa_consI (pvI 1) pa_nilI)) pe_intI) pa_nilI))) (pe_oneI (pe_cmpRI (op_eqDK K hu) (pe_fnI D_l_raised hr pass0 (pa_consI (pvI 3) pa_nilI)) (pvI 1) (nomark _))))))))))), ?_⟩
    walk_at "rd"
    refine ⟨a, ns, rfl, hS, fun l ws ps D H1 s1 hl0 hl hP h1 h12 hD zD hov => ?_⟩
    have hwl := hP.len
    have fine : Fine1 ps D 180 := ⟨hD, zD.mono (by decide), hov, by decide, h1, h12⟩
    walk_at "rd"
    intro lh hlh
    have hl1 : (upd H1 lh (.lst ws)) l = some (.lst ws) := upd_keep hlh hl
    have hP1 := hP.same (Same.new (o := .lst ws) hlh)
    have hlh1 : (upd H1 lh (.lst ws)) lh = some (.lst ws) := upd_same
    generalize upd H1 lh (.lst ws) = H2 at *
    walk_at "rd"
    refine ⟨lh, ws, ps, D, 180, rfl, SqL.of hlh1, hP1, fine, by decide, fun qs he hq1 lf uf H3 s3 hf0 hf hU => ?_, fun hc H3 s3 => ?_⟩
    · have e0 := low_last he
      have elen := low_len he
      have era := low_ra he hq1
      have hl3 := s3 _ _ hl1
      have hlh3 := s3 _ _ hlh1
      have hP3 := hP1.same s3
      clear s3
      walk_at "rd"
      refine ⟨datPts ps, datPts ps, dnP hlh3 hP3, dnP hl3 hP3, datPts_ok ps 5, datPts_ok ps 5, fun b hb => ?_⟩
      obtain rfl := hb.mpr rfl
      refine ⟨_, rfl, ifF rfl ?_⟩
      walk_at "rd"
      refine ifF (by simp; omega) ?_
      walk_at "rd"
      refine ⟨l, ws, ps, D, 180, rfl, SqL.of hl3, hP3, h1, h12, hD, zD.mono (by decide), by decide, hov, fun v H4 s4 pv => ?_⟩
      rw [e0] at pv
      walk_at "rd"
      intro c1 hc1
      walk_at "rd"
      intro c2 hc2
      walk_at "rd"
      intro c3 hc3
      have pz : PtV (upd (upd (upd H4 c1 (.tup [.int 0, .int 1])) c2 (.tup [.int 0, .int 1])) c3 (.tup [.ref c1, .ref c2])) (.ref c3) 0 0 := ⟨c3, _, _, rfl, upd_same, ⟨c1, rfl, by walk_at "hf"⟩, ⟨c2, rfl, by walk_at "hf"⟩⟩
      have s5 : Same H4 (upd (upd (upd H4 c1 (.tup [.int 0, .int 1])) c2 (.tup [.int 0, .int 1])) c3 (.tup [.ref c1, .ref c2])) := by walk_at "sm"
      generalize upd (upd (upd H4 c1 (.tup [.int 0, .int 1])) c2 (.tup [.int 0, .int 1])) c3 (.tup [.ref c1, .ref c2]) = H5 at *
      refine ⟨datPt (0, 0), datPt (0, 0), PtV.dn (p := (0, 0)) (pv.same s5), PtV.dn (p := (0, 0)) pz, datPt_ok (0, 0) 6, datPt_ok (0, 0) 6, fun b hb => ?_⟩
      obtain rfl := hb.mpr rfl
      refine ⟨_, rfl, ifF rfl ?_⟩
      have hf5 := s5 _ _ (s4 _ _ hf)
      have hU5 := (hU.same s4).same s5
      have hl5 := s5 _ _ (s4 _ _ hl3)
      have hP5 := (hP3.same s4).same s5
      walk_at "rd"
      refine ⟨lf, _, uf, qs, rfl, hf5, hU5, by omega, fun H6 s6 => ?_⟩
      walk_at "rd"
      refine ⟨lf, uf, qs, rfl, SqL.of (s6 _ _ hf5), hU5.same s6, low_bd he hq1 hD zD hov (by decide) h12, hq1, by omega, fun lr ur H7 s7 hr0 hr hR => ?_⟩
      rw [era] at hR
      walk_at "rd"
      refine ⟨datPts ps, datPts ps, dnP hr hR, dnP (s7 _ _ (s6 _ _ hl5)) ((hP5.same s6).same s7), datPts_ok ps 5, datPts_ok ps 5, fun b hb => ?_⟩
      obtain rfl := hb.mpr rfl
      exact k _
    · have hl3 := s3 _ _ hl1
      have hlh3 := s3 _ _ hlh1
      have hP3 := hP1.same s3
      clear s3
      walk_at "rd"
      refine ⟨datPts ps, datPts ps, dnP hlh3 hP3, dnP hl3 hP3, datPts_ok ps 5, datPts_ok ps 5, fun b hb => ?_⟩
      obtain rfl := hb.mpr rfl
      refine ⟨_, rfl, ifF rfl ?_⟩
      walk_at "rd"
      by_cases hone : ps.length = 1
      · refine ifT (by simp; omega) ?_
        walk_at "rd"
        exact k _
      refine ifF (by simp; omega) ?_
      walk_at "rd"
      refine ⟨l, ws, ps, D, 180, rfl, SqL.of hl3, hP3, h1, h12, hD, zD.mono (by decide), by decide, hov, fun v H4 s4 pv => ?_⟩
      walk_at "rd"
      intro c1 hc1
      walk_at "rd"
      intro c2 hc2
      walk_at "rd"
      intro c3 hc3
      have pz : PtV (upd (upd (upd H4 c1 (.tup [.int 0, .int 1])) c2 (.tup [.int 0, .int 1])) c3 (.tup [.ref c1, .ref c2])) (.ref c3) 0 0 := ⟨c3, _, _, rfl, upd_same, ⟨c1, rfl, by walk_at "hf"⟩, ⟨c2, rfl, by walk_at "hf"⟩⟩
      have s5 : Same H4 (upd (upd (upd H4 c1 (.tup [.int 0, .int 1])) c2 (.tup [.int 0, .int 1])) c3 (.tup [.ref c1, .ref c2])) := by walk_at "sm"
      generalize upd (upd (upd H4 c1 (.tup [.int 0, .int 1])) c2 (.tup [.int 0, .int 1])) c3 (.tup [.ref c1, .ref c2]) = H5 at *
      refine ⟨datPt (lastD ps), datPt (0, 0), PtV.dn (p := lastD ps) (pv.same s5), PtV.dn (p := (0, 0)) pz, datPt_ok (lastD ps) 6, datPt_ok (0, 0) 6, fun b hb => ?_⟩
      have hb0 : b = false := by
        cases b with
        | false => rfl
        | true =>
          rcases hc with h | h
          · exact absurd h hone
          · exact absurd (datPt_inj.mp (hb.mp rfl)) h
      subst hb0
      refine ⟨_, rfl, ifT rfl ?_⟩
      walk_at "rd"
      exact k _
end
theorem all_mk {w : World} {K : PySem.W.Frag} {h : Heap} {mg : Str → Option Value} {fa : Addr} (KX : K.In h) (GN : h.Ns mainGlobals mg) (hfa : mg "law" = some (.ref fa))
    {f0 : Addr} {od0 an0 : Option Addr} {sl0 : Array (Option Value)} {oc0 kV0 dc0 pm0 cd0 ct0 : Value}
    {f1 : Addr} {od1 an1 : Option Addr} {sl1 : Array (Option Value)} {oc1 kV1 dc1 pm1 cd1 ct1 : Value}
    {f2 : Addr} {od2 an2 : Option Addr} {sl2 : Array (Option Value)} {oc2 kV2 dc2 pm2 cd2 ct2 : Value}
    {f3 : Addr} {od3 an3 : Option Addr} {sl3 : Array (Option Value)} {oc3 kV3 dc3 pm3 cd3 ct3 : Value}
    {f4 : Addr} {od4 an4 : Option Addr} {sl4 : Array (Option Value)} {oc4 kV4 dc4 pm4 cd4 ct4 : Value}
    {f5 : Addr} {od5 an5 : Option Addr} {sl5 : Array (Option Value)} {oc5 kV5 dc5 pm5 cd5 ct5 : Value}
    {f6 : Addr} {od6 an6 : Option Addr} {sl6 : Array (Option Value)} {oc6 kV6 dc6 pm6 cd6 ct6 : Value}
    {f7 : Addr} {od7 an7 : Option Addr} {sl7 : Array (Option Value)} {oc7 kV7 dc7 pm7 cd7 ct7 : Value}
    {f8 : Addr} {od8 an8 : Option Addr} {sl8 : Array (Option Value)} {oc8 kV8 dc8 pm8 cd8 ct8 : Value}
    {f9 : Addr} {od9 an9 : Option Addr} {sl9 : Array (Option Value)} {oc9 kV9 dc9 pm9 cd9 ct9 : Value}
    {f10 : Addr} {od10 an10 : Option Addr} {sl10 : Array (Option Value)} {oc10 kV10 dc10 pm10 cd10 ct10 : Value}
    {f11 : Addr} {od11 an11 : Option Addr} {sl11 : Array (Option Value)} {oc11 kV11 dc11 pm11 cd11 ct11 : Value}
    {f12 : Addr} {od12 an12 : Option Addr} {sl12 : Array (Option Value)} {oc12 kV12 dc12 pm12 cd12 ct12 : Value}
    {f13 : Addr} {od13 an13 : Option Addr} {sl13 : Array (Option Value)} {oc13 kV13 dc13 pm13 cd13 ct13 : Value}
    {f14 : Addr} {od14 an14 : Option Addr} {sl14 : Array (Option Value)} {oc14 kV14 dc14 pm14 cd14 ct14 : Value}
    {f15 : Addr} {od15 an15 : Option Addr} {sl15 : Array (Option Value)} {oc15 kV15 dc15 pm15 cd15 ct15 : Value}
    {f16 : Addr} {od16 an16 : Option Addr} {sl16 : Array (Option Value)} {oc16 kV16 dc16 pm16 cd16 ct16 : Value}
    {f17 : Addr} {od17 an17 : Option Addr} {sl17 : Array (Option Value)} {oc17 kV17 dc17 pm17 cd17 ct17 : Value}
    {f18 : Addr} {od18 an18 : Option Addr} {sl18 : Array (Option Value)} {oc18 kV18 dc18 pm18 cd18 ct18 : Value}
    {f19 : Addr} {od19 an19 : Option Addr} {sl19 : Array (Option Value)} {oc19 kV19 dc19 pm19 cd19 ct19 : Value}
    {f20 : Addr} {od20 an20 : Option Addr} {sl20 : Array (Option Value)} {oc20 kV20 dc20 pm20 cd20 ct20 : Value}
    {f21 : Addr} {od21 an21 : Option Addr} {sl21 : Array (Option Value)} {oc21 kV21 dc21 pm21 cd21 ct21 : Value}
    {f22 : Addr} {od22 an22 : Option Addr} {sl22 : Array (Option Value)} {oc22 kV22 dc22 pm22 cd22 ct22 : Value}
    {f23 : Addr} {od23 an23 : Option Addr} {sl23 : Array (Option Value)} {oc23 kV23 dc23 pm23 cd23 ct23 : Value}
    {f24 : Addr} {od24 an24 : Option Addr} {sl24 : Array (Option Value)} {oc24 kV24 dc24 pm24 cd24 ct24 : Value}
    {f25 : Addr} {od25 an25 : Option Addr} {sl25 : Array (Option Value)} {oc25 kV25 dc25 pm25 cd25 ct25 : Value}
    {f26 : Addr} {od26 an26 : Option Addr} {sl26 : Array (Option Value)} {oc26 kV26 dc26 pm26 cd26 ct26 : Value}
    {f27 : Addr} {od27 an27 : Option Addr} {sl27 : Array (Option Value)} {oc27 kV27 dc27 pm27 cd27 ct27 : Value}
    {f28 : Addr} {od28 an28 : Option Addr} {sl28 : Array (Option Value)} {oc28 kV28 dc28 pm28 cd28 ct28 : Value}
    (a0 : PySem.W.nsIn K mainGlobals "_law_cell_at" = some (some (.ref f0))) (l0 : K.lookup f0 = some ⟨oc0, od0, .func (PySem.W.fnOf "_law_cell_at" "_law_cell_at" (defArgs s_l_cell_at) (defBody s_l_cell_at) (defScope s_l_cell_at) .none kV0 dc0 pm0 an0 cd0 ct0), sl0⟩) (c0 : PySem.W.codeIn K cd0 "_law_cell_at" = true) (k0 : PySem.W.keepIn K (.ref f0) = true)
    (a1 : PySem.W.nsIn K mainGlobals "_law_low" = some (some (.ref f1))) (l1 : K.lookup f1 = some ⟨oc1, od1, .func (PySem.W.fnOf "_law_low" "_law_low" (defArgs s_l_low) (defBody s_l_low) (defScope s_l_low) .none kV1 dc1 pm1 an1 cd1 ct1), sl1⟩) (c1 : PySem.W.codeIn K cd1 "_law_low" = true) (k1 : PySem.W.keepIn K (.ref f1) = true)
    (a2 : PySem.W.nsIn K mainGlobals "_law_stream" = some (some (.ref f2))) (l2 : K.lookup f2 = some ⟨oc2, od2, .func (PySem.W.fnOf "_law_stream" "_law_stream" (defArgs s_l_stream) (defBody s_l_stream) (defScope s_l_stream) .none kV2 dc2 pm2 an2 cd2 ct2), sl2⟩) (c2 : PySem.W.codeIn K cd2 "_law_stream" = true) (k2 : PySem.W.keepIn K (.ref f2) = true)
    (a3 : PySem.W.nsIn K mainGlobals "_law_curve" = some (some (.ref f3))) (l3 : K.lookup f3 = some ⟨oc3, od3, .func (PySem.W.fnOf "_law_curve" "_law_curve" (defArgs s_l_curve) (defBody s_l_curve) (defScope s_l_curve) .none kV3 dc3 pm3 an3 cd3 ct3), sl3⟩) (c3 : PySem.W.codeIn K cd3 "_law_curve" = true) (k3 : PySem.W.keepIn K (.ref f3) = true)
    (a4 : PySem.W.nsIn K mainGlobals "_law_plus" = some (some (.ref f4))) (l4 : K.lookup f4 = some ⟨oc4, od4, .func (PySem.W.fnOf "_law_plus" "_law_plus" (defArgs s_l_plus) (defBody s_l_plus) (defScope s_l_plus) .none kV4 dc4 pm4 an4 cd4 ct4), sl4⟩) (c4 : PySem.W.codeIn K cd4 "_law_plus" = true) (k4 : PySem.W.keepIn K (.ref f4) = true)
    (a5 : PySem.W.nsIn K mainGlobals "_law_between" = some (some (.ref f5))) (l5 : K.lookup f5 = some ⟨oc5, od5, .func (PySem.W.fnOf "_law_between" "_law_between" (defArgs s_l_between) (defBody s_l_between) (defScope s_l_between) .none kV5 dc5 pm5 an5 cd5 ct5), sl5⟩) (c5 : PySem.W.codeIn K cd5 "_law_between" = true) (k5 : PySem.W.keepIn K (.ref f5) = true)
    (a6 : PySem.W.nsIn K mainGlobals "_law_on_way" = some (some (.ref f6))) (l6 : K.lookup f6 = some ⟨oc6, od6, .func (PySem.W.fnOf "_law_on_way" "_law_on_way" (defArgs s_l_on_way) (defBody s_l_on_way) (defScope s_l_on_way) .none kV6 dc6 pm6 an6 cd6 ct6), sl6⟩) (c6 : PySem.W.codeIn K cd6 "_law_on_way" = true) (k6 : PySem.W.keepIn K (.ref f6) = true)
    (a7 : PySem.W.nsIn K mainGlobals "_law_raised" = some (some (.ref f7))) (l7 : K.lookup f7 = some ⟨oc7, od7, .func (PySem.W.fnOf "_law_raised" "_law_raised" (defArgs s_l_raised) (defBody s_l_raised) (defScope s_l_raised) .none kV7 dc7 pm7 an7 cd7 ct7), sl7⟩) (c7 : PySem.W.codeIn K cd7 "_law_raised" = true) (k7 : PySem.W.keepIn K (.ref f7) = true)
    (a8 : PySem.W.nsIn K mainGlobals "_law_handed" = some (some (.ref f8))) (l8 : K.lookup f8 = some ⟨oc8, od8, .func (PySem.W.fnOf "_law_handed" "_law_handed" (defArgs s_l_handed) (defBody s_l_handed) (defScope s_l_handed) .none kV8 dc8 pm8 an8 cd8 ct8), sl8⟩) (c8 : PySem.W.codeIn K cd8 "_law_handed" = true) (k8 : PySem.W.keepIn K (.ref f8) = true)
    (a9 : PySem.W.nsIn K mainGlobals "_law_is_share" = some (some (.ref f9))) (l9 : K.lookup f9 = some ⟨oc9, od9, .func (PySem.W.fnOf "_law_is_share" "_law_is_share" (defArgs s_l_is_share) (defBody s_l_is_share) (defScope s_l_is_share) .none kV9 dc9 pm9 an9 cd9 ct9), sl9⟩) (c9 : PySem.W.codeIn K cd9 "_law_is_share" = true) (k9 : PySem.W.keepIn K (.ref f9) = true)
    (a10 : PySem.W.nsIn K mainGlobals "_law_is_curve" = some (some (.ref f10))) (l10 : K.lookup f10 = some ⟨oc10, od10, .func (PySem.W.fnOf "_law_is_curve" "_law_is_curve" (defArgs s_l_is_curve) (defBody s_l_is_curve) (defScope s_l_is_curve) .none kV10 dc10 pm10 an10 cd10 ct10), sl10⟩) (c10 : PySem.W.codeIn K cd10 "_law_is_curve" = true) (k10 : PySem.W.keepIn K (.ref f10) = true)
    (a11 : PySem.W.nsIn K mainGlobals "_law_last_difference" = some (some (.ref f11))) (l11 : K.lookup f11 = some ⟨oc11, od11, .func (PySem.W.fnOf "_law_last_difference" "_law_last_difference" (defArgs s_l_last_difference) (defBody s_l_last_difference) (defScope s_l_last_difference) .none kV11 dc11 pm11 an11 cd11 ct11), sl11⟩) (c11 : PySem.W.codeIn K cd11 "_law_last_difference" = true) (k11 : PySem.W.keepIn K (.ref f11) = true)
    (a12 : PySem.W.nsIn K mainGlobals "last_is_spare" = some (some (.ref f12))) (l12 : K.lookup f12 = some ⟨oc12, od12, .func (PySem.W.fnOf "last_is_spare" "last_is_spare" (defArgs s_last_is_spare) (defBody s_last_is_spare) (defScope s_last_is_spare) .none kV12 dc12 pm12 an12 cd12 ct12), sl12⟩) (c12 : PySem.W.codeIn K cd12 "last_is_spare" = true) (k12 : PySem.W.keepIn K (.ref f12) = true)
    (a13 : PySem.W.nsIn K mainGlobals "greatest_common" = some (some (.ref f13))) (l13 : K.lookup f13 = some ⟨oc13, od13, .func (PySem.W.fnOf "greatest_common" "greatest_common" (defArgs s_greatest_common) (defBody s_greatest_common) (defScope s_greatest_common) .none kV13 dc13 pm13 an13 cd13 ct13), sl13⟩) (c13 : PySem.W.codeIn K cd13 "greatest_common" = true) (k13 : PySem.W.keepIn K (.ref f13) = true)
    (a14 : PySem.W.nsIn K mainGlobals "common_bottoms" = some (some (.ref f14))) (l14 : K.lookup f14 = some ⟨oc14, od14, .func (PySem.W.fnOf "common_bottoms" "common_bottoms" (defArgs s_common_bottoms) (defBody s_common_bottoms) (defScope s_common_bottoms) .none kV14 dc14 pm14 an14 cd14 ct14), sl14⟩) (c14 : PySem.W.codeIn K cd14 "common_bottoms" = true) (k14 : PySem.W.keepIn K (.ref f14) = true)
    (a15 : PySem.W.nsIn K mainGlobals "product" = some (some (.ref f15))) (l15 : K.lookup f15 = some ⟨oc15, od15, .func (PySem.W.fnOf "product" "product" (defArgs s_product) (defBody s_product) (defScope s_product) .none kV15 dc15 pm15 an15 cd15 ct15), sl15⟩) (c15 : PySem.W.codeIn K cd15 "product" = true) (k15 : PySem.W.keepIn K (.ref f15) = true)
    (a16 : PySem.W.nsIn K mainGlobals "axis" = some (some (.ref f16))) (l16 : K.lookup f16 = some ⟨oc16, od16, .func (PySem.W.fnOf "axis" "axis" (defArgs s_axis) (defBody s_axis) (defScope s_axis) .none kV16 dc16 pm16 an16 cd16 ct16), sl16⟩) (c16 : PySem.W.codeIn K cd16 "axis" = true) (k16 : PySem.W.keepIn K (.ref f16) = true)
    (a17 : PySem.W.nsIn K mainGlobals "axes" = some (some (.ref f17))) (l17 : K.lookup f17 = some ⟨oc17, od17, .func (PySem.W.fnOf "axes" "axes" (defArgs s_axes) (defBody s_axes) (defScope s_axes) .none kV17 dc17 pm17 an17 cd17 ct17), sl17⟩) (c17 : PySem.W.codeIn K cd17 "axes" = true) (k17 : PySem.W.keepIn K (.ref f17) = true)
    (a18 : PySem.W.nsIn K mainGlobals "spread" = some (some (.ref f18))) (l18 : K.lookup f18 = some ⟨oc18, od18, .func (PySem.W.fnOf "spread" "spread" (defArgs s_spread) (defBody s_spread) (defScope s_spread) .none kV18 dc18 pm18 an18 cd18 ct18), sl18⟩) (c18 : PySem.W.codeIn K cd18 "spread" = true) (k18 : PySem.W.keepIn K (.ref f18) = true)
    (a19 : PySem.W.nsIn K mainGlobals "sums_from" = some (some (.ref f19))) (l19 : K.lookup f19 = some ⟨oc19, od19, .func (PySem.W.fnOf "sums_from" "sums_from" (defArgs s_sums_from) (defBody s_sums_from) (defScope s_sums_from) .none kV19 dc19 pm19 an19 cd19 ct19), sl19⟩) (c19 : PySem.W.codeIn K cd19 "sums_from" = true) (k19 : PySem.W.keepIn K (.ref f19) = true)
    (a20 : PySem.W.nsIn K mainGlobals "axis_seats" = some (some (.ref f20))) (l20 : K.lookup f20 = some ⟨oc20, od20, .func (PySem.W.fnOf "axis_seats" "axis_seats" (defArgs s_axis_seats) (defBody s_axis_seats) (defScope s_axis_seats) .none kV20 dc20 pm20 an20 cd20 ct20), sl20⟩) (c20 : PySem.W.codeIn K cd20 "axis_seats" = true) (k20 : PySem.W.keepIn K (.ref f20) = true)
    (a21 : PySem.W.nsIn K mainGlobals "share_over" = some (some (.ref f21))) (l21 : K.lookup f21 = some ⟨oc21, od21, .func (PySem.W.fnOf "share_over" "share_over" (defArgs s_share_over) (defBody s_share_over) (defScope s_share_over) .none kV21 dc21 pm21 an21 cd21 ct21), sl21⟩) (c21 : PySem.W.codeIn K cd21 "share_over" = true) (k21 : PySem.W.keepIn K (.ref f21) = true)
    (a22 : PySem.W.nsIn K mainGlobals "points_of" = some (some (.ref f22))) (l22 : K.lookup f22 = some ⟨oc22, od22, .func (PySem.W.fnOf "points_of" "points_of" (defArgs s_points_of) (defBody s_points_of) (defScope s_points_of) .none kV22 dc22 pm22 an22 cd22 ct22), sl22⟩) (c22 : PySem.W.codeIn K cd22 "points_of" = true) (k22 : PySem.W.keepIn K (.ref f22) = true)
    (a23 : PySem.W.nsIn K mainGlobals "of_powers" = some (some (.ref f23))) (l23 : K.lookup f23 = some ⟨oc23, od23, .func (PySem.W.fnOf "of_powers" "of_powers" (defArgs s_of_powers) (defBody s_of_powers) (defScope s_of_powers) .none kV23 dc23 pm23 an23 cd23 ct23), sl23⟩) (c23 : PySem.W.codeIn K cd23 "of_powers" = true) (k23 : PySem.W.keepIn K (.ref f23) = true)
    (a24 : PySem.W.nsIn K mainGlobals "axis_powers" = some (some (.ref f24))) (l24 : K.lookup f24 = some ⟨oc24, od24, .func (PySem.W.fnOf "axis_powers" "axis_powers" (defArgs s_axis_powers) (defBody s_axis_powers) (defScope s_axis_powers) .none kV24 dc24 pm24 an24 cd24 ct24), sl24⟩) (c24 : PySem.W.codeIn K cd24 "axis_powers" = true) (k24 : PySem.W.keepIn K (.ref f24) = true)
    (a25 : PySem.W.nsIn K mainGlobals "powers" = some (some (.ref f25))) (l25 : K.lookup f25 = some ⟨oc25, od25, .func (PySem.W.fnOf "powers" "powers" (defArgs s_powers) (defBody s_powers) (defScope s_powers) .none kV25 dc25 pm25 an25 cd25 ct25), sl25⟩) (c25 : PySem.W.codeIn K cd25 "powers" = true) (k25 : PySem.W.keepIn K (.ref f25) = true)
    (a26 : PySem.W.nsIn K mainGlobals "lowered" = some (some (.ref f26))) (l26 : K.lookup f26 = some ⟨oc26, od26, .func (PySem.W.fnOf "lowered" "lowered" (defArgs s_lowered) (defBody s_lowered) (defScope s_lowered) .none kV26 dc26 pm26 an26 cd26 ct26), sl26⟩) (c26 : PySem.W.codeIn K cd26 "lowered" = true) (k26 : PySem.W.keepIn K (.ref f26) = true)
    (a27 : PySem.W.nsIn K mainGlobals "_law_told" = some (some (.ref f27))) (l27 : K.lookup f27 = some ⟨oc27, od27, .func (PySem.W.fnOf "_law_told" "_law_told" (defArgs s_l_told) (defBody s_l_told) (defScope s_l_told) .none kV27 dc27 pm27 an27 cd27 ct27), sl27⟩) (c27 : PySem.W.codeIn K cd27 "_law_told" = true) (k27 : PySem.W.keepIn K (.ref f27) = true)
    (a28 : PySem.W.nsIn K mainGlobals "law" = some (some (.ref f28))) (l28 : K.lookup f28 = some ⟨oc28, od28, .func (PySem.W.fnOf "law" "law" (defArgs s_law) (defBody s_law) (defScope s_law) .none kV28 dc28 pm28 an28 cd28 ct28), sl28⟩) (c28 : PySem.W.codeIn K cd28 "law" = true) (k28 : PySem.W.keepIn K (.ref f28) = true)
    (z_len : PySem.W.nsIn K mainGlobals "len" = some none)
    (z_abs : PySem.W.nsIn K mainGlobals "abs" = some none)
    (z_range : PySem.W.nsIn K mainGlobals "range" = some none)
    (z_max : PySem.W.nsIn K mainGlobals "max" = some none)
    (z_min : PySem.W.nsIn K mainGlobals "min" = some none)
    (z_any : PySem.W.nsIn K mainGlobals "any" = some none)
    (z_all : PySem.W.nsIn K mainGlobals "all" = some none)
    (z_sum : PySem.W.nsIn K mainGlobals "sum" = some none)
    (z_isinstance : PySem.W.nsIn K mainGlobals "isinstance" = some none)
    (z_int : PySem.W.nsIn K mainGlobals "int" = some none)
    (z_bool : PySem.W.nsIn K mainGlobals "bool" = some none)
    (z_tuple : PySem.W.nsIn K mainGlobals "tuple" = some none)
    (z_list : PySem.W.nsIn K mainGlobals "list" = some none)
    (z_str : PySem.W.nsIn K mainGlobals "str" = some none)
    (z_ValueError : PySem.W.nsIn K mainGlobals "ValueError" = some none)
    (z_zip : PySem.W.nsIn K mainGlobals "zip" = some none)
    (z_reversed : PySem.W.nsIn K mainGlobals "reversed" = some none)
    (z_enumerate : PySem.W.nsIn K mainGlobals "enumerate" = some none)
    (z_sorted : PySem.W.nsIn K mainGlobals "sorted" = some none)
    (z_dict : PySem.W.nsIn K mainGlobals "dict" = some none)
    {C_SeatError C_NoLower C_NoShare C_NoMap C_NoJoin C_NoPlace C_TooMany C_NoText C_NoName : Addr}
    (a_SeatError : PySem.W.nsIn K mainGlobals "SeatError" = some (some (.ref C_SeatError)))
    (a_NoLower : PySem.W.nsIn K mainGlobals "NoLower" = some (some (.ref C_NoLower)))
    (a_NoShare : PySem.W.nsIn K mainGlobals "NoShare" = some (some (.ref C_NoShare)))
    (a_NoMap : PySem.W.nsIn K mainGlobals "NoMap" = some (some (.ref C_NoMap)))
    (a_NoJoin : PySem.W.nsIn K mainGlobals "NoJoin" = some (some (.ref C_NoJoin)))
    (a_NoPlace : PySem.W.nsIn K mainGlobals "NoPlace" = some (some (.ref C_NoPlace)))
    (a_TooMany : PySem.W.nsIn K mainGlobals "TooMany" = some (some (.ref C_TooMany)))
    (a_NoText : PySem.W.nsIn K mainGlobals "NoText" = some (some (.ref C_NoText)))
    (a_NoName : PySem.W.nsIn K mainGlobals "NoName" = some (some (.ref C_NoName)))
    {nm_NoLower q_NoLower : Str} {N_NoLower : Addr} {bs_NoLower bm_NoLower : List Value} {hd_NoLower : Bool} {sn_NoLower : List Str} {sub_NoLower : List Value} {ab_NoLower : Bool} {col_NoLower : Option Bool} {dd_NoLower : Option Addr} {k0_NoLower k1_NoLower k2_NoLower k3_NoLower k5_NoLower : Option Value}
    (l_NoLower : K.lookup C_NoLower = some (excClassObj nm_NoLower q_NoLower C_NoLower N_NoLower bs_NoLower bm_NoLower hd_NoLower sn_NoLower sub_NoLower ab_NoLower col_NoLower dd_NoLower k0_NoLower k1_NoLower k2_NoLower k3_NoLower k5_NoLower "ValueError.__new__"))
    (n_NoLower : PySem.W.nsOkIn K N_NoLower = true) (i_NoLower : PySem.W.nsIn K N_NoLower "__init__" = some none) (t_NoLower : PySem.W.tailIn K mroV bm_NoLower = true)
    (m_NoLower : PySem.W.exmOne K (.ref C_NoLower) (.ref C_SeatError) = some true) (v_NoLower : PySem.W.kitOne K (.ref C_NoLower) (.type "ValueError") = some true)
    (xhg_NoLower : PySem.W.findIn K (.ref C_NoLower) "__getattribute__" = some (some (.builtin "BaseException.__getattribute__")))
    (xhk_NoLower : PySem.W.findIn K (.ref C_NoLower) "__getattr__" = some none)
    (xhd_NoLower : (PySem.W.clsIn K C_NoLower).isSome = true)
    (xha_NoLower : PySem.W.findIn K (.ref C_NoLower) "__class__" = some (some (.builtin "object.__class__")))
    (xhn_NoLower : PySem.W.specialIn K (.builtin "object.__class__") "__get__" = some (some (.builtin "getset_descriptor.__get__")))
    (xht_NoLower : PySem.W.takesIn K (.builtin "object.__class__") = some true)
    (xhm_NoLower : PySem.W.mroIn K C_NoLower (.type "object") = some true)
    (xhb_NoLower : PySem.W.mroIn K C_NoLower (.type "BaseException") = some true)
    (v_NoLower_NoShare : PySem.W.kitOne K (.ref C_NoLower) (.ref C_NoShare) = some false)
    (v_NoLower_NoMap : PySem.W.kitOne K (.ref C_NoLower) (.ref C_NoMap) = some false)
    (v_NoLower_NoJoin : PySem.W.kitOne K (.ref C_NoLower) (.ref C_NoJoin) = some false)
    (v_NoLower_NoPlace : PySem.W.kitOne K (.ref C_NoLower) (.ref C_NoPlace) = some false)
    (v_NoLower_TooMany : PySem.W.kitOne K (.ref C_NoLower) (.ref C_TooMany) = some false)
    (v_NoLower_NoText : PySem.W.kitOne K (.ref C_NoLower) (.ref C_NoText) = some false)
    (v_NoLower_NoName : PySem.W.kitOne K (.ref C_NoLower) (.ref C_NoName) = some false)
    {A_NOUGHT B_NOUGHT C_NOUGHT : Addr} {dA_NOUGHT dB_NOUGHT dC_NOUGHT : Option Addr} {sA_NOUGHT sB_NOUGHT sC_NOUGHT : Array (Option Value)} {nA_NOUGHT nB_NOUGHT nC_NOUGHT : Nat} {t1_NOUGHT t2_NOUGHT t3_NOUGHT t4_NOUGHT : Tok}
    (a_NOUGHT : PySem.W.nsIn K mainGlobals "NOUGHT" = some (some (.ref A_NOUGHT)))
    (lA_NOUGHT : K.lookup A_NOUGHT = some ⟨.type "tuple", dA_NOUGHT, .seq #[.ref B_NOUGHT, .ref C_NOUGHT] nA_NOUGHT, sA_NOUGHT⟩)
    (lB_NOUGHT : K.lookup B_NOUGHT = some ⟨.type "tuple", dB_NOUGHT, .seq #[.int 0 t1_NOUGHT, .int 1 t2_NOUGHT] nB_NOUGHT, sB_NOUGHT⟩)
    (lC_NOUGHT : K.lookup C_NOUGHT = some ⟨.type "tuple", dC_NOUGHT, .seq #[.int 0 t3_NOUGHT, .int 1 t4_NOUGHT] nC_NOUGHT, sC_NOUGHT⟩)
    : ∃ fd : FuncData, (∀ (s : Shared) (v : Value), BindsTo s fd ⟨[v], []⟩ [("_law_script", v)]) ∧ ∀ (P : Program) (base : Heap), K.In base → base.Ns mainGlobals mg → FnOk P w K mg base CX0 8 fa fd ["_law_script"] ((spLaw K)) := by
  have e := hfa.symm.trans (PySem.W.mg_of KX GN a28)
  cases e
  have B : Blt mg := ⟨PySem.W.mg_none_of KX GN z_len, PySem.W.mg_none_of KX GN z_abs, PySem.W.mg_none_of KX GN z_range, PySem.W.mg_none_of KX GN z_max, PySem.W.mg_none_of KX GN z_min, PySem.W.mg_none_of KX GN z_any, PySem.W.mg_none_of KX GN z_all, PySem.W.mg_none_of KX GN z_sum, PySem.W.mg_none_of KX GN z_isinstance, PySem.W.mg_none_of KX GN z_int, PySem.W.mg_none_of KX GN z_bool, PySem.W.mg_none_of KX GN z_tuple, PySem.W.mg_none_of KX GN z_list, PySem.W.mg_none_of KX GN z_str, PySem.W.mg_none_of KX GN z_ValueError, PySem.W.mg_none_of KX GN z_zip, PySem.W.mg_none_of KX GN z_reversed, PySem.W.mg_none_of KX GN z_enumerate, PySem.W.mg_none_of KX GN z_sorted, PySem.W.mg_none_of KX GN z_dict⟩
  have X : Exc K mg C_SeatError C_NoLower C_NoShare C_NoMap C_NoJoin C_NoPlace C_TooMany C_NoText C_NoName := ⟨PySem.W.mg_of KX GN a_SeatError, PySem.W.mg_of KX GN a_NoLower, PySem.W.mg_of KX GN a_NoShare, PySem.W.mg_of KX GN a_NoMap, PySem.W.mg_of KX GN a_NoJoin, PySem.W.mg_of KX GN a_NoPlace, PySem.W.mg_of KX GN a_TooMany, PySem.W.mg_of KX GN a_NoText, PySem.W.mg_of KX GN a_NoName, ⟨PySem.W.mg_of KX GN a_NoLower, _, _, _, _, _, _, _, _, _, _, _, _, _, _, _, _, l_NoLower, n_NoLower, i_NoLower, t_NoLower⟩, m_NoLower, v_NoLower, ⟨xhg_NoLower, xhk_NoLower, xhd_NoLower, xha_NoLower, xhn_NoLower, xht_NoLower, xhm_NoLower, xhb_NoLower⟩, v_NoLower_NoShare, v_NoLower_NoMap, v_NoLower_NoJoin, v_NoLower_NoPlace, v_NoLower_TooMany, v_NoLower_NoText, v_NoLower_NoName⟩
  have G : Cst K mg A_NOUGHT := ⟨PySem.W.mg_of KX GN a_NOUGHT, fun _ => kPoint lA_NOUGHT lB_NOUGHT lC_NOUGHT⟩
  have F0 : FunAt K mg "_law_cell_at" s_l_cell_at ["_law_script", "_law_k"] := FunAt.mk' (PySem.W.mg_of KX GN a0) l0 c0 k0 fun _ _ _ _ _ _ us hl => uln2 (fun _ _ => rfl) us hl
  have F1 : FunAt K mg "_law_low" s_l_low ["_law_top", "_law_bottom"] := FunAt.mk' (PySem.W.mg_of KX GN a1) l1 c1 k1 fun _ _ _ _ _ _ us hl => uln2 (fun _ _ => rfl) us hl
  have F2 : FunAt K mg "_law_stream" s_l_stream ["_law_cell", "_law_many"] := FunAt.mk' (PySem.W.mg_of KX GN a2) l2 c2 k2 fun _ _ _ _ _ _ us hl => uln2 (fun _ _ => rfl) us hl
  have F3 : FunAt K mg "_law_curve" s_l_curve ["_law_cell", "_law_more"] := FunAt.mk' (PySem.W.mg_of KX GN a3) l3 c3 k3 fun _ _ _ _ _ _ us hl => uln2 (fun _ _ => rfl) us hl
  have F4 : FunAt K mg "_law_plus" s_l_plus ["_law_one", "_law_other"] := FunAt.mk' (PySem.W.mg_of KX GN a4) l4 c4 k4 fun _ _ _ _ _ _ us hl => uln2 (fun _ _ => rfl) us hl
  have F5 : FunAt K mg "_law_between" s_l_between ["_law_one", "_law_other", "_law_t_here"] := FunAt.mk' (PySem.W.mg_of KX GN a5) l5 c5 k5 fun _ _ _ _ _ _ us hl => uln3 (fun _ _ _ => rfl) us hl
  have F6 : FunAt K mg "_law_on_way" s_l_on_way ["_law_one", "_law_other", "_law_t_here"] := FunAt.mk' (PySem.W.mg_of KX GN a6) l6 c6 k6 fun _ _ _ _ _ _ us hl => uln3 (fun _ _ _ => rfl) us hl
  have F7 : FunAt K mg "_law_raised" s_l_raised ["_law_curve_here"] := FunAt.mk' (PySem.W.mg_of KX GN a7) l7 c7 k7 fun _ _ _ _ _ _ us hl => uln1 (fun _ => rfl) us hl
  have F8 : FunAt K mg "_law_handed" s_l_handed ["_law_script"] := FunAt.mk' (PySem.W.mg_of KX GN a8) l8 c8 k8 fun _ _ _ _ _ _ us hl => uln1 (fun _ => rfl) us hl
  have F9 : FunAt K mg "_law_is_share" s_l_is_share ["_law_thing"] := FunAt.mk' (PySem.W.mg_of KX GN a9) l9 c9 k9 fun _ _ _ _ _ _ us hl => uln1 (fun _ => rfl) us hl
  have F10 : FunAt K mg "_law_is_curve" s_l_is_curve ["_law_thing", "_law_many"] := FunAt.mk' (PySem.W.mg_of KX GN a10) l10 c10 k10 fun _ _ _ _ _ _ us hl => uln2 (fun _ _ => rfl) us hl
  have F11 : FunAt K mg "_law_last_difference" s_l_last_difference ["_law_curve_here"] := FunAt.mk' (PySem.W.mg_of KX GN a11) l11 c11 k11 fun _ _ _ _ _ _ us hl => uln1 (fun _ => rfl) us hl
  have F12 : FunAt K mg "last_is_spare" s_last_is_spare ["some"] := FunAt.mk' (PySem.W.mg_of KX GN a12) l12 c12 k12 fun _ _ _ _ _ _ us hl => uln1 (fun _ => rfl) us hl
  have F13 : FunAt K mg "greatest_common" s_greatest_common ["one", "other"] := FunAt.mk' (PySem.W.mg_of KX GN a13) l13 c13 k13 fun _ _ _ _ _ _ us hl => uln2 (fun _ _ => rfl) us hl
  have F14 : FunAt K mg "common_bottoms" s_common_bottoms ["shares"] := FunAt.mk' (PySem.W.mg_of KX GN a14) l14 c14 k14 fun _ _ _ _ _ _ us hl => uln1 (fun _ => rfl) us hl
  have F15 : FunAt K mg "product" s_product ["numbers"] := FunAt.mk' (PySem.W.mg_of KX GN a15) l15 c15 k15 fun _ _ _ _ _ _ us hl => uln1 (fun _ => rfl) us hl
  have F16 : FunAt K mg "axis" s_axis ["shares"] := FunAt.mk' (PySem.W.mg_of KX GN a16) l16 c16 k16 fun _ _ _ _ _ _ us hl => uln1 (fun _ => rfl) us hl
  have F17 : FunAt K mg "axes" s_axes ["points"] := FunAt.mk' (PySem.W.mg_of KX GN a17) l17 c17 k17 fun _ _ _ _ _ _ us hl => uln1 (fun _ => rfl) us hl
  have F18 : FunAt K mg "spread" s_spread ["n", "one", "other"] := FunAt.mk' (PySem.W.mg_of KX GN a18) l18 c18 k18 fun _ _ _ _ _ _ us hl => uln3 (fun _ _ _ => rfl) us hl
  have F19 : FunAt K mg "sums_from" s_sums_from ["first", "steps"] := FunAt.mk' (PySem.W.mg_of KX GN a19) l19 c19 k19 fun _ _ _ _ _ _ us hl => uln2 (fun _ _ => rfl) us hl
  have F20 : FunAt K mg "axis_seats" s_axis_seats ["one"] := FunAt.mk' (PySem.W.mg_of KX GN a20) l20 c20 k20 fun _ _ _ _ _ _ us hl => uln1 (fun _ => rfl) us hl
  have F21 : FunAt K mg "share_over" s_share_over ["top", "bottoms"] := FunAt.mk' (PySem.W.mg_of KX GN a21) l21 c21 k21 fun _ _ _ _ _ _ us hl => uln2 (fun _ _ => rfl) us hl
  have F22 : FunAt K mg "points_of" s_points_of ["xs", "ys"] := FunAt.mk' (PySem.W.mg_of KX GN a22) l22 c22 k22 fun _ _ _ _ _ _ us hl => uln2 (fun _ _ => rfl) us hl
  have F23 : FunAt K mg "of_powers" s_of_powers ["some"] := FunAt.mk' (PySem.W.mg_of KX GN a23) l23 c23 k23 fun _ _ _ _ _ _ us hl => uln1 (fun _ => rfl) us hl
  have F24 : FunAt K mg "axis_powers" s_axis_powers ["one"] := FunAt.mk' (PySem.W.mg_of KX GN a24) l24 c24 k24 fun _ _ _ _ _ _ us hl => uln1 (fun _ => rfl) us hl
  have F25 : FunAt K mg "powers" s_powers ["curve"] := FunAt.mk' (PySem.W.mg_of KX GN a25) l25 c25 k25 fun _ _ _ _ _ _ us hl => uln1 (fun _ => rfl) us hl
  have F26 : FunAt K mg "lowered" s_lowered ["curve"] := FunAt.mk' (PySem.W.mg_of KX GN a26) l26 c26 k26 fun _ _ _ _ _ _ us hl => uln1 (fun _ => rfl) us hl
  have F27 : FunAt K mg "_law_told" s_l_told ["_law_curve_here"] := FunAt.mk' (PySem.W.mg_of KX GN a27) l27 c27 k27 fun _ _ _ _ _ _ us hl => uln1 (fun _ => rfl) us hl
  have F28 : FunAt K mg "law" s_law ["_law_script"] := FunAt.mk' (PySem.W.mg_of KX GN a28) l28 c28 k28 fun _ _ _ _ _ _ us hl => uln1 (fun _ => rfl) us hl
  refine ⟨PySem.W.fnOf "law" "law" (defArgs s_law) (defBody s_law) (defScope s_law) .none kV28 dc28 pm28 an28 cd28 ct28, fun s v => .of_eq rfl, fun P base _ _ => ?_⟩
  have D0 : DefOk P w K mg base CX0 1 "_law_cell_at" ["_law_script", "_law_k"] (spCell K) := ok_l_cell_at F0 B X G
  have D1 : DefOk P w K mg base CX0 1 "_law_low" ["_law_top", "_law_bottom"] spLShare := ok_l_low F1 B X G
  have D2 : DefOk P w K mg base CX0 1 "_law_stream" ["_law_cell", "_law_many"] spStreamB := ok_l_stream F2 B X G
  have D3 : DefOk P w K mg base CX0 2 "_law_curve" ["_law_cell", "_law_more"] spLCurve := ok_l_curve F3 B X G D1 D2
  have D4 : DefOk P w K mg base CX0 2 "_law_plus" ["_law_one", "_law_other"] spPlus := ok_l_plus F4 B X G D1
  have D5 : DefOk P w K mg base CX0 2 "_law_between" ["_law_one", "_law_other", "_law_t_here"] spLBtw := ok_l_between F5 B X G D1
  have D6 : DefOk P w K mg base CX0 3 "_law_on_way" ["_law_one", "_law_other", "_law_t_here"] spLOnWay := ok_l_on_way F6 B X G D5
  have D7 : DefOk P w K mg base CX0 4 "_law_raised" ["_law_curve_here"] (spLRaised K) := ok_l_raised F7 B X G D1 D6
  have D8 : DefOk P w K mg base CX0 5 "_law_handed" ["_law_script"] (spLHanded K) := ok_l_handed F8 B X G D0 D1 D3 D4 D7
  have D9 : DefOk P w K mg base CX0 1 "_law_is_share" ["_law_thing"] spLIsShare := ok_l_is_share F9 B X G
  have D10 : DefOk P w K mg base CX0 2 "_law_is_curve" ["_law_thing", "_law_many"] (spLIsCurve K) := ok_l_is_curve F10 B X G D9
  have D11 : DefOk P w K mg base CX0 3 "_law_last_difference" ["_law_curve_here"] (spLastD K) := ok_l_last_difference F11 B X G D4
  have D12 : DefOk P w K mg base CX0 1 "last_is_spare" ["some"] (spSpareG K) := ok_last_is_spare F12 B X G
  have D13 : DefOk P w K mg base CX0 1 "greatest_common" ["one", "other"] spGcd := ok_greatest_common F13 B X G
  have D14 : DefOk P w K mg base CX0 2 "common_bottoms" ["shares"] (spCommon K) := ok_common_bottoms F14 B X G D13
  have D15 : DefOk P w K mg base CX0 1 "product" ["numbers"] (spProduct K) := ok_product F15 B X G
  have D16 : DefOk P w K mg base CX0 3 "axis" ["shares"] (spAxis K) := ok_axis F16 B X G D14 D15
  have D17 : DefOk P w K mg base CX0 4 "axes" ["points"] (spAxes K) := ok_axes F17 B X G D16
  have D18 : DefOk P w K mg base CX0 1 "spread" ["n", "one", "other"] spSpread := ok_spread F18 B X G
  have D19 : DefOk P w K mg base CX0 1 "sums_from" ["first", "steps"] (spSums K) := ok_sums_from F19 B X G
  have D20 : DefOk P w K mg base CX0 4 "axis_seats" ["one"] spAxSe := ok_axis_seats F20 B X G D16 D18 D19
  have D21 : DefOk P w K mg base CX0 2 "share_over" ["top", "bottoms"] (spOverAll K) := ok_share_over F21 B X G D13
  have D22 : DefOk P w K mg base CX0 3 "points_of" ["xs", "ys"] spPointsOf := ok_points_of F22 B X G D21
  have D23 : DefOk P w K mg base CX0 5 "of_powers" ["some"] (spOf1 K) := ok_of_powers F23 B X G D17 D20 D22
  have D24 : DefOk P w K mg base CX0 2 "axis_powers" ["one"] spAxPw := ok_axis_powers F24 B X G D18
  have D25 : DefOk P w K mg base CX0 5 "powers" ["curve"] (spPw1 K) := ok_powers F25 B X G D17 D22 D24
  have D26 : DefOk P w K mg base (CXx P w) 6 "lowered" ["curve"] (spLoweredX K C_NoLower) := ok_lowered F26 B X G D12 D23 D25
  have D27 : DefOk P w K mg base CX0 7 "_law_told" ["_law_curve_here"] (spToldL K) := ok_l_told F27 B X G D26
  have D28 : DefOk P w K mg base CX0 8 "law" ["_law_script"] (spLaw K) := ok_law F28 B X G D7 D8 D10 D11 D27
  exact D28.law l28 (PySem.W.mg_of KX GN a28)
end Cv
open PySem PySem.W PyProof.Rows
set_option maxHeartbeats 0 in
theorem PySem.Challenge.cw_curveseat_k32_lowered_or_not_holds : PySem.Challenge.rw_curveseat_k32_lowered_or_not.Holds := by
  w_on; o_law; k_head; (case hw => w_witness2)
  k_fill
  refine Cv.walk (l := PySem.Challenge.rw_curveseat_k32_lowered_or_not) (k := 8) (x := "_law_script") (CX := L2.CX0) (sp := fun K => (Cv.spLaw K)) rfl rfl ⟨rfl, by decide, by decide⟩ (fun w h Y => PySem.W.kIn_of Y) ?F (fun K H a ns h1 h2 h3 => ⟨a, ns, rfl, h3, h1, fun _ => rfl⟩) (fun _ _ _ _ z => z)
  case F =>
    intro w mg fa h KX G hmg
    refine' Cv.all_mk KX G hmg ?a0 ?l0 ?c0 ?k0 ?a1 ?l1 ?c1 ?k1 ?a2 ?l2 ?c2 ?k2 ?a3 ?l3 ?c3 ?k3 ?a4 ?l4 ?c4 ?k4 ?a5 ?l5 ?c5 ?k5 ?a6 ?l6 ?c6 ?k6 ?a7 ?l7 ?c7 ?k7 ?a8 ?l8 ?c8 ?k8 ?a9 ?l9 ?c9 ?k9 ?a10 ?l10 ?c10 ?k10 ?a11 ?l11 ?c11 ?k11 ?a12 ?l12 ?c12 ?k12 ?a13 ?l13 ?c13 ?k13 ?a14 ?l14 ?c14 ?k14 ?a15 ?l15 ?c15 ?k15 ?a16 ?l16 ?c16 ?k16 ?a17 ?l17 ?c17 ?k17 ?a18 ?l18 ?c18 ?k18 ?a19 ?l19 ?c19 ?k19 ?a20 ?l20 ?c20 ?k20 ?a21 ?l21 ?c21 ?k21 ?a22 ?l22 ?c22 ?k22 ?a23 ?l23 ?c23 ?k23 ?a24 ?l24 ?c24 ?k24 ?a25 ?l25 ?c25 ?k25 ?a26 ?l26 ?c26 ?k26 ?a27 ?l27 ?c27 ?k27 ?a28 ?l28 ?c28 ?k28 ?z_len ?z_abs ?z_range ?z_max ?z_min ?z_any ?z_all ?z_sum ?z_isinstance ?z_int ?z_bool ?z_tuple ?z_list ?z_str ?z_ValueError ?z_zip ?z_reversed ?z_enumerate ?z_sorted ?z_dict ?a_SeatError ?a_NoLower ?a_NoShare ?a_NoMap ?a_NoJoin ?a_NoPlace ?a_TooMany ?a_NoText ?a_NoName ?l_NoLower ?n_NoLower ?i_NoLower ?t_NoLower ?m_NoLower ?v_NoLower ?xhg_NoLower ?xhk_NoLower ?xhd_NoLower ?xha_NoLower ?xhn_NoLower ?xht_NoLower ?xhm_NoLower ?xhb_NoLower ?v_NoLower_NoShare ?v_NoLower_NoMap ?v_NoLower_NoJoin ?v_NoLower_NoPlace ?v_NoLower_TooMany ?v_NoLower_NoText ?v_NoLower_NoName ?a_NOUGHT ?lA_NOUGHT ?lB_NOUGHT ?lC_NOUGHT
    (case a0 => k_is)
    (case l0 => k_is)
    (case c0 => k_is)
    (case k0 => k_is)
    (case a1 => k_is)
    (case l1 => k_is)
    (case c1 => k_is)
    (case k1 => k_is)
    (case a2 => k_is)
    (case l2 => k_is)
    (case c2 => k_is)
    (case k2 => k_is)
    (case a3 => k_is)
    (case l3 => k_is)
    (case c3 => k_is)
    (case k3 => k_is)
    (case a4 => k_is)
    (case l4 => k_is)
    (case c4 => k_is)
    (case k4 => k_is)
    (case a5 => k_is)
    (case l5 => k_is)
    (case c5 => k_is)
    (case k5 => k_is)
    (case a6 => k_is)
    (case l6 => k_is)
    (case c6 => k_is)
    (case k6 => k_is)
    (case a7 => k_is)
    (case l7 => k_is)
    (case c7 => k_is)
    (case k7 => k_is)
    (case a8 => k_is)
    (case l8 => k_is)
    (case c8 => k_is)
    (case k8 => k_is)
    (case a9 => k_is)
    (case l9 => k_is)
    (case c9 => k_is)
    (case k9 => k_is)
    (case a10 => k_is)
    (case l10 => k_is)
    (case c10 => k_is)
    (case k10 => k_is)
    (case a11 => k_is)
    (case l11 => k_is)
    (case c11 => k_is)
    (case k11 => k_is)
    (case a12 => k_is)
    (case l12 => k_is)
    (case c12 => k_is)
    (case k12 => k_is)
    (case a13 => k_is)
    (case l13 => k_is)
    (case c13 => k_is)
    (case k13 => k_is)
    (case a14 => k_is)
    (case l14 => k_is)
    (case c14 => k_is)
    (case k14 => k_is)
    (case a15 => k_is)
    (case l15 => k_is)
    (case c15 => k_is)
    (case k15 => k_is)
    (case a16 => k_is)
    (case l16 => k_is)
    (case c16 => k_is)
    (case k16 => k_is)
    (case a17 => k_is)
    (case l17 => k_is)
    (case c17 => k_is)
    (case k17 => k_is)
    (case a18 => k_is)
    (case l18 => k_is)
    (case c18 => k_is)
    (case k18 => k_is)
    (case a19 => k_is)
    (case l19 => k_is)
    (case c19 => k_is)
    (case k19 => k_is)
    (case a20 => k_is)
    (case l20 => k_is)
    (case c20 => k_is)
    (case k20 => k_is)
    (case a21 => k_is)
    (case l21 => k_is)
    (case c21 => k_is)
    (case k21 => k_is)
    (case a22 => k_is)
    (case l22 => k_is)
    (case c22 => k_is)
    (case k22 => k_is)
    (case a23 => k_is)
    (case l23 => k_is)
    (case c23 => k_is)
    (case k23 => k_is)
    (case a24 => k_is)
    (case l24 => k_is)
    (case c24 => k_is)
    (case k24 => k_is)
    (case a25 => k_is)
    (case l25 => k_is)
    (case c25 => k_is)
    (case k25 => k_is)
    (case a26 => k_is)
    (case l26 => k_is)
    (case c26 => k_is)
    (case k26 => k_is)
    (case a27 => k_is)
    (case l27 => k_is)
    (case c27 => k_is)
    (case k27 => k_is)
    (case a28 => k_is)
    (case l28 => k_is)
    (case c28 => k_is)
    (case k28 => k_is)
    (case z_len => k_is)
    (case z_abs => k_is)
    (case z_range => k_is)
    (case z_max => k_is)
    (case z_min => k_is)
    (case z_any => k_is)
    (case z_all => k_is)
    (case z_sum => k_is)
    (case z_isinstance => k_is)
    (case z_int => k_is)
    (case z_bool => k_is)
    (case z_tuple => k_is)
    (case z_list => k_is)
    (case z_str => k_is)
    (case z_ValueError => k_is)
    (case z_zip => k_is)
    (case z_reversed => k_is)
    (case z_enumerate => k_is)
    (case z_sorted => k_is)
    (case z_dict => k_is)
    (case a_SeatError => k_is)
    (case a_NoLower => k_is)
    (case a_NoShare => k_is)
    (case a_NoMap => k_is)
    (case a_NoJoin => k_is)
    (case a_NoPlace => k_is)
    (case a_TooMany => k_is)
    (case a_NoText => k_is)
    (case a_NoName => k_is)
    (case l_NoLower => k_is)
    (case n_NoLower => kernel_rfl)
    (case i_NoLower => k_is)
    (case t_NoLower => kernel_rfl)
    (case m_NoLower => kts_exm)
    (case v_NoLower => kit_is)
    (case xhg_NoLower => k_is)
    (case xhk_NoLower => k_is)
    (case xhd_NoLower => kernel_rfl)
    (case xha_NoLower => k_is)
    (case xhn_NoLower => k_is)
    (case xht_NoLower => k_is)
    (case xhm_NoLower => k_is)
    (case xhb_NoLower => k_is)
    (case v_NoLower_NoShare => kit_is)
    (case v_NoLower_NoMap => kit_is)
    (case v_NoLower_NoJoin => kit_is)
    (case v_NoLower_NoPlace => kit_is)
    (case v_NoLower_TooMany => kit_is)
    (case v_NoLower_NoText => kit_is)
    (case v_NoLower_NoName => kit_is)
    (case a_NOUGHT => k_is)
    (case lA_NOUGHT => k_is)
    (case lB_NOUGHT => k_is)
    (case lC_NOUGHT => k_is)
#print axioms PySem.Challenge.cw_curveseat_k32_lowered_or_not_holds
