import PyProof.Rows.All
import Wide.All
import OpenK.AllK
import Wide.FinOn
import Lean
import PyProof.EqAt
import PyProof.EqKinds
import PyProof.TupleCall
import PySem.Challenge.RW_curveseat_k60_stretches
set_option compiler.extract_closed false
set_option genSizeOfSpec false
set_option Elab.async false
set_option linter.all false
set_option maxRecDepth 100000
/-! THE HAND LAYER, for ints, bools, texts, own classes, LISTS and tuples (index, slices, in, append, pop ..), calls, loops. Paste it whole ahead of your own text; what your proof does not reach may be deleted. -/
namespace L2
open PySem PySem.Spec PyProof.Rows

/-- a key: an int or a str -/
noncomputable abbrev Key := Sum Int Str
noncomputable def keyIs : Key → Value → Bool
  | .inl k, v => Value.isInt k v
  | .inr x, v => Value.isStrOf x v
noncomputable def keyH (w : World) : Key → Int
  | .inl k => hashInt k
  | .inr x => hashStr w x
theorem keyIs_shape : ∀ {k : Key} {v : Value}, keyIs k v = true → (∃ i t, k = Sum.inl i ∧ v = Value.int i t) ∨ (∃ x t, k = Sum.inr x ∧ v = Value.str x t)
  | .inl i, v, h => by
    obtain ⟨t, e⟩ := Value.isInt_shape (k := i) (v := v) h
    exact .inl ⟨i, t, rfl, e⟩
  | .inr x, v, h => by
    obtain ⟨t, e⟩ := Value.isStrOf_shape (x := x) (v := v) h
    exact .inr ⟨x, t, rfl, e⟩
theorem key_ll (a b : Int) : decide ((Sum.inl a : Key) = Sum.inl b) = (a == b) := by
  by_cases e : a = b
  · subst e; simp
  · have h : ¬ (Sum.inl a : Key) = Sum.inl b := fun q => e (Sum.inl.inj q)
    rw [decide_eq_false h]
    exact (beq_eq_false_iff_ne.mpr e).symm
theorem key_rr (a b : Str) : decide ((Sum.inr a : Key) = Sum.inr b) = decide (a = b) := by
  by_cases e : a = b
  · subst e; simp
  · have h : ¬ (Sum.inr a : Key) = Sum.inr b := fun q => e (Sum.inr.inj q)
    rw [decide_eq_false h, decide_eq_false e]
theorem key_lr (a : Int) (b : Str) : decide ((Sum.inl a : Key) = Sum.inr b) = false := decide_eq_false (fun q => nomatch q)
theorem key_rl (a : Str) (b : Int) : decide ((Sum.inr a : Key) = Sum.inl b) = false := decide_eq_false (fun q => nomatch q)

noncomputable def mixKind (prog : Program) (w : World) : PySem.KeyKind prog w Key where
  is := keyIs
  hash := keyH w
  inj := fun v a b ha hb => by
    rcases keyIs_shape ha with ⟨i, t, rfl, rfl⟩ | ⟨x, t, rfl, rfl⟩
    · rcases keyIs_shape hb with ⟨j, u, rfl, e⟩ | ⟨y, u, rfl, e⟩
      · injection e with e1 _; rw [e1]
      · exact nomatch e
    · rcases keyIs_shape hb with ⟨j, u, rfl, e⟩ | ⟨y, u, rfl, e⟩
      · exact nomatch e
      · injection e with e1 _; rw [e1]
  byValue := fun k v h => by
    rcases keyIs_shape h with ⟨i, t, rfl, rfl⟩ | ⟨x, t, rfl, rfl⟩ <;> rfl
  pyHash := fun hv h => by
    rcases keyIs_shape hv with ⟨i, t, rfl, rfl⟩ | ⟨x, t, rfl, rfl⟩
    · exact wpAny_pyHash_int h
    · exact wpAny_pyHash_str h
  eqBool := fun hu hv h => by
    rcases keyIs_shape hu with ⟨i, t, rfl, rfl⟩ | ⟨x, t, rfl, rfl⟩
    · rcases keyIs_shape hv with ⟨j, u, rfl, rfl⟩ | ⟨y, u, rfl, rfl⟩
      · rw [key_ll] at h; exact wpAny_eqBool_int h
      · rw [key_lr] at h; exact SeqAt.EqAt.int_str i t y u _ _ _ _ h
    · rcases keyIs_shape hv with ⟨j, u, rfl, rfl⟩ | ⟨y, u, rfl, rfl⟩
      · rw [key_rl] at h; exact SeqAt.EqAt.str_int x t j u _ _ _ _ h
      · rw [key_rr] at h; exact wpAny_eqBool_str h
  «strs» := fun k x t v h => by
    rcases keyIs_shape h with ⟨i, u, rfl, e⟩ | ⟨y, u, rfl, e⟩
    · exact nomatch e
    · injection e with e1 _
      subst e1
      cases v <;> rfl

end L2

namespace L2
open PySem PySem.Spec PyProof.Rows

/-- a value, without the heap -/
inductive V where
  | non | bl (b : Bool) | int (i : Int) | str (x : Str) | byt (b : Array UInt8) | flt (b : UInt64) | ref (a : Addr) | ty (n : String)
  deriving DecidableEq

noncomputable def RelV : V → Value → Prop
  | .non, u => u = Value.none
  | .bl b, u => u = Value.bool b
  | .int i, u => ∃ t, u = Value.int i t
  | .str x, u => ∃ t, u = Value.str x t
  | .byt b, u => ∃ t, u = Value.bytes b t
  | .flt b, u => ∃ t, u = Value.float b t
  | .ref a, u => u = Value.ref a
  | .ty n, u => u = Value.type n

noncomputable abbrev Vals : List V → List Value → Prop := Paired RelV
theorem Vals.length {xs : List V} {us : List Value} (r : Vals xs us) : xs.length = us.length := Paired.length r
theorem Vals.get : ∀ {xs : List V} {us : List Value} {i : Nat} {x : V}, Vals xs us → xs[i]? = some x → ∃ u, us[i]? = some u ∧ RelV x u
  | _, _, _, _, .nil, e => by simp at e
  | _, _, 0, _, .cons r _, e => by simp at e; subst e; exact ⟨_, rfl, r⟩
  | _, _, i + 1, x, .cons _ t, e => by
    obtain ⟨u, h1, h2⟩ := Vals.get (i := i) (x := x) t (by simpa using e)
    exact ⟨u, by simpa using h1, h2⟩
theorem Vals.set {x : V} {u : Value} (r : RelV x u) : ∀ {xs : List V} {us : List Value} (i : Nat), Vals xs us → Vals (xs.set i x) (us.set i u)
  | _, _, _, .nil => .nil
  | _, _, 0, .cons _ t => .cons r t
  | _, _, i + 1, .cons q t => .cons q (Vals.set r i t)
theorem Vals.append : ∀ {xs ys : List V} {us ws : List Value}, Vals xs us → Vals ys ws → Vals (xs ++ ys) (us ++ ws)
  | _, _, _, _, .nil, s => s
  | _, _, _, _, .cons r t, s => .cons r (Vals.append t s)
theorem Vals.take : ∀ {xs : List V} {us : List Value} (n : Nat), Vals xs us → Vals (xs.take n) (us.take n)
  | _, _, 0, _ => .nil
  | _, _, _ + 1, .nil => .nil
  | _, _, n + 1, .cons r t => .cons r (Vals.take n t)
theorem Vals.drop : ∀ {xs : List V} {us : List Value} (n : Nat), Vals xs us → Vals (xs.drop n) (us.drop n)
  | _, _, 0, r => r
  | _, _, _ + 1, .nil => .nil
  | _, _, n + 1, .cons _ t => Vals.drop n t
theorem Vals.none_of : ∀ {xs : List V} {us : List Value} {i : Nat}, Vals xs us → xs[i]? = none → us[i]? = none := fun {xs us i} r e => by
  have h1 := r.length
  have h2 : xs.length ≤ i := List.getElem?_eq_none_iff.mp e
  exact List.getElem?_eq_none_iff.mpr (by omega)

noncomputable def RelO : Option V → Option Value → Prop
  | some v, some u => RelV v u
  | none, none => True
  | _, _ => False
noncomputable def KV {κ : Type} : List (κ × V) → List (κ × Value) → Prop := Paired fun (p : κ × V) (q : κ × Value) => p.1 = q.1 ∧ RelV p.2 q.2

/-- a key of a dict (00_mix): an int or a text -/
noncomputable def kV : Key → V
  | .inl i => .int i
  | .inr x => .str x

/-- what stands at a tracked address -/
inductive HO where
  /-- a list -/
  | lst (xs : List V)
  /-- a tuple (never changes) -/
  | tup (xs : List V)
  /-- a dict whose keys are ints and texts; one whose keys are tuples of ints and texts (the empty one is both) -/
  | dK (kvs : List (Key × V)) | dT (kvs : List (List Key × V))
  /-- a set of ints: its members, its size -/
  | set (S : Int → Bool) (n : Nat)
  /-- an instance of the class at C, its dict at dx, its attributes -/
  | ins (C dx : Addr) (fs : List (Str × V))
  /-- the dict of the instance at x -/
  | own (x : Addr)
  /-- the dict of an exception -/
  | xd (fs : List (Str × V))
  /-- a bound method, f of x -/
  | met (f x : Addr)
  /-- a range object lo, lo + 1, .. below hi -/
  | rng (lo hi : Int)
  /-- a thing that is known to the object (the script; a dict while a loop walks it): read, never written while it is so -/
  | frz (o : Obj) (u : HO)
  /-- a code object's table -/
  | tbl (ps : Array Value)
  /-- any other thing, by what is true of its one object (a def of one's own: SetO a S n := HO.ext fun h => ..) -/
  | ext (φ : Heap → Prop)

noncomputable abbrev Hp := Addr → Option HO
noncomputable def upd (H : Hp) (a : Addr) (o : HO) : Hp := fun b => if b = a then some o else H b
theorem upd_same {H : Hp} {a : Addr} {o : HO} : upd H a o a = some o := by unfold upd; rw [if_pos rfl]
theorem upd_ne {H : Hp} {a b : Addr} {o : HO} (h : b ≠ a) : upd H a o b = H b := by unfold upd; rw [if_neg h]
/-- two objects of different content stand apart -/
theorem ne_of_none {H : Hp} {a b : Addr} {o : HO} (h : H a = some o) (h' : H b = none) : a ≠ b := by
  intro e; subst e; rw [h] at h'; cases h'

section
variable (P : Program) (w : World)
noncomputable def ObjOk (H : Hp) (h : Heap) (a : Addr) : HO → Prop
  | .lst xs => xs.length ≤ sizeLine ∧ ∃ (its : List Value) (n : Nat), Vals xs its ∧ h.get? a = some { cls := .type "list", data := .seq its.toArray n }
  | .tup xs => xs.length ≤ sizeLine ∧ ∃ its : List Value, Vals xs its ∧ IsTup h a its.toArray
  | .dK kvs => kvs.length ≤ sizeLine ∧ (a == sysModules) = false ∧ ∃ vs, KV kvs vs ∧ h.DictOf (mixKind P w) a vs
  | .dT kvs => kvs.length ≤ sizeLine ∧ (a == sysModules) = false ∧ ∃ xs : List (List Key × Addr × Value),
      Paired (fun (p : List Key × V) (q : List Key × Addr × Value) => p.1 = q.1 ∧ H q.2.1 = some (.tup (p.1.map kV)) ∧ RelV p.2 q.2.2) kvs xs ∧
      ∃ o es ep, h.get? a = some o ∧ o.ExactDict ∧ o.data = .dict es ep ∧ es.toList = xs.map (entryOfKey (tupleKind (mixKind P w))) ∧ (xs.map (·.1)).Nodup
  | .set S n => h.SetOf (intKind P w) a S n
  | .ins C dx fs => H dx = some (.own a) ∧ fs.length ≤ 1000 ∧ dx ≠ a ∧ h.get? a = some (PySem.W.instObj C dx) ∧
      ∃ mA, h.Ns1 dx mA ∧ (∀ f, RelO (fs.lookup f) (mA f)) ∧ PySem.Within mA (fs.map (·.1))
  | .own _ => ∃ o, h.get? a = some o
  | .xd fs => ∃ mA, h.Ns1 a mA ∧ ∀ f, RelO (fs.lookup f) (mA f)
  | .rng lo hi => ∃ t u v, h.get? a = some { cls := .type "range", data := .fields #[.int lo t, .int hi u, .int 1 v] }
  | .frz o u => h.get? a = some o ∧ ObjOk H h a u
  | .tbl ps => h.get? a = some { cls := .none, data := .fields ps }
  | .met f x => h.get? a = some (PySem.W.methodObj (.ref f) (.ref x))
  | .ext φ => φ h ∧ (∃ o, h.get? a = some o) ∧ ∀ h1 h2 : Heap, φ h1 → (∀ o, h1.get? a = some o → h2.get? a = some o) → φ h2
/-- the abstract heap is held -/
noncomputable def HOk (H : Hp) (h : Heap) : Prop := ∀ a o, H a = some o → ObjOk P w H h a o
end

section
variable {P : Program} {w : World} {H H' : Hp} {h h' : Heap} {a : Addr} {o : HO}
theorem ObjOk.lt (x : ObjOk P w H h a o) : a < h.objs.size := by
  cases o with
  | lst xs => obtain ⟨_, _, _, _, e⟩ := x; exact Heap.lt_size e
  | tup xs => obtain ⟨_, _, _, p⟩ := x; exact p.lt
  | dK kvs => obtain ⟨_, _, _, _, o, _, _, e, _⟩ := x; exact Heap.lt_size e
  | dT kvs => obtain ⟨_, _, _, _, o, _, _, e, _⟩ := x; exact Heap.lt_size e
  | set S n => obtain ⟨o, _, _, _, e, _⟩ := x; exact Heap.lt_size e
  | ins C dx fs => obtain ⟨_, _, _, e, _⟩ := x; exact Heap.lt_size e
  | own y => obtain ⟨_, e⟩ := x; exact Heap.lt_size e
  | xd fs => obtain ⟨_, ⟨_, _, _, e, _⟩, _⟩ := x; exact Heap.lt_size e
  | rng lo hi => obtain ⟨_, _, _, e⟩ := x; exact Heap.lt_size e
  | frz ob u => obtain ⟨e, _⟩ := x; exact Heap.lt_size e
  | tbl ps => exact Heap.lt_size (show h.get? a = some _ from x)
  | met f y => exact Heap.lt_size (show h.get? a = some _ from x)
  | ext φ => obtain ⟨_, ⟨_, e⟩, _⟩ := x; exact Heap.lt_size e
theorem Paired.mapP {α β : Type} {F G : α → β → Prop} : ∀ {l₁ : List α} {l₂ : List β}, Paired F l₁ l₂ → (∀ a b, F a b → G a b) → Paired G l₁ l₂
  | _, _, .nil, _ => .nil
  | _, _, .cons r t, f => .cons (f _ _ r) (Paired.mapP t f)
/-- what an object's description leans on: its own object, its own dict, the tuples -/
theorem ObjOk.stay (x : ObjOk P w H h a o) (k : ∀ b u, (b = a ∨ H b = some (.own a)) → h.get? b = some u → h'.get? b = some u)
    (ho : ∀ b, H b = some (.own a) → H' b = some (.own a)) (ht : ∀ b xs, H b = some (.tup xs) → H' b = some (.tup xs)) : ObjOk P w H' h' a o := by
  induction o with
  | lst xs => obtain ⟨z, its, n, r, e⟩ := x; exact ⟨z, its, n, r, k _ _ (.inl rfl) e⟩
  | tup xs => obtain ⟨z, its, r, ob, e, c⟩ := x; exact ⟨z, its, r, ob, k _ _ (.inl rfl) e, c⟩
  | dK kvs => obtain ⟨z, y, vs, r, ob, es, ep, e, c⟩ := x; exact ⟨z, y, vs, r, ob, es, ep, k _ _ (.inl rfl) e, c⟩
  | dT kvs =>
    obtain ⟨z, y, xs, r, ob, es, ep, e, c⟩ := x
    exact ⟨z, y, xs, Paired.mapP r fun p q z => ⟨z.1, ht _ _ z.2.1, z.2.2⟩, ob, es, ep, k _ _ (.inl rfl) e, c⟩
  | set S n => obtain ⟨ob, es, ep, t, e, c⟩ := x; exact ⟨ob, es, ep, t, k _ _ (.inl rfl) e, c⟩
  | ins C dx fs =>
    obtain ⟨d, z, ne, e, mA, ⟨od, es, ep, e2, c⟩, r⟩ := x
    exact ⟨ho _ d, z, ne, k _ _ (.inl rfl) e, mA, ⟨od, es, ep, k _ _ (.inr d) e2, c⟩, r⟩
  | own y => obtain ⟨ob, e⟩ := x; exact ⟨ob, k _ _ (.inl rfl) e⟩
  | xd fs => obtain ⟨mA, ⟨od, es, ep, e, c⟩, r⟩ := x; exact ⟨mA, ⟨od, es, ep, k _ _ (.inl rfl) e, c⟩, r⟩
  | rng lo hi => obtain ⟨t, u, v, e⟩ := x; exact ⟨t, u, v, k _ _ (.inl rfl) e⟩
  | frz ob u ih => obtain ⟨e, q⟩ := x; exact ⟨k _ _ (.inl rfl) e, ih q⟩
  | tbl ps =>
    have e : h.get? a = some { cls := .none, data := .fields ps } := x
    show h'.get? a = some { cls := .none, data := .fields ps }
    exact k a _ (.inl rfl) e
  | met f y =>
    have e : h.get? a = some (PySem.W.methodObj (.ref f) (.ref y)) := x
    show h'.get? a = some (PySem.W.methodObj (.ref f) (.ref y))
    exact k a _ (.inl rfl) e
  | ext φ => obtain ⟨p, ⟨o, e⟩, st⟩ := x; exact ⟨st _ _ p fun o q => k _ _ (.inl rfl) q, ⟨o, k _ _ (.inl rfl) e⟩, st⟩
theorem HOk.lt (x : HOk P w H h) (e : H a = some o) : a < h.objs.size := (x a o e).lt
theorem HOk.fresh (x : HOk P w H h) (e : h.objs.size ≤ a) : H a = none := by
  cases q : H a with
  | none => rfl
  | some u => exact absurd (Nat.lt_of_lt_of_le (x.lt q) e) (Nat.lt_irrefl _)
/-- every object of the heap is kept -/
theorem HOk.kept (x : HOk P w H h) (k : ∀ b u, h.get? b = some u → h'.get? b = some u) : HOk P w H h' := fun a o e =>
  (x a o e).stay (fun b u _ q => k b u q) (fun _ q => q) fun _ _ q => q
/-- a new object is laid and tracked -/
theorem HOk.laid (x : HOk P w H h) (k : ∀ b u, h.get? b = some u → h'.get? b = some u) (hp : h.objs.size ≤ a) (new : ObjOk P w (upd H a o) h' a o) : HOk P w (upd H a o) h' := fun b u e => by
  have hn := x.fresh hp
  by_cases hb : b = a
  · subst hb; rw [upd_same] at e; cases e; exact new
  · rw [upd_ne hb] at e
    exact (x b u e).stay (fun c v _ q => k c v q) (fun c q => by rw [upd_ne (ne_of_none q hn)]; exact q) fun c xs q => by rw [upd_ne (ne_of_none q hn)]; exact q
end

/-- what may be read as u: it is u, or a known u -/
noncomputable def Rd (H : Hp) (a : Addr) (u : HO) : Prop := H a = some u ∨ ∃ o, H a = some (.frz o u)
theorem Rd.of {H : Hp} {a : Addr} {u : HO} (h : H a = some u) : Rd H a u := .inl h
theorem Rd.ok {P : Program} {w : World} {H : Hp} {h : Heap} {a : Addr} {u : HO} (r : Rd H a u) (x : HOk P w H h) : ObjOk P w H h a u := by
  rcases r with r | ⟨o, r⟩
  · exact x a u r
  · obtain ⟨_, q⟩ := x a _ r
    exact q
/-- what may be written -/
noncomputable def Mut : Option HO → Prop
  | some (.lst _) => True
  | some (.dK _) => True
  | some (.dT _) => True
  | some (.set _ _) => True
  | some (.ins _ _ _) => True
  | some (.ext _) => True
  | _ => False
section
variable {P : Program} {w : World} {H : Hp} {h h' : Heap} {x e : Addr} {o' : HO}
/-- the object at e is changed: x itself, or the dict of the instance x -/
theorem HOk.write (ok : HOk P w H h) (mu : Mut (H x)) (he : e = x ∨ H e = some (.own x)) (k : ∀ b u, b ≠ e → h.get? b = some u → h'.get? b = some u) (heo : ∃ u, h'.get? e = some u)
    (new : ObjOk P w (upd H x o') h' x o') : HOk P w (upd H x o') h' := fun b u q => by
  have nown : ∀ c y, H c = some (.own y) → c ≠ x := fun c y r z => by subst z; rw [r] at mu; exact mu
  have ntup : ∀ c xs, H c = some (.tup xs) → c ≠ x := fun c xs r z => by subst z; rw [r] at mu; exact mu
  by_cases hb : b = x
  · subst hb; rw [upd_same] at q; cases q; exact new
  · rw [upd_ne hb] at q
    by_cases hbe : b = e
    · have q' : H b = some (.own x) := by
        rcases he with z | z
        · exact absurd (hbe.trans z) hb
        · rw [hbe]; exact z
      rw [q] at q'; cases q'
      obtain ⟨v, hv⟩ := heo
      exact ⟨v, by rw [hbe]; exact hv⟩
    · refine (ok b u q).stay (fun c v hc r => k c v ?_ r) (fun c r => by rw [upd_ne (nown c b r)]; exact r) fun c xs r => by rw [upd_ne (ntup c xs r)]; exact r
      rcases hc with rfl | hc
      · exact hbe
      · rintro rfl
        rcases he with z | z
        · exact nown c b hc z
        · rw [hc] at z; cases z; exact hb rfl
end

/-! ### kept unless tracked; of the frames at fs (the callers') the slots may change (an exception that passes writes there); of the records at ex (iterators) nothing is said -/
structure Un (fs ex : List Addr) (H H' : Hp) (h h' : Heap) : Prop where
  keep : ∀ b o, h.get? b = some o → H b = none → b ∉ fs → b ∉ ex → h'.get? b = some o
  slot : ∀ b o, h.get? b = some o → H b = none → b ∈ fs → b ∉ ex → ∃ sl, h'.get? b = some { o with slots := sl }
  free : ∀ b o, h.get? b = some o → H b = none → b ∉ ex → H' b = none
  there : ∀ b o, h.get? b = some o → b ∉ ex → ∃ o', h'.get? b = some o'
  tups : ∀ b xs, H b = some (.tup xs) → H' b = some (.tup xs)
  frzs : ∀ b o u, H b = some (.frz o u) → H' b = some (.frz o u)
  tbls : ∀ b ps, H b = some (.tbl ps) → ∃ more, H' b = some (.tbl (ps ++ more))
section
variable {fs fs' ex ex' : List Addr} {H H1 H2 : Hp} {h h1 h2 h' : Heap} {a x e : Addr} {o : HO}
theorem Un.any (u : Un fs ex H H1 h h1) {b : Addr} {ob : Obj} (q : h.get? b = some ob) (n : H b = none) (hx : b ∉ ex) : ∃ sl, h1.get? b = some { ob with slots := sl } := by
  by_cases hb : b ∈ fs
  · exact u.slot b ob q n hb hx
  · exact ⟨ob.slots, u.keep b ob q n hb hx⟩
theorem Un.trans (a : Un fs ex H H1 h h1) (b : Un fs ex H1 H2 h1 h2) : Un fs ex H H2 h h2 where
  keep := fun c ob q n hc hx => b.keep c ob (a.keep c ob q n hc hx) (a.free c ob q n hx) hc hx
  slot := fun c ob q n hc hx => by
    obtain ⟨sl, e1⟩ := a.slot c ob q n hc hx
    obtain ⟨sl', e2⟩ := b.slot c _ e1 (a.free c ob q n hx) hc hx
    exact ⟨sl', e2⟩
  free := fun c ob q n hx => by
    obtain ⟨o', e1⟩ := a.there c ob q hx
    exact b.free c o' e1 (a.free c ob q n hx) hx
  there := fun c ob q hx => by
    obtain ⟨o', e1⟩ := a.there c ob q hx
    exact b.there c o' e1 hx
  tups := fun c xs q => b.tups c xs (a.tups c xs q)
  frzs := fun c ob xs q => b.frzs c ob xs (a.frzs c ob xs q)
  tbls := fun c ps q => by
    obtain ⟨m1, e1⟩ := a.tbls c ps q
    obtain ⟨m2, e2⟩ := b.tbls c _ e1
    exact ⟨m1 ++ m2, by rw [e2, Array.append_assoc]⟩
theorem Un.kept (k : ∀ b u, h.get? b = some u → h'.get? b = some u) : Un fs ex H H h h' :=
  ⟨fun b ob q _ _ _ => k b ob q, fun b ob q _ _ _ => ⟨ob.slots, k b ob q⟩, fun _ _ _ n _ => n, fun b ob q _ => ⟨ob, k b ob q⟩, fun _ _ q => q, fun _ _ _ q => q, fun _ ps q => ⟨#[], by rw [q]; simp⟩⟩
theorem Un.refl : Un fs ex H H h h := Un.kept fun _ _ q => q
theorem Un.laid (k : ∀ b u, h.get? b = some u → h'.get? b = some u) (hp : h.objs.size ≤ a) (hn : H a = none) : Un fs ex H (upd H a o) h h' where
  keep := fun b u q _ _ _ => k b u q
  slot := fun b u q _ _ _ => ⟨u.slots, k b u q⟩
  free := fun b u q n _ => by rw [upd_ne (Nat.ne_of_lt (Nat.lt_of_lt_of_le (Heap.lt_size q) hp))]; exact n
  there := fun b u q _ => ⟨u, k b u q⟩
  tups := fun b xs q => by rw [upd_ne (ne_of_none q hn)]; exact q
  frzs := fun b u xs q => by rw [upd_ne (ne_of_none q hn)]; exact q
  tbls := fun b ps q => ⟨#[], by rw [upd_ne (ne_of_none q hn), q]; simp⟩
theorem Un.write (mu : Mut (H x)) (he : e = x ∨ H e = some (.own x)) (k : ∀ b u, b ≠ e → h.get? b = some u → h'.get? b = some u) (heo : ∃ u, h'.get? e = some u) : Un fs ex H (upd H x o) h h' := by
  have hx : ∀ b, H b = none → b ≠ x := fun b n z => by subst z; rw [n] at mu; exact mu
  have hb : ∀ b, H b = none → b ≠ e := fun b n z => by
    subst z
    rcases he with r | r
    · exact hx b n r
    · rw [n] at r; cases r
  have hm : ∀ b u, H b = some u → ¬ Mut (some u) → b ≠ x := fun b u q nm z => by subst z; rw [q] at mu; exact nm mu
  refine ⟨fun b u q n _ _ => k b u (hb b n) q, fun b u q n _ _ => ⟨u.slots, k b u (hb b n) q⟩, fun b u q n _ => by rw [upd_ne (hx b n)]; exact n, fun b u q _ => ?_,
    fun b xs q => by rw [upd_ne (hm b _ q fun z => z)]; exact q, fun b u xs q => by rw [upd_ne (hm b _ q fun z => z)]; exact q, fun b ps q => ⟨#[], by rw [upd_ne (hm b _ q fun z => z), q]; simp⟩⟩
  by_cases hbe : b = e
  · subst hbe; exact heo
  · exact ⟨u, k b u hbe q⟩
theorem Un.mono (u : Un fs ex H H1 h h1) (hs : ∀ b ∈ fs, b ∈ fs') (hx : ∀ b ∈ ex, b ∈ ex') : Un fs' ex' H H1 h h1 :=
  ⟨fun b ob q n hb he => u.keep b ob q n (fun z => hb (hs b z)) fun z => he (hx b z), fun _ _ q n _ he => u.any q n fun z => he (hx _ z), fun b ob q n he => u.free b ob q n fun z => he (hx b z), fun b ob q he => u.there b ob q fun z => he (hx b z), u.tups, u.frzs, u.tbls⟩
end

/-! ### the heap without what is tracked -/
noncomputable def trk (h : Heap) (H : Hp) : List Addr := (List.range h.objs.size).filter fun a => (H a).isSome
noncomputable def hidT (h : Heap) (H : Hp) : Heap := PySem.W.hideAll h (trk h H)
theorem hidT_size (h : Heap) (H : Hp) : (hidT h H).objs.size = h.objs.size := PySem.W.hideAll_size _ _
theorem hidT_get {h : Heap} {H : Hp} {b : Addr} {o : Obj} (e : h.get? b = some o) (n : H b = none) : (hidT h H).get? b = some o :=
  PySem.W.hideAll_get _ e fun hm => by
    have q : (H b).isSome = true := (List.mem_filter.mp hm).2
    rw [n] at q; simp at q
theorem of_hidT {h : Heap} {H : Hp} {b : Addr} {o : Obj} (e : (hidT h H).get? b = some o) : h.get? b = some o ∧ H b = none := by
  have e' : h.get? b = some o := PySem.W.of_hideAll (trk h H) e
  refine ⟨e', ?_⟩
  cases q : H b with
  | none => rfl
  | some x =>
    have hm : b ∈ trk h H := List.mem_filter.mpr ⟨List.mem_range.mpr (Heap.lt_size e'), by simp [q]⟩
    have z : (hidT h H).get? b = none := PySem.W.hideAll_none (trk h H) hm
    rw [z] at e; cases e

/-! ### OpenK's ledger, filled with every new object but one -/
noncomputable def allNews (g h : Heap) (L : Addr) : List (Addr × Obj) := (List.range h.objs.size).filterMap fun a => if a = L ∨ (g.get? a).isSome = true then none else (h.get? a).map fun o => (a, o)
noncomputable def rest (g h : Heap) (L d : Addr) : List (Addr × Obj) := (allNews g h L).filter fun p => decide (p.1 ≠ d)
end L2

namespace L2
open PySem PySem.Spec PyProof.Rows

/-- the module's facts, over the base: the heap at the law's entry without what is tracked there -/
structure Mod (K : PySem.W.Frag) (mg : Str → Option Value) (base : Heap) : Prop where
  kin : K.In base
  glob : base.Ns mainGlobals mg
  blt : ∃ mb, base.Ns builtinsNs mb ∧ ∀ x : Str, x ≠ "__name__" → mb x = bootBuiltins x
  nolimit : base.NoLimit

/-- the context: a def's body (or a comprehension's block) running. base: fixed through the whole law; s₀, H₀: the entry; outer: the frames whose slots others may change (a def's callers); stack: all frames that run;
   ex: iterators that were made ahead of the entry and are walked here (a comprehension's); fn: the names whose cells were made at the entry (a def: all; a comprehension's block: its own); calm: not within an except suite; pn: pins that every state bears; xe: what is wanted of an exception that leaves the code -/
structure Cx where
  prog : Program
  w : World
  K : PySem.W.Frag
  mg : Str → Option Value
  base : Heap
  A : Around
  N : List Str
  s₀ : Shared
  H₀ : Hp
  env : Env
  outer : List Env
  stack : List Env
  ex : List Addr
  fn : Str → Bool
  calm : Bool
  pn : List (Addr × Obj)
  xe : Value → Shared → Prop
/-- the callers' frames -/
noncomputable def frs (l : List Env) : List Addr := l.filterMap (·.frame)
noncomputable abbrev Cx.fs (X : Cx) : List Addr := frs X.outer

noncomputable def Vis (sc : Scope) (x : Str) : Prop := sc.names.lookup x = some .local ∨ sc.names.lookup x = some .cell ∨ sc.names.lookup x = some .free
noncomputable def Loc (sc : Scope) (x : Str) : Prop := sc.names.lookup x = some .local ∨ sc.names.lookup x = some .cell
noncomputable def Look (env : Env) (h : Heap) (m : Str → Option Value) (x : Str) (u : Value) : Prop :=
  (env.kindOf x = some .local ∧ m x = some u) ∨ ((env.kindOf x = some .cell ∨ env.kindOf x = some .free) ∧ ∃ c, env.cells.lookup x = some c ∧ h.IsCell c (some u))

structure Cx.Ok (X : Cx) : Prop where
  mod : Mod X.K X.mg X.base
  kind : X.env.scope.kind = .function
  glob : X.env.globals = mainGlobals
  blt : X.env.builtins = builtinsNs
  above : X.s₀.heap.objs.size ≤ X.env.locals
  inj : ∀ x y c, X.env.cells.lookup x = some c → X.env.cells.lookup y = some c → x = y
  has : ∀ x, (X.env.kindOf x = some .cell ∨ X.env.kindOf x = some .free) → ∃ c, X.env.cells.lookup x = some c
  cab : ∀ x c, X.fn x = true → X.env.cells.lookup x = some c → X.s₀.heap.objs.size ≤ c
  hd : X.calm = true → X.A.handled = none
  frames : X.A.frames = some X.stack
  stk : X.stack = X.outer ∨ (X.stack = X.env :: X.outer ∧ X.env.frame = some X.env.locals)
  exf : ∀ b ∈ X.ex, b ≠ X.env.locals ∧ ∀ x c, X.env.cells.lookup x = some c → c ≠ b
  bs : ∀ b o, X.base.get? b = some o → X.s₀.heap.get? b = some o ∧ X.H₀ b = none
  bsz : X.base.objs.size ≤ X.s₀.heap.objs.size
  noex : ∀ b o, X.base.get? b = some o → b ∉ X.ex
  exfs : ∀ b ∈ X.ex, b ∉ X.fs
  funs : X.s₀.heap.FunFrames X.base X.outer
  frf : ∀ b ∈ X.fs, X.H₀ b = none

structure Inv (X : Cx) (pins : List (Addr × Obj)) (σ : List (Option V)) (H : Hp) (s : Shared) : Prop where
  ok : X.Ok
  os : s.os = X.s₀.os
  bare : AllBare s.gens
  base : Un X.fs X.ex X.H₀ H X.s₀.heap s.heap
  loc : ∃ m, s.heap.Ns X.env.locals m ∧ ∀ (i : Nat) (x : Str) (v : V), X.N[i]? = some x → σ[i]? = some (some v) → Vis X.env.scope x → ∃ u, RelV v u ∧ Look X.env s.heap m x u
  cell : ∀ x c, X.env.cells.lookup x = some c → ∃ v, s.heap.IsCell c v
  free : H X.env.locals = none
  freeC : ∀ x c, X.env.cells.lookup x = some c → H c = none
  pin : ∀ p ∈ X.pn ++ pins, s.heap.get? p.1 = some p.2 ∧ H p.1 = none ∧ p.1 ≠ X.env.locals ∧ p.1 ∉ X.fs ∧ ∀ v, p.2.data ≠ .cell v
  hok : HOk X.prog X.w H s.heap
  len : σ.length = X.N.length

section
variable {X : Cx} {pins : List (Addr × Obj)} {σ : List (Option V)} {H H' : Hp} {s : Shared} {h' : Heap}

theorem Cx.Ok.nofr (ok : X.Ok) {b : Addr} {o : Obj} (e : X.base.get? b = some o) : b ∉ X.fs := fun hb => by
  have := (ok.funs.mem hb).1
  rw [e] at this; cases this
theorem Inv.bs (I : Inv X pins σ H s) : ∀ b o, X.base.get? b = some o → s.heap.get? b = some o ∧ H b = none := fun b o e =>
  ⟨I.base.keep b o (I.ok.bs b o e).1 (I.ok.bs b o e).2 (I.ok.nofr e) (I.ok.noex b o e), I.base.free b o (I.ok.bs b o e).1 (I.ok.bs b o e).2 (I.ok.noex b o e)⟩
theorem Inv.bk (I : Inv X pins σ H s) : ∀ b o, X.base.get? b = some o → s.heap.get? b = some o := fun b o e => (I.bs b o e).1
theorem Inv.mod (I : Inv X pins σ H s) : Mod X.K X.mg X.base := I.ok.mod
theorem Inv.kIn (I : Inv X pins σ H s) : X.K.In s.heap := I.ok.mod.kin.keeps I.bk
/-- the frame over the base: for OpenK's rules (K.In X.base is I.mod.kin) -/
theorem Inv.fr (I : Inv X pins σ H s) : ∃ m, Fr X.base X.env.locals s.heap m :=
  let ⟨m, hn, _⟩ := I.loc
  ⟨m, hn, I.bk, Nat.le_trans I.ok.bsz I.ok.above⟩
theorem Inv.lt (I : Inv X pins σ H s) : X.env.locals < s.heap.objs.size := let ⟨_, hn, _⟩ := I.loc; hn.lt
theorem Inv.sz (I : Inv X pins σ H s) : X.s₀.heap.objs.size ≤ s.heap.objs.size := Nat.le_trans I.ok.above (Nat.le_of_lt I.lt)
theorem Inv.nofs (I : Inv X pins σ H s) {a : Addr} (h : s.heap.objs.size ≤ a) : a ∉ X.fs := fun hb => by
  obtain ⟨_, o, ho, _⟩ := I.ok.funs.mem hb
  exact absurd (Nat.lt_of_lt_of_le (Heap.lt_size ho) (Nat.le_trans I.sz h)) (Nat.lt_irrefl _)
theorem Inv.cne (I : Inv X pins σ H s) : ∀ x c, X.env.cells.lookup x = some c → c ≠ X.env.locals := fun x c e z => by
  obtain ⟨v, o, ho, hd⟩ := I.cell x c e
  obtain ⟨m, ⟨o', es, ep, ho', hd', _⟩, _⟩ := I.loc
  rw [z, ho'] at ho; cases ho; rw [hd'] at hd; cases hd
theorem Inv.funs (I : Inv X pins σ H s) : s.heap.FunFrames X.base X.outer := by
  have all : ∀ (l : List Env), (∀ b ∈ frs l, b ∈ X.fs) → X.s₀.heap.FunFrames X.base l → s.heap.FunFrames X.base l := by
    intro l
    induction l with
    | nil => intro _ _; trivial
    | cons env r ih =>
      intro hs hl
      obtain ⟨hk, ⟨L, o, hf, hn, ho, hd⟩, hr⟩ := hl
      have hL : L ∈ X.fs := hs L (by unfold frs; rw [List.filterMap_cons, hf]; exact List.mem_cons_self)
      obtain ⟨sl, e⟩ := I.base.slot L o ho (I.ok.frf L hL) hL fun z => I.ok.exfs L z hL
      exact ⟨hk, ⟨L, _, hf, hn, e, hd⟩, ih (fun b hb => hs b (by unfold frs; rw [List.filterMap_cons, hf]; exact List.mem_cons_of_mem _ hb)) hr⟩
  exact all X.outer (fun _ hb => hb) I.ok.funs

/-- the frames that run, for a call -/
theorem Inv.stack (I : Inv X pins σ H s) : s.heap.FunFrames X.base X.stack := by
  rcases I.ok.stk with e | ⟨e, hf⟩
  · rw [e]; exact I.funs
  · rw [e]
    obtain ⟨m, hn, _⟩ := I.loc
    refine .cons (by rw [I.ok.kind]; decide) hf hn ?_ I.funs
    exact Heap.get?_none_of_le (Nat.le_trans I.ok.bsz I.ok.above)
theorem Inv.stkSub (I : Inv X pins σ H s) : ∀ b ∈ frs X.stack, b ∈ X.env.locals :: X.fs := fun b hb => by
  rcases I.ok.stk with e | ⟨e, hf⟩
  · rw [e] at hb; exact List.mem_cons_of_mem _ hb
  · rw [e] at hb
    unfold frs at hb
    rw [List.filterMap_cons, hf] at hb
    exact hb
theorem Inv.stkFree (I : Inv X pins σ H s) : ∀ b ∈ frs X.stack, H b = none := fun b hb => by
  rcases List.mem_cons.mp (I.stkSub b hb) with e | hb
  · rw [e]; exact I.free
  · obtain ⟨_, o, ho, _⟩ := I.ok.funs.mem hb
    exact I.base.free b o ho (I.ok.frf b hb) fun z => I.ok.exfs b z hb

/-- THE STEP: the untracked objects but the frame and the records at ch are kept (the callers' frames up to slots), the frame's map is kept, the new abstract heap is held -/
theorem Inv.step {g' : Array GenState} {t' : Nat} {d' : Drawn} {ch : List Addr} (I : Inv X pins σ H s)
    (hch : ∀ b ∈ ch, (b ∈ X.ex ∨ X.s₀.heap.objs.size ≤ b) ∧ b ≠ X.env.locals ∧ (∀ x c, X.env.cells.lookup x = some c → c ≠ b) ∧ ∀ p ∈ X.pn ++ pins, p.1 ≠ b)
    (keep : ∀ b o, b ≠ X.env.locals → b ∉ X.fs → b ∉ ch → s.heap.get? b = some o → H b = none → h'.get? b = some o)
    (slot : ∀ b o, b ≠ X.env.locals → b ∈ X.fs → b ∉ ch → s.heap.get? b = some o → H b = none → ∃ sl, h'.get? b = some { o with slots := sl }) (free : ∀ b o, b ∉ ch → s.heap.get? b = some o → H b = none → H' b = none)
    (there : ∀ b o, b ∉ ch → s.heap.get? b = some o → ∃ o', h'.get? b = some o')
    (tups : ∀ b xs, H b = some (.tup xs) → H' b = some (.tup xs)) (frzs : ∀ b o u, H b = some (.frz o u) → H' b = some (.frz o u)) (tbls : ∀ b ps, H b = some (.tbl ps) → ∃ more, H' b = some (.tbl (ps ++ more)))
    (ns : ∀ m, s.heap.Ns X.env.locals m → h'.Ns X.env.locals m) (hok : HOk X.prog X.w H' h') (hg : AllBare g') :
    Inv X pins σ H' { s with heap := h', gens := g', drawn := d', toks := t' } := by
  have neL : ∀ b o, X.s₀.heap.get? b = some o → b ≠ X.env.locals := fun b o e => Nat.ne_of_lt (Nat.lt_of_lt_of_le (Heap.lt_size e) I.ok.above)
  have neC : ∀ b o, X.s₀.heap.get? b = some o → b ∉ X.ex → b ∉ ch := fun b o e hx hb => by
    rcases (hch b hb).1 with z | z
    · exact hx z
    · exact absurd (Nat.lt_of_lt_of_le (Heap.lt_size e) z) (Nat.lt_irrefl _)
  have cellK : ∀ x c, X.env.cells.lookup x = some c → ∀ v, s.heap.IsCell c v → h'.IsCell c v := fun x c e v ⟨o, ho, hd⟩ => by
    have nch : c ∉ ch := fun z => (hch c z).2.2.1 x c e rfl
    by_cases hc : c ∈ X.fs
    · obtain ⟨sl, q⟩ := slot c o (I.cne x c e) hc nch ho (I.freeC x c e)
      exact ⟨_, q, hd⟩
    · exact ⟨o, keep c o (I.cne x c e) hc nch ho (I.freeC x c e), hd⟩
  refine ⟨I.ok, I.os, hg, ⟨fun b o e n hb hx => ?_, fun b o e n hb hx => ?_, fun b o e n hx => ?_, fun b o e hx => ?_, fun b xs e => tups b xs (I.base.tups b xs e), fun b o xs e => frzs b o xs (I.base.frzs b o xs e), fun b ps e => ?_⟩, ?_, fun x c e => ?_, ?_, fun x c e => ?_, fun p hp => ?_, hok, I.len⟩
  · exact keep b o (neL b o e) hb (neC b o e hx) (I.base.keep b o e n hb hx) (I.base.free b o e n hx)
  · obtain ⟨sl, e1⟩ := I.base.slot b o e n hb hx
    obtain ⟨sl', e2⟩ := slot b _ (neL b o e) hb (neC b o e hx) e1 (I.base.free b o e n hx)
    exact ⟨sl', e2⟩
  · obtain ⟨o', e1⟩ := I.base.there b o e hx
    exact free b o' (neC b o e hx) e1 (I.base.free b o e n hx)
  · obtain ⟨o', e1⟩ := I.base.there b o e hx
    exact there b o' (neC b o e hx) e1
  · obtain ⟨m1, e1⟩ := I.base.tbls b ps e
    obtain ⟨m2, e2⟩ := tbls b _ e1
    exact ⟨m1 ++ m2, by rw [e2, Array.append_assoc]⟩
  · obtain ⟨m, hn, hl⟩ := I.loc
    refine ⟨m, ns m hn, fun i x v e1 e2 e3 => ?_⟩
    obtain ⟨u, r, l⟩ := hl i x v e1 e2 e3
    refine ⟨u, r, ?_⟩
    rcases l with l | ⟨k, c, e, z⟩
    · exact .inl l
    · exact .inr ⟨k, c, e, cellK x c e _ z⟩
  · obtain ⟨v, z⟩ := I.cell x c e
    exact ⟨v, cellK x c e v z⟩
  · obtain ⟨m, ⟨o, _, _, ho, _⟩, _⟩ := I.loc
    exact free _ o (fun z => (hch _ z).2.1 rfl) ho I.free
  · obtain ⟨v, o, ho, hd⟩ := I.cell x c e
    exact free c o (fun z => (hch c z).2.2.1 x c e rfl) ho (I.freeC x c e)
  · obtain ⟨e, n, ne, nf, d⟩ := I.pin p hp
    have nch : p.1 ∉ ch := fun z => (hch p.1 z).2.2.2 p hp rfl
    exact ⟨keep p.1 p.2 ne nf nch e n, free p.1 p.2 nch e n, ne, nf, d⟩
/-- .. where the frame's own object is kept too -/
theorem Inv.un {t' : Nat} (I : Inv X pins σ H s) (u : Un X.fs [] H H' s.heap h') (hok : HOk X.prog X.w H' h') : Inv X pins σ H' { s with heap := h', toks := t' } := by
  obtain ⟨m, ⟨o, es, ep, ho, r⟩, _⟩ := id I.loc
  obtain ⟨sl, hL⟩ := u.any ho I.free (by simp)
  exact I.step (g' := s.gens) (d' := s.drawn) (ch := []) (fun _ z => nomatch z) (fun b o _ hb _ e n => u.keep b o e n hb (by simp)) (fun b o _ hb _ e n => u.slot b o e n hb (by simp)) (fun b o _ e n => u.free b o e n (by simp)) (fun b o _ e => u.there b o e (by simp)) u.tups u.frzs u.tbls (fun m' hm => by
    obtain ⟨o', es', ep', ho', r'⟩ := hm
    rw [ho] at ho'; cases ho'
    exact ⟨_, es', ep', hL, r'⟩) hok I.bare
/-- behind a call (or a comprehension's block): the slots of this frame may have changed too, the records at ch may have turned -/
theorem Inv.call {g' : Array GenState} {t' : Nat} {d' : Drawn} {ch : List Addr} (I : Inv X pins σ H s) (u : Un (frs X.stack) ch H H' s.heap h') (hok : HOk X.prog X.w H' h') (hg : AllBare g')
    (hch : ∀ b ∈ ch, (b ∈ X.ex ∨ X.s₀.heap.objs.size ≤ b) ∧ b ≠ X.env.locals ∧ (∀ x c, X.env.cells.lookup x = some c → c ≠ b) ∧ ∀ p ∈ X.pn ++ pins, p.1 ≠ b) :
    Inv X pins σ H' { s with heap := h', gens := g', drawn := d', toks := t' } := by
  obtain ⟨m, ⟨o, es, ep, ho, r⟩, _⟩ := id I.loc
  obtain ⟨sl, hL⟩ := u.any ho I.free fun z => (hch _ z).2.1 rfl
  exact I.step (ch := ch) hch (fun b o hL hb hc e n => u.keep b o e n (fun z => (List.mem_cons.mp (I.stkSub b z)).elim hL hb) hc) (fun b o _ _ hc e n => u.any e n hc) (fun b o hc e n => u.free b o e n hc) (fun b o hc e => u.there b o e hc) u.tups u.frzs u.tbls (fun m' hm => by
    obtain ⟨o', es', ep', ho', r'⟩ := hm
    rw [ho] at ho'; cases ho'
    exact ⟨_, es', ep', hL, r'⟩) hok hg
/-- an untracked record of ours (an iterator) has turned -/
theorem Inv.turned {t' : Nat} {it : Addr} (I : Inv X pins σ H s) (k : ∀ b o, b ≠ it → s.heap.get? b = some o → h'.get? b = some o) (hn : H it = none) (hL : it ≠ X.env.locals)
    (h1 : it ∈ X.ex ∨ X.s₀.heap.objs.size ≤ it) (h2 : ∀ x c, X.env.cells.lookup x = some c → c ≠ it) (h3 : ∀ p ∈ X.pn ++ pins, p.1 ≠ it) : Inv X pins σ H { s with heap := h', toks := t' } := by
  have nit : ∀ b u, H b = some u → b ≠ it := fun b u e z => by rw [z, hn] at e; cases e
  refine I.step (g' := s.gens) (d' := s.drawn) (ch := [it]) (fun b hb => ?_) (fun b o _ _ hc e _ => k b o (fun z => hc (by simp [z])) e) (fun b o _ _ hc e _ => ⟨o.slots, k b o (fun z => hc (by simp [z])) e⟩) (fun _ _ _ _ n => n)
    (fun b o hc e => ⟨o, k b o (fun z => hc (by simp [z])) e⟩) (fun _ _ e => e) (fun _ _ _ e => e) (fun b ps e => ⟨#[], by rw [e]; simp⟩) (fun m hm => ?_) (fun b u e => ?_) I.bare
  · have e : b = it := by simpa using hb
    subst e
    exact ⟨h1, hL, h2, h3⟩
  · obtain ⟨o, es, ep, ho, r⟩ := hm
    exact ⟨o, es, ep, k _ o (Ne.symm hL) ho, r⟩
  · refine (I.hok b u e).stay (fun c v hc q => k c v ?_ q) (fun _ q => q) fun _ _ q => q
    rcases hc with z | z
    · rw [z]; exact nit b u e
    · exact nit c _ z
theorem Inv.tok (I : Inv X pins σ H s) (t : Nat) : Inv X pins σ H { s with toks := t } := I.un (h' := s.heap) (t' := t) Un.refl I.hok
/-- all objects kept -/
theorem Inv.kept {t' : Nat} (I : Inv X pins σ H s) (k : ∀ b u, s.heap.get? b = some u → h'.get? b = some u) : Inv X pins σ H { s with heap := h', toks := t' } := I.un (Un.kept k) (I.hok.kept k)
/-- a new object laid and tracked -/
theorem Inv.laid {a : Addr} {o : HO} {t' : Nat} (I : Inv X pins σ H s) (k : ∀ b u, s.heap.get? b = some u → h'.get? b = some u) (hp : s.heap.objs.size ≤ a) (new : ObjOk X.prog X.w (upd H a o) h' a o) :
    Inv X pins σ (upd H a o) { s with heap := h', toks := t' } := I.un (Un.laid k hp (I.hok.fresh hp)) (I.hok.laid k hp new)
/-- an object written -/
theorem Inv.write {x e : Addr} {o : HO} {t' : Nat} (I : Inv X pins σ H s) (mu : Mut (H x)) (he : e = x ∨ H e = some (.own x)) (k : ∀ b u, b ≠ e → s.heap.get? b = some u → h'.get? b = some u) (heo : ∃ u, h'.get? e = some u)
    (new : ObjOk X.prog X.w (upd H x o) h' x o) : Inv X pins σ (upd H x o) { s with heap := h', toks := t' } := I.un (Un.write mu he k heo) (I.hok.write mu he k heo new)
/-- forgetting slots, pins -/
theorem Inv.pins_of {pins' : List (Addr × Obj)} (I : Inv X pins σ H s) (h : ∀ p ∈ pins', s.heap.get? p.1 = some p.2 ∧ H p.1 = none ∧ p.1 ≠ X.env.locals ∧ p.1 ∉ X.fs ∧ ∀ v, p.2.data ≠ .cell v) : Inv X pins' σ H s :=
  ⟨I.ok, I.os, I.bare, I.base, I.loc, I.cell, I.free, I.freeC, fun p hp => (List.mem_append.mp hp).elim (fun z => I.pin p (List.mem_append_left _ z)) (h p), I.hok, I.len⟩

theorem nodup_ix {N : List Str} (hN : N.Nodup) {i j : Nat} {x : Str} (a : N[i]? = some x) (b : N[j]? = some x) : i = j := by
  obtain ⟨h1, e1⟩ := List.getElem?_eq_some_iff.mp a
  obtain ⟨h2, e2⟩ := List.getElem?_eq_some_iff.mp b
  exact (List.getElem_inj hN).mp (e1.trans e2.symm)

/-- a name is stored; what changed -/
theorem store_ok2 {M : Model} {A : Around} {E : Value → Shared → Prop} {i : Nat} {x : Str} {v : V} {u : Value} {Q : Unit → Shared → Prop} (I : Inv X pins σ H s) (hN : X.N.Nodup) (hi : X.N[i]? = some x) (hx : Loc X.env.scope x) (r : RelV v u)
    (h : ∀ s', Inv X pins (σ.set i (some v)) H s' → (∃ a, Heap.SameBut a s.heap s'.heap ∧ (a = X.env.locals ∨ X.env.cells.lookup x = some a)) → Q () s') (hf : X.fn x = true ∨ X.env.scope.names.lookup x = some .local := by first | exact .inl rfl | exact .inr rfl | assumption) : wpAny M A (storeName X.env x u) Q E s := by
  obtain ⟨m, hn, hl⟩ := id I.loc
  have hcls : (X.env.scope.kind == .class || (X.env.scope.kind == .module && X.env.locals != X.env.globals)) = false := by rw [I.ok.kind]; rfl
  have hiσ : i < σ.length := by rw [I.len]; exact (List.getElem?_eq_some_iff.mp hi).1
  have cne := I.cne
  have tracked : ∀ {a : Addr} {h' : Heap}, (∃ o, s.heap.get? a = some o ∧ H a = none) → Heap.SameBut a s.heap h' → HOk X.prog X.w H h' := fun {a h'} ha hs b ob e => by
    obtain ⟨_, _, hfree⟩ := ha
    refine (I.hok b ob e).stay (fun c w' hc q => (hs.2 c ?_).trans q) (fun _ q => q) fun _ _ q => q
    rintro rfl
    rcases hc with rfl | hc
    · rw [hfree] at e; cases e
    · rw [hfree] at hc; cases hc
  rcases hx with hk | hk
  · refine wpAny_storeName_local hk hn (fun h' hn' hs => ?_) hcls
    obtain ⟨oL, _, _, hoL, _⟩ := id hn
    refine h _ ⟨I.ok, I.os, I.bare, ⟨fun b o e n hb hx => ?_, fun b o e n hb hx => ?_, I.base.free, fun b o e hx => ?_, I.base.tups, I.base.frzs, I.base.tbls⟩, ⟨_, hn', fun j y v' e1 e2 e3 => ?_⟩, fun y c e => ?_, I.free, I.freeC, fun p hp => ?_, tracked ⟨oL, hoL, I.free⟩ hs, by simpa using I.len⟩ ⟨_, hs, .inl rfl⟩
    · exact (hs.2 b (Nat.ne_of_lt (Nat.lt_of_lt_of_le (Heap.lt_size e) I.ok.above))).trans (I.base.keep b o e n hb hx)
    · obtain ⟨sl, e1⟩ := I.base.slot b o e n hb hx
      exact ⟨sl, (hs.2 b (Nat.ne_of_lt (Nat.lt_of_lt_of_le (Heap.lt_size e) I.ok.above))).trans e1⟩
    · obtain ⟨o', e1⟩ := I.base.there b o e hx
      exact ⟨o', (hs.2 b (Nat.ne_of_lt (Nat.lt_of_lt_of_le (Heap.lt_size e) I.ok.above))).trans e1⟩
    · by_cases hj : j = i
      · subst hj
        rw [hi] at e1; cases e1
        rw [List.getElem?_set_self hiσ] at e2
        cases e2
        exact ⟨u, r, .inl ⟨hk, by simp⟩⟩
      · rw [List.getElem?_set_ne (Ne.symm hj)] at e2
        obtain ⟨u', r', q⟩ := hl j y v' e1 e2 e3
        refine ⟨u', r', ?_⟩
        rcases q with ⟨k, e⟩ | ⟨k, c, e, z⟩
        · refine .inl ⟨k, ?_⟩
          have : y ≠ x := fun e => hj (nodup_ix hN e1 (e ▸ hi))
          simp [this, e]
        · exact .inr ⟨k, c, e, z.sameBut hs (cne y c e)⟩
    · obtain ⟨w', z⟩ := I.cell y c e
      exact ⟨w', z.sameBut hs (cne y c e)⟩
    · obtain ⟨e, n, ne, nf, d⟩ := I.pin p hp
      exact ⟨(hs.2 p.1 ne).trans e, n, ne, nf, d⟩
  · have hfn : X.fn x = true := by
      rcases hf with z | z
      · exact z
      · rw [z] at hk; cases hk
    obtain ⟨c, hc⟩ := I.ok.has x (.inl hk)
    obtain ⟨w', z⟩ := I.cell x c hc
    refine wpAny_storeName_cell I.ok.kind hk hc z (fun h' hc' hs => ?_)
    obtain ⟨oc, hoc, hocd⟩ := id z
    refine h { s with heap := h' } ⟨I.ok, I.os, I.bare, ⟨fun b o e n hb hx => ?_, fun b o e n hb hx => ?_, I.base.free, fun b o e hx => ?_, I.base.tups, I.base.frzs, I.base.tbls⟩, ⟨m, hn.sameBut hs (Ne.symm (cne x c hc)), fun j y v' e1 e2 e3 => ?_⟩, fun y c' e => ?_, I.free, I.freeC, fun p hp => ?_, tracked ⟨oc, hoc, I.freeC x c hc⟩ hs, by simpa using I.len⟩ ⟨c, hs, .inr hc⟩
    · exact (hs.2 b (Nat.ne_of_lt (Nat.lt_of_lt_of_le (Heap.lt_size e) (I.ok.cab x c hfn hc)))).trans (I.base.keep b o e n hb hx)
    · obtain ⟨sl, e1⟩ := I.base.slot b o e n hb hx
      exact ⟨sl, (hs.2 b (Nat.ne_of_lt (Nat.lt_of_lt_of_le (Heap.lt_size e) (I.ok.cab x c hfn hc)))).trans e1⟩
    · obtain ⟨o', e1⟩ := I.base.there b o e hx
      exact ⟨o', (hs.2 b (Nat.ne_of_lt (Nat.lt_of_lt_of_le (Heap.lt_size e) (I.ok.cab x c hfn hc)))).trans e1⟩
    · by_cases hj : j = i
      · subst hj
        rw [hi] at e1; cases e1
        rw [List.getElem?_set_self hiσ] at e2
        cases e2
        exact ⟨u, r, .inr ⟨.inl hk, c, hc, hc'⟩⟩
      · rw [List.getElem?_set_ne (Ne.symm hj)] at e2
        obtain ⟨u', r', q⟩ := hl j y v' e1 e2 e3
        refine ⟨u', r', ?_⟩
        rcases q with q | ⟨k, c', e, z'⟩
        · exact .inl q
        · refine .inr ⟨k, c', e, z'.sameBut hs ?_⟩
          rintro rfl
          exact hj (nodup_ix hN e1 (I.ok.inj _ _ _ e hc ▸ hi))
    · by_cases hcc : c' = c
      · subst hcc; exact ⟨_, hc'⟩
      · obtain ⟨w2, z2⟩ := I.cell y c' e
        exact ⟨w2, z2.sameBut hs hcc⟩
    · obtain ⟨e, n, ne, nf, d⟩ := I.pin p hp
      refine ⟨(hs.2 p.1 ?_).trans e, n, ne, nf, d⟩
      intro q
      rw [q, hoc] at e
      have q' : oc = p.2 := Option.some.inj e
      exact d w' (by rw [← q']; exact hocd)
theorem store_ok {M : Model} {A : Around} {E : Value → Shared → Prop} {i : Nat} {x : Str} {v : V} {u : Value} {Q : Unit → Shared → Prop} (I : Inv X pins σ H s) (hN : X.N.Nodup) (hi : X.N[i]? = some x) (hx : Loc X.env.scope x) (r : RelV v u)
    (h : ∀ s', Inv X pins (σ.set i (some v)) H s' → Q () s') (hf : X.fn x = true ∨ X.env.scope.names.lookup x = some .local := by first | exact .inl rfl | exact .inr rfl | assumption) : wpAny M A (storeName X.env x u) Q E s :=
  store_ok2 I hN hi hx r (fun s' I' _ => h s' I') hf
/-- behind a call or a block, the state as it is -/
theorem Inv.call' {s' : Shared} {ch : List Addr} (I : Inv X pins σ H s) (ho : s'.os = s.os) (u : Un (frs X.stack) ch H H' s.heap s'.heap) (hok : HOk X.prog X.w H' s'.heap) (hg : AllBare s'.gens)
    (hch : ∀ b ∈ ch, (b ∈ X.ex ∨ X.s₀.heap.objs.size ≤ b) ∧ b ≠ X.env.locals ∧ (∀ x c, X.env.cells.lookup x = some c → c ≠ b) ∧ ∀ p ∈ X.pn ++ pins, p.1 ≠ b) : Inv X pins σ H' s' := by
  obtain ⟨h', g', d', t', o'⟩ := s'
  have e : o' = s.os := ho
  subst e
  exact I.call (g' := g') (t' := t') (d' := d') u hok hg hch
end

/-! ### the judgements -/
/-- an exception: its class, its own dict's address (where it has one), the abstract heap behind it -/
noncomputable abbrev XK := Value → Option Addr → Hp → Prop
noncomputable abbrev St := List (Option V)
noncomputable abbrev VK := V → Hp → Prop
/-- an expression's reading; a test's; an argument list's -/
noncomputable abbrev TE := St → Hp → VK → Prop
noncomputable abbrev TT := St → Hp → (Bool → Hp → Prop) → Prop
noncomputable abbrev TA := St → Hp → (List V → Hp → Prop) → Prop
/-- what is wanted behind a statement -/
structure Ends where
  nx : St → Hp → Prop
  rt : VK
  bk : St → Hp → Prop := fun _ _ => False
  ct : St → Hp → Prop := fun _ _ => False
noncomputable abbrev TS := Ends → St → Hp → Prop

noncomputable def EP (X : Cx) (pins : List (Addr × Obj)) (σ : St) (Q : VK) (u : Value) (s' : Shared) : Prop := ∃ v H', Inv X pins σ H' s' ∧ RelV v u ∧ Q v H'
noncomputable def TP (X : Cx) (pins : List (Addr × Obj)) (σ : St) (Q : Bool → Hp → Prop) (b : Bool) (s' : Shared) : Prop := ∃ H', Inv X pins σ H' s' ∧ Q b H'
noncomputable def AP (X : Cx) (pins : List (Addr × Obj)) (σ : St) (Q : List V → Hp → Prop) (us : List Value) (s' : Shared) : Prop := ∃ vs H', Inv X pins σ H' s' ∧ Vals vs us ∧ Q vs H'
noncomputable def SP (X : Cx) (pins : List (Addr × Obj)) (D : Ends) (f : Flow) (s' : Shared) : Prop :=
  match f with
  | .next => ∃ σ' H', Inv X pins σ' H' s' ∧ D.nx σ' H'
  | .brk => ∃ σ' H', Inv X pins σ' H' s' ∧ D.bk σ' H'
  | .cont => ∃ σ' H', Inv X pins σ' H' s' ∧ D.ct σ' H'
  | .ret u => ∃ v σ' H', Inv X pins σ' H' s' ∧ RelV v u ∧ D.rt v H'

noncomputable def PE (X : Cx) (e : Expr) (t : TE) : Prop :=
  ∀ (pins : List (Addr × Obj)) (s : Shared) (σ : St) (H : Hp) (Q : VK), Inv X pins σ H s → t σ H Q → wpAny (model X.prog X.w) X.A (eval e X.env) (EP X pins σ Q) X.xe s
noncomputable def PT (X : Cx) (e : Expr) (t : TT) : Prop :=
  ∀ (pins : List (Addr × Obj)) (s : Shared) (σ : St) (H : Hp) (Q : Bool → Hp → Prop), Inv X pins σ H s → t σ H Q → wpAny (model X.prog X.w) X.A (isTrue e X.env (eval e X.env)) (TP X pins σ Q) X.xe s
/-- a test whatever its 'whole' is (and, or) -/
noncomputable def PW (X : Cx) (e : Expr) (t : TT) : Prop :=
  ∀ (whole : Sem Value) (pins : List (Addr × Obj)) (s : Shared) (σ : St) (H : Hp) (Q : Bool → Hp → Prop), Inv X pins σ H s → t σ H Q → wpAny (model X.prog X.w) X.A (isTrue e X.env whole) (TP X pins σ Q) X.xe s
theorem PW.pt {X : Cx} {e : Expr} {t : TT} (h : PW X e t) : PT X e t := h _
/-- an argument list (no star), from the left -/
noncomputable def PA (X : Cx) (es : List Expr) (t : TA) : Prop :=
  ∀ (pos : Pos) (pins : List (Addr × Obj)) (s : Shared) (σ : St) (H : Hp) (Q : List V → Hp → Prop), Inv X pins σ H s → t σ H Q → wpAny (model X.prog X.w) X.A (spliced (backTo pos (starEach es X.env))) (AP X pins σ Q) X.xe s
noncomputable def PS (X : Cx) (st : Stmt) (t : TS) : Prop :=
  ∀ (pins : List (Addr × Obj)) (s : Shared) (σ : St) (H : Hp) (D : Ends), Inv X pins σ H s → t D σ H → wpAny (model X.prog X.w) X.A (exec st X.env) (SP X pins D) X.xe s
noncomputable def PSs (X : Cx) (st : List Stmt) (t : TS) : Prop :=
  ∀ (pins : List (Addr × Obj)) (s : Shared) (σ : St) (H : Hp) (D : Ends), Inv X pins σ H s → t D σ H → wpAny (model X.prog X.w) X.A (execs st X.env) (SP X pins D) X.xe s
/-- weaken the end -/
theorem thn {α : Type} {t : Sem α} {Q Q' : α → Shared → Prop} {M : Model} {A : Around} {E : Value → Shared → Prop} {s : Shared} (h : wpAny M A t Q E s) (hQ : ∀ a s, Q a s → Q' a s) : wpAny M A t Q' E s := wpAny_mono h hQ fun _ _ x => x
end L2

namespace L2
open PySem PySem.Spec PyProof.Rows
section
variable {X : Cx}

/-! ### names and constants -/
noncomputable def tVar (i : Nat) : TE := fun σ H Q => ∃ v, σ[i]? = some (some v) ∧ Q v H
noncomputable def tC (v : V) : TE := fun _ H Q => Q v H
theorem pe_var {i : Nat} {x : Str} {pos : Pos} (hN : X.N[i]? = some x) (hv : Vis X.env.scope x) (hd : (x == ("__debug__" : Str)) = false := by decide) (hcd : (x == ("__classdict__" : Str)) = false := by decide) : PE X (.Name x pos) (tVar i) := by
  intro pins s σ H Q I h
  obtain ⟨v, e, h⟩ := h
  obtain ⟨m, hn, hl⟩ := I.loc
  obtain ⟨u, r, l⟩ := hl i x v hN e hv
  have fin : EP X pins σ Q u s := ⟨v, H, I, r, h⟩
  rcases l with ⟨hk, hm⟩ | ⟨hk, c, hc, hcell⟩
  · exact wpAny_Name (wpAny_loadName_local I.ok.kind hk hn hm fin) hd
  · rcases hk with hk | hk
    · exact wpAny_Name (wpAny_loadName_cell I.ok.kind hk hc hcell fin) hd
    · exact wpAny_Name (wpAny_loadName_free I.ok.kind hk hc hcell fin hcd) hd
theorem pe_int {i j pos} : PE X (.Constant (.int i) j pos) (tC (.int i)) := fun _ _ _ H _ I h => wpAny_Constant_int ⟨.int i, H, I.tok _, ⟨_, rfl⟩, h⟩
theorem pe_bl {b j pos} : PE X (.Constant (.bool b) j pos) (tC (.bl b)) := fun _ _ _ H _ I h => Constant_bool ⟨.bl b, H, I, rfl, h⟩
/-- a global name of the def -/
noncomputable def Gl (X : Cx) (x : Str) : Prop := X.env.kindOf x = some .globalImplicit
theorem ld_glob {E : Value → Shared → Prop} {pins : List (Addr × Obj)} {s : Shared} {σ : St} {H : Hp} {x : Str} {u : Value} {pos : Pos} {Q : Value → Shared → Prop} (I : Inv X pins σ H s) (hg : Gl X x) (hm : X.mg x = some u) (h : Q u s)
    (hd : (x == ("__debug__" : Str)) = false := by decide) : wpAny (model X.prog X.w) X.A (eval (.Name x pos) X.env) Q E s :=
  Calls.Name_function_global I.ok.kind hg (Calls.loadGlobal_global (by rw [I.ok.glob]; exact I.mod.glob.keeps I.bk) hm h) hd
theorem ld_blt {E : Value → Shared → Prop} {pins : List (Addr × Obj)} {s : Shared} {σ : St} {H : Hp} {x : Str} {u : Value} {pos : Pos} {Q : Value → Shared → Prop} (I : Inv X pins σ H s) (hg : Gl X x) (hm : X.mg x = none) (hv : bootBuiltins x = some u) (h : Q u s)
    (hn : x ≠ "__name__" := by decide) (hd : (x == ("__debug__" : Str)) = false := by decide) : wpAny (model X.prog X.w) X.A (eval (.Name x pos) X.env) Q E s := by
  obtain ⟨mb, h1, h2⟩ := I.mod.blt
  exact Calls.Name_function_global I.ok.kind hg (Calls.loadGlobal_builtin (by rw [I.ok.glob]; exact I.mod.glob.keeps I.bk) hm (by rw [I.ok.blt]; exact h1.keeps I.bk) ((h2 x hn).trans hv) h) hd
/-- a module's constant, a class, a function, as a value -/
theorem pe_bltn {x : Str} {v : V} {u : Value} {pos : Pos} (hg : Gl X x) (hm : X.mg x = none) (hv : bootBuiltins x = some u) (r : RelV v u) (hn : x ≠ "__name__" := by decide) (hd : (x == ("__debug__" : Str)) = false := by decide) : PE X (.Name x pos) (tC v) :=
  fun _ _ _ H _ I h => ld_blt I hg hm hv ⟨v, H, I, r, h⟩ hn hd

/-! ### arithmetic -/
variable {a b : Expr} {ta tb : TE} {pos : Pos}
/-! ### comparisons -/
/-- a comparison as a value, as a test -/
noncomputable def tB (t : TE) : TT := fun σ H Q => t σ H fun x H1 => ∃ c, x = .bl c ∧ Q c H1
/-- an expression whose value is a bool, as a test -/
theorem pt_val {e : Expr} {t : TE} (h : PE X e t) (he : ∀ whole, isTrue e X.env whole = (do let v ← whole; standAt e.pos; holding [v] (truthy v)) := by intro _; rfl) : PT X e (tB t) := by
  intro pins s σ H Q I hw
  refine isTrue_plain (thn (h pins s σ H _ I hw) fun v s1 ⟨x, H1, I1, r1, q1⟩ => ?_) (he _)
  obtain ⟨d, rfl, q⟩ := q1
  cases r1
  exact wpAny_truthy_bool ⟨H1, I1, q⟩

/-! ### and, or, not -/
variable {tA tB' : TT} {rest : List Expr}
noncomputable def tAnd (t u : TT) : TT := fun σ H Q => t σ H fun c H1 => if c = true then u σ H1 Q else Q false H1
noncomputable def tOr (t u : TT) : TT := fun σ H Q => t σ H fun c H1 => if c = true then Q true H1 else u σ H1 Q
noncomputable def tNot (t : TT) : TT := fun σ H Q => t σ H fun c H1 => Q (!c) H1
theorem pw_and1 (ha : PT X a tA) : PW X (.BoolOp .And [a] pos) tA := by
  intro wh pins s σ H Q I h
  refine isTrue_and (thn (ha pins s σ H Q I h) fun c s1 e => ?_)
  cases c with
  | true => exact isTrue_and_nil e
  | false => exact e
theorem pw_or1 (ha : PT X a tA) : PW X (.BoolOp .Or [a] pos) tA := by
  intro wh pins s σ H Q I h
  refine isTrue_or (thn (ha pins s σ H Q I h) fun c s1 e => ?_)
  cases c with
  | false => exact isTrue_or_nil e
  | true => exact e
theorem pw_and (ha : PT X a tA) (hb : PW X (.BoolOp .And (b :: rest) pos) tB') : PW X (.BoolOp .And (a :: b :: rest) pos) (tAnd tA tB') := by
  intro wh pins s σ H Q I h
  refine isTrue_and (thn (ha pins s σ H _ I h) fun c s1 ⟨H1, I1, q1⟩ => ?_)
  cases c with
  | true => exact hb wh pins s1 σ H1 Q I1 q1
  | false => exact ⟨H1, I1, q1⟩
theorem pw_or (ha : PT X a tA) (hb : PW X (.BoolOp .Or (b :: rest) pos) tB') : PW X (.BoolOp .Or (a :: b :: rest) pos) (tOr tA tB') := by
  intro wh pins s σ H Q I h
  refine isTrue_or (thn (ha pins s σ H _ I h) fun c s1 ⟨H1, I1, q1⟩ => ?_)
  cases c with
  | true => exact ⟨H1, I1, q1⟩
  | false => exact hb wh pins s1 σ H1 Q I1 q1
theorem pt_not (ha : PT X a tA) : PT X (.UnaryOp .Not a pos) (tNot tA) := by
  intro pins s σ H Q I h
  exact isTrue_not (ha pins s σ H (fun c H1 => Q (!c) H1) I h)
/-- .. as values (bools) -/
noncomputable def tAndV (ta tb : TE) : TE := fun σ H Q => ta σ H fun x H1 => ∃ c, x = .bl c ∧ if c = true then tb σ H1 Q else Q (.bl false) H1
noncomputable def tNotV (ta : TE) : TE := fun σ H Q => ta σ H fun x H1 => ∃ c, x = .bl c ∧ Q (.bl (!c)) H1
theorem pe_one {op} {t : TE} (h : PE X a t) : PE X (.BoolOp op [a] pos) t := fun pins s σ H Q I hw => BoolOp_one (h pins s σ H Q I hw)
theorem pe_and (ha : PE X a ta) (hb : PE X (.BoolOp .And (b :: rest) pos) tb) : PE X (.BoolOp .And (a :: b :: rest) pos) (tAndV ta tb) := by
  intro pins s σ H Q I h
  refine BoolOp_and (thn (ha pins s σ H _ I h) fun v s1 ⟨x, H1, I1, r1, q1⟩ => ?_)
  obtain ⟨c, rfl, q1⟩ := q1
  cases r1
  refine wpAny_truthy_bool ?_
  cases c with
  | true => exact hb pins s1 σ H1 Q I1 q1
  | false => exact ⟨.bl false, H1, I1, rfl, q1⟩
theorem pe_not (ha : PE X a ta) : PE X (.UnaryOp .Not a pos) (tNotV ta) := by
  intro pins s σ H Q I h
  refine UnaryOp_ (thn (ha pins s σ H _ I h) fun v s1 ⟨x, H1, I1, r1, q1⟩ => ?_)
  obtain ⟨c, rfl, q1⟩ := q1
  cases r1
  exact not_of (wpAny_truthy_bool ⟨.bl (!c), H1, I1, rfl, q1⟩)
end
end L2

namespace L2
open PySem PySem.Spec PyProof.Rows

/-! ### a list, a tuple that is read: tracked, frozen, or an object of the module -/
noncomputable def SqL (K : PySem.W.Frag) (H : Hp) (a : Addr) (xs : List V) : Prop :=
  Rd H a (.lst xs) ∨
    ∃ (o : Obj) (its : Array Value) (n : Nat), K.lookup a = some o ∧ o.cls = .type "list" ∧ o.dict = none ∧ o.data = .seq its n ∧ its.size ≤ sizeLine ∧ Vals xs its.toList
noncomputable def SqT (K : PySem.W.Frag) (H : Hp) (a : Addr) (xs : List V) : Prop :=
  Rd H a (.tup xs) ∨
    ∃ (o : Obj) (its : Array Value) (n : Nat), K.lookup a = some o ∧ o.cls = .type "tuple" ∧ o.data = .seq its n ∧ its.size ≤ sizeLine ∧ Vals xs its.toList
noncomputable def absV : Value → Option V
  | .none => some .non
  | .bool b => some (.bl b)
  | .int i _ => some (.int i)
  | .str x _ => some (.str x)
  | .bytes b _ => some (.byt b)
  | .float b _ => some (.flt b)
  | .ref a => some (.ref a)
  | .type n => some (.ty n)
  | _ => none
theorem RelV.abs {x : V} {u : Value} (r : RelV x u) : absV u = some x := by
  cases x with
  | non => cases r; rfl
  | bl _ => cases r; rfl
  | int _ => obtain ⟨t, rfl⟩ := r; rfl
  | str _ => obtain ⟨t, rfl⟩ := r; rfl
  | byt _ => obtain ⟨t, rfl⟩ := r; rfl
  | flt _ => obtain ⟨t, rfl⟩ := r; rfl
  | ref _ => cases r; rfl
  | ty _ => cases r; rfl
theorem RelV.inj {x y : V} {u : Value} (r : RelV x u) (q : RelV y u) : x = y := Option.some.inj (r.abs.symm.trans q.abs)
theorem Vals.inj : ∀ {xs ys : List V} {us : List Value}, Vals xs us → Vals ys us → xs = ys
  | _, _, _, .nil, .nil => rfl
  | _, _, _, .cons r t, .cons r' t' => by rw [r.inj r', Vals.inj t t']
section
variable {X : Cx} {pins : List (Addr × Obj)} {σ : St} {H : Hp} {s : Shared} {a : Addr} {xs ys : List V}
theorem SqL.of {K : PySem.W.Frag} (h : H a = some (.lst xs)) : SqL K H a xs := .inl (.inl h)
theorem SqT.of {K : PySem.W.Frag} (h : H a = some (.tup xs)) : SqT K H a xs := .inl (.inl h)
theorem Inv.list (I : Inv X pins σ H s) (h : SqL X.K H a xs) : ∃ its : List Value, Vals xs its ∧ PlainL s.heap a its.toArray ∧ xs.length ≤ sizeLine := by
  rcases h with h | ⟨o, its, n, hk, hc, hd, hs, hz, r⟩
  · obtain ⟨z, its, n, r, e⟩ := h.ok I.hok
    exact ⟨its, r, ⟨_, n, e, rfl, rfl, rfl⟩, z⟩
  · refine ⟨its.toList, r, ⟨o, n, I.kIn a o hk, hc, hd, by simpa using hs⟩, ?_⟩
    have e := r.length
    simp only [Array.length_toList] at e
    omega
theorem Inv.tuple (I : Inv X pins σ H s) (h : SqT X.K H a xs) : ∃ its : List Value, Vals xs its ∧ IsTup s.heap a its.toArray ∧ xs.length ≤ sizeLine := by
  rcases h with h | ⟨o, its, n, hk, hc, hs, hz, r⟩
  · obtain ⟨z, its, r, p⟩ := h.ok I.hok
    exact ⟨its, r, p, z⟩
  · refine ⟨its.toList, r, ⟨o, I.kIn a o hk, hc, n, by simpa using hs⟩, ?_⟩
    have e := r.length
    simp only [Array.length_toList] at e
    omega
theorem Inv.list_inj (I : Inv X pins σ H s) (h : SqL X.K H a xs) (h' : SqL X.K H a ys) : xs = ys := by
  obtain ⟨its, r, ⟨o, n, e, _, _, d⟩, _⟩ := I.list h
  obtain ⟨its', r', ⟨o', n', e', _, _, d'⟩, _⟩ := I.list h'
  rw [e] at e'; cases e'
  rw [d] at d'
  injection d' with d1 _
  have : its = its' := by simpa using congrArg Array.toList d1
  subst this
  exact r.inj r'
theorem Inv.tuple_inj (I : Inv X pins σ H s) (h : SqT X.K H a xs) (h' : SqT X.K H a ys) : xs = ys := by
  obtain ⟨its, r, ⟨o, e, _, n, d⟩, _⟩ := I.tuple h
  obtain ⟨its', r', ⟨o', e', _, n', d'⟩, _⟩ := I.tuple h'
  rw [e] at e'; cases e'
  rw [d] at d'
  injection d' with d1 _
  have : its = its' := by simpa using congrArg Array.toList d1
  subst this
  exact r.inj r'
end

/-! ### another wish about exceptions -/
noncomputable abbrev Cx.wish (X : Cx) (E : Value → Shared → Prop) : Cx := { X with xe := E }
/-- no exception leaves -/
noncomputable abbrev Cx.nox (X : Cx) : Cx := X.wish fun _ _ => False
theorem Cx.Ok.wish {X : Cx} (ok : X.Ok) (E : Value → Shared → Prop) : (X.wish E).Ok :=
  ⟨ok.mod, ok.kind, ok.glob, ok.blt, ok.above, ok.inj, ok.has, ok.cab, ok.hd, ok.frames, ok.stk, ok.exf, ok.bs, ok.bsz, ok.noex, ok.exfs, ok.funs, ok.frf⟩
theorem Cx.Ok.unwish {X : Cx} {E : Value → Shared → Prop} (ok : (X.wish E).Ok) : X.Ok :=
  ⟨ok.mod, ok.kind, ok.glob, ok.blt, ok.above, ok.inj, ok.has, ok.cab, ok.hd, ok.frames, ok.stk, ok.exf, ok.bs, ok.bsz, ok.noex, ok.exfs, ok.funs, ok.frf⟩
section
variable {X : Cx} {pins : List (Addr × Obj)} {σ : St} {H : Hp} {s : Shared} {E : Value → Shared → Prop}
theorem Inv.wish (I : Inv X pins σ H s) (E : Value → Shared → Prop) : Inv (X.wish E) pins σ H s := ⟨I.ok.wish E, I.os, I.bare, I.base, I.loc, I.cell, I.free, I.freeC, I.pin, I.hok, I.len⟩
theorem Inv.unwish (I : Inv (X.wish E) pins σ H s) : Inv X pins σ H s := ⟨I.ok.unwish, I.os, I.bare, I.base, I.loc, I.cell, I.free, I.freeC, I.pin, I.hok, I.len⟩
theorem SP.unwish {D : Ends} {f : Flow} {s' : Shared} (h : SP (X.wish E) pins D f s') : SP X pins D f s' := by
  cases f with
  | next => obtain ⟨σ', H', I, q⟩ := h; exact ⟨σ', H', I.unwish, q⟩
  | brk => obtain ⟨σ', H', I, q⟩ := h; exact ⟨σ', H', I.unwish, q⟩
  | cont => obtain ⟨σ', H', I, q⟩ := h; exact ⟨σ', H', I.unwish, q⟩
  | ret u => obtain ⟨v, σ', H', I, r, q⟩ := h; exact ⟨v, σ', H', I.unwish, r, q⟩
theorem PSs.nox {st : List Stmt} {t : TS} (h : PSs X.nox st t) : PSs X st t := fun pins s σ H D I hw =>
  wpAny_mono (h pins s σ H D (I.wish _) hw) (fun _ _ q => q.unwish) fun _ _ z => False.elim z
end

/-! ### blocks and small statements -/
section
variable {X : Cx} {st : Stmt} {rest : List Stmt} {t u : TS} {e : Expr} {te : TE} {pos : Pos}
noncomputable def tNext : TS := fun D σ H => D.nx σ H
noncomputable def tSeq (t u : TS) : TS := fun D σ H => t { D with nx := u D } σ H
theorem pss_nil : PSs X [] tNext := fun _ _ σ H _ I h => wpAny_execs_nil ⟨σ, H, I, h⟩
theorem pss_cons (h1 : PS X st t) (h2 : PSs X rest u) : PSs X (st :: rest) (tSeq t u) := by
  intro pins s σ H D I h
  refine wpAny_execs_cons (thn (h1 pins s σ H { D with nx := u D } I h) fun f s1 q => ?_)
  cases f with
  | next =>
    obtain ⟨σ', H', I', q⟩ := q
    exact h2 pins s1 σ' H' D I' q
  | ret v => exact q
  | brk => exact q
  | cont => exact q
theorem pss_one (h1 : PS X st t) : PSs X [st] t := by
  intro pins s σ H D I h
  refine wpAny_execs_cons (thn (h1 pins s σ H D I h) fun f s1 q => ?_)
  cases f with
  | next => exact wpAny_execs_nil q
  | ret v => exact q
  | brk => exact q
  | cont => exact q
/-- in a def's body nothing is shown -/
theorem Inv.quiet {pins : List (Addr × Obj)} {σ : St} {H : Hp} {s : Shared} (I : Inv X pins σ H s) : interactive X.env = false := by simp [interactive, I.ok.kind]
/-- an expression whose value is dropped -/
noncomputable def tDrop (te : TE) : TS := fun D σ H => te σ H fun _ H1 => D.nx σ H1
theorem ps_expr (he : PE X e te) (hs : swapsWith e none pos.line X.env = pure false := by rfl) : PS X (.Expr e pos) (tDrop te) := by
  intro pins s σ H D I h
  exact wpAny_Expr_any (thn (he pins s σ H _ I h) fun v s1 ⟨x, H1, I1, r1, q1⟩ => ⟨σ, H1, I1, q1⟩) I.quiet hs
noncomputable def tRet (te : TE) : TS := fun D σ H => te σ H D.rt
theorem ps_ret (he : PE X e te) : PS X (.Return (some e) pos) (tRet te) := by
  intro pins s σ H D I h
  exact wpAny_Return_some (thn (he pins s σ H _ I h) fun v s1 ⟨x, H1, I1, r1, q1⟩ => ⟨x, σ, H1, I1, r1, q1⟩)
noncomputable def tIfS (c : TT) (t u : TS) : TS := fun D σ H => c σ H fun b H1 => if b = true then t D σ H1 else u D σ H1
theorem ps_if {c : Expr} {a b : List Stmt} {tc : TT} (hc : PT X c tc) (ha : PSs X a t) (hb : PSs X b u) : PS X (.If c a b pos) (tIfS tc t u) := by
  intro pins s σ H D I h
  refine wpAny_If (thn (hc pins s σ H _ I h) fun d s1 ⟨H1, I1, q1⟩ => ?_)
  cases d with
  | true => exact ha pins s1 σ H1 D I1 q1
  | false => exact hb pins s1 σ H1 D I1 q1
end

/-! ### targets -/
noncomputable abbrev TG := V → St → Hp → (St → Hp → Prop) → Prop
noncomputable abbrev TGs := List V → St → Hp → (St → Hp → Prop) → Prop
noncomputable def PG (X : Cx) (target : Expr) (t : TG) : Prop :=
  ∀ (pins : List (Addr × Obj)) (s : Shared) (σ : St) (H : Hp) (v : V) (u : Value) (Q : St → Hp → Prop), Inv X pins σ H s → RelV v u → t v σ H Q →
    wpAny (model X.prog X.w) X.A (assign target X.env u) (fun _ s' => ∃ σ' H', Inv X pins σ' H' s' ∧ Q σ' H') X.xe s
/-- several targets, one after another -/
noncomputable def PGs (X : Cx) (ts : List Expr) (t : TGs) : Prop :=
  ∀ (pins : List (Addr × Obj)) (s : Shared) (σ : St) (H : Hp) (vs : List V) (us : List Value) (Q : St → Hp → Prop), Inv X pins σ H s → Vals vs us → t vs σ H Q →
    wpAny (model X.prog X.w) X.A (assignInOrder ((assignEach ts X.env).map (·.2)) us) (fun _ s' => ∃ σ' H', Inv X pins σ' H' s' ∧ Q σ' H') X.xe s
/-- o[i] = v, by values -/
noncomputable abbrev TSet := V → V → V → Hp → (Hp → Prop) → Prop
noncomputable def PSet (X : Cx) (t : TSet) : Prop :=
  ∀ (pins : List (Addr × Obj)) (s : Shared) (σ : St) (H : Hp) (o i v : V) (ov iv u : Value) (Q : Hp → Prop), Inv X pins σ H s → RelV o ov → RelV i iv → RelV v u → t o i v H Q →
    wpAny (model X.prog X.w) X.A (setItem ov iv u) (fun _ s' => ∃ H', Inv X pins σ H' s' ∧ Q H') X.xe s
section
variable {X : Cx} {pos : Pos}
noncomputable def gName (i : Nat) : TG := fun v σ H Q => Q (σ.set i (some v)) H
theorem pg_name {i : Nat} {x : Str} (hN : X.N.Nodup) (hi : X.N[i]? = some x) (hx : Loc X.env.scope x) (hf : X.fn x = true ∨ X.env.scope.names.lookup x = some .local := by first | exact .inl rfl | exact .inr rfl | assumption) : PG X (.Name x pos) (gName i) := by
  intro pins s σ H v u Q I r h
  exact wpAny_assign_Name (store_ok I hN hi hx r (fun s' I' => ⟨_, H, I', h⟩) hf)
noncomputable def gNil : TGs := fun vs σ H Q => vs = [] ∧ Q σ H
noncomputable def gCons (t : TG) (u : TGs) : TGs := fun vs σ H Q => ∃ v r, vs = v :: r ∧ t v σ H fun σ' H' => u r σ' H' Q
theorem pgs_nil : PGs X [] gNil := by
  intro pins s σ H vs us Q I r h
  obtain ⟨e, h⟩ := h
  subst e
  cases r
  exact assignInOrder_nil ⟨σ, H, I, h⟩
theorem pgs_cons {e : Expr} {es : List Expr} {t : TG} {u : TGs} (h1 : PG X e t) (h2 : PGs X es u)
    (hs : (assignEach (e :: es) X.env).map (·.2) = assign e X.env :: (assignEach es X.env).map (·.2) := by rfl) : PGs X (e :: es) (gCons t u) := by
  intro pins s σ H vs us Q I r h
  obtain ⟨v, vr, e1, h⟩ := h
  subst e1
  cases r with
  | cons r rr =>
    rw [hs]
    refine assignInOrder_cons (thn (h1 pins s σ H _ _ _ I r h) fun _ s1 ⟨σ1, H1, I1, q1⟩ => ?_)
    exact h2 pins s1 σ1 H1 _ _ Q I1 rr q1
/-- (a, b, ..) = a tuple of that length -/
noncomputable def gTup (K : PySem.W.Frag) (n : Nat) (t : TGs) : TG := fun v σ H Q => ∃ a xs, v = .ref a ∧ SqT K H a xs ∧ xs.length = n ∧ t xs σ H Q
theorem pg_tup {es : List Expr} {k : Nat} {t : TGs} {n : Nat} (hc : X.calm = true) (h : PGs X es t)
    (hn : (assignEach es X.env).length = n := by rfl) (hst : (assignEach es X.env).findIdx? (·.1) = none := by rfl) : PG X (.Tuple es k pos) (gTup X.K n t) := by
  intro pins s σ H v u Q I r hw
  obtain ⟨a, xs, e1, hq, hl, hw⟩ := hw
  subst e1
  cases r
  obtain ⟨its, rv, ht, hz⟩ := I.tuple hq
  refine assign_Tuple_tuple (I.ok.hd hc) ht (by simp [hn, ← hl, rv.length]) hst fun h' hx => ?_
  have I1 : Inv X pins σ H { s with heap := h' } := I.kept (t' := s.toks) fun b o e => hx b o (Nat.ne_of_lt (Heap.lt_size e)) e
  exact h pins _ σ H xs _ Q I1 (by simpa using rv) hw
/-- o[i] = .. -/
noncomputable def gSub (to ti : TE) (t : TSet) : TG := fun v σ H Q => to σ H fun o H1 => ti σ H1 fun i H2 => t o i v H2 fun H3 => Q σ H3
theorem pg_sub {o i : Expr} {to ti : TE} {t : TSet} (ho : PE X o to) (hi : PE X i ti) (hs : PSet X t)
    (ha : ∀ v, assign (.Subscript o i pos) X.env v = (do
      let ov ← holding [v] (eval o X.env)
      let iv ← holding [v, ov] (eval i X.env)
      standAt pos
      holding [v, ov, iv] (setItem ov iv v)
      release [v, ov, iv] []) := by intro _; rfl) : PG X (.Subscript o i pos) (gSub to ti t) := by
  intro pins s σ H v u Q I r h
  rw [ha]
  refine wpAny_bind (wpAny_holding (thn (ho pins s σ H _ I h) fun ov s1 ⟨x, H1, I1, r1, q1⟩ => ?_))
  refine wpAny_bind (wpAny_holding (thn (hi pins s1 σ H1 _ I1 q1) fun iv s2 ⟨y, H2, I2, r2, q2⟩ => ?_))
  refine wpAny_bind (wpAny_standAt (wpAny_bind (wpAny_holding (thn (hs pins s2 σ H2 x y v ov iv u _ I2 r1 r2 r q2) fun _ s3 ⟨H3, I3, q3⟩ => ?_))))
  exact wpAny_release ⟨σ, H3, I3, q3⟩
/-- target = value -/
noncomputable def tAsg (te : TE) (g : TG) : TS := fun D σ H => te σ H fun x H1 => g x σ H1 D.nx
theorem ps_asg {tg e : Expr} {te : TE} {g : TG} (he : PE X e te) (hg : PG X tg g) (hs : swapsWithSole [tg] e pos.line X.env = pure false := by rfl) (hw : swappedStores [tg] e X.env = pure none := by rfl)
    (h1 : (assignEach [tg] X.env).map (·.2) = [assign tg X.env] := by rfl) : PS X (.Assign [tg] e pos) (tAsg te g) := by
  intro pins s σ H D I h
  refine wpAny_Assign_stores (thn (he pins s σ H _ I h) fun v s1 ⟨x, H1, I1, r1, q1⟩ => ?_) hs hw
  rw [h1]
  exact thn (hg pins s1 σ H1 x v _ I1 r1 q1) fun _ s2 q => q
/-- name = value -/
theorem ps_set {i : Nat} {x : Str} {e : Expr} {te : TE} {pos' : Pos} (hN : X.N.Nodup) (hi : X.N[i]? = some x) (hx : Loc X.env.scope x) (he : PE X e te) (hs : swapsWith e (some (.Name x pos')) pos.line X.env = pure false := by rfl) (hf : X.fn x = true ∨ X.env.scope.names.lookup x = some .local := by first | exact .inl rfl | exact .inr rfl | assumption) :
    PS X (.Assign [.Name x pos'] e pos) (tAsg te (gName i)) := by
  intro pins s σ H D I h
  refine wpAny_Assign_Name (thn (he pins s σ H _ I h) fun v s1 ⟨y, H1, I1, r1, q1⟩ => ?_) hs
  exact store_ok I1 hN hi hx r1 (fun s2 I2 => ⟨_, H1, I2, q1⟩) hf
/-- a, b = x, y with plain local names: stored from the right; the pair itself is not tracked (the opening rows as in PyProof/Rows/TupAssign.lean:23) -/
noncomputable def tPar (i j : Nat) (ta : TA) : TS := fun D σ H => ta σ H fun vs H1 => ∃ v w, vs = [v, w] ∧ D.nx ((σ.set i (some v)).set j (some w)) H1
theorem ps_par {i j : Nat} {x y : Str} {a b : Expr} {ta : TA} {px py pt : Pos} {kt k2 pt2} (hc : X.calm = true) (hN : X.N.Nodup) (hi : X.N[i]? = some x) (hj : X.N[j]? = some y) (hij : i ≠ j)
    (hx : X.env.scope.names.lookup x = some .local) (hy : X.env.scope.names.lookup y = some .local) (ha : PA X [a, b] ta)
    (hw : swappedStores [.Tuple [.Name x px, .Name y py] kt pt] (.Tuple [a, b] k2 pt2) X.env = pure (some [x, y]))
    (hs : swapsWithSole [.Tuple [.Name x px, .Name y py] kt pt] (.Tuple [a, b] k2 pt2) pos.line X.env = pure false := by rfl) :
    PS X (.Assign [.Tuple [.Name x px, .Name y py] kt pt] (.Tuple [a, b] k2 pt2) pos) (tPar i j ta) := by
  intro pins s σ H D I h
  rw [exec_Assign_arm]
  refine wpAny_bind (wpAny_standAt ?_)
  rw [hs]
  refine wpAny_bind (wpAny_pure ?_)
  rw [if_neg (by decide)]
  refine wpAny_bind (Tuple_ (thn (ha _ pins s σ H _ I h) fun us s1 ⟨vs, H1, I1, r1, q1⟩ => ?_))
  obtain ⟨v, w, e1, q1⟩ := q1
  subst e1
  obtain ⟨u1, u2, rfl, rv, rw'⟩ : ∃ u1 u2, us = [u1, u2] ∧ RelV v u1 ∧ RelV w u2 := by
    cases r1 with
    | cons p q =>
      cases q with
      | cons p' q' =>
        cases q'
        exact ⟨_, _, rfl, p, p'⟩
  refine wpAny_newObj_type ?_ (by show 2 ≤ sizeLine; decide)
  have I2 : Inv X pins σ H1 { s1 with heap := s1.heap.push { cls := .type "tuple", data := .seq [u1, u2].toArray } } := I1.kept (t' := s1.toks) fun b o e => Heap.get?_push_of_some _ e
  rw [hw]
  refine wpAny_bind (wpAny_pure ?_)
  show wpAny (model X.prog X.w) X.A (do rule "assign.swapped-stores"; let items ← unpackItems (.ref s1.heap.objs.size) 2 none; assignInOrder [fun v => bindName X.env y v, fun v => bindName X.env x v] items.reverse; pure Flow.next) _ _ _
  refine wpAny_bind (wpAny_rule (wpAny_bind (unpackItems_tuple (items := #[u1, u2]) (I.ok.hd hc) (IsTup.new s1.heap _) fun h' hx' => ?_)))
  have I3 := I2.kept (h' := h') (t' := s1.toks) fun b o e => hx' b o (Nat.ne_of_lt (Heap.lt_size e)) e
  show wpAny _ _ (assignInOrder [fun v => bindName X.env y v, fun v => bindName X.env x v] [u2, u1] >>= fun _ => pure Flow.next) _ _ _
  refine wpAny_bind (assignInOrder_cons (wpAny_bindName (store_ok I3 hN hj (.inl hy) rw' (fun s2 I4 => ?_) (.inr hy))))
  refine assignInOrder_cons (wpAny_bindName (store_ok I4 hN hi (.inl hx) rv (fun s3 I5 => assignInOrder_nil (wpAny_pure ?_)) (.inr hx)))
  rw [List.set_comm _ _ (Ne.symm hij)] at I5
  exact ⟨_, H1, I5, q1⟩
end

/-! ### while -/
section
variable {X : Cx} {pos : Pos}
/-- the invariant W with its measure -/
noncomputable def tWhile (c : TT) (tb : TS) : TS := fun D σ H => ∃ W : Nat → St → Hp → Prop, (∃ m, W m σ H) ∧ ∀ m σ H, W m σ H →
  c σ H fun b H1 => if b = true then ∃ N : St → Hp → Prop, (∀ σ' H', N σ' H' → ∃ m', m' < m ∧ W m' σ' H') ∧ tb { D with nx := N, ct := N, bk := D.nx } σ H1 else D.nx σ H1
theorem ps_while {c : Expr} {body : List Stmt} {tc : TT} {tb : TS} (hp : PassesOwn (model X.prog X.w) X.A X.env X.xe) (hc : PT X c tc) (hb : PSs X body tb) : PS X (.While c body [] pos) (tWhile tc tb) := by
  intro pins s σ H D I h
  obtain ⟨W, ⟨m0, w0⟩, turn⟩ := h
  refine wpAny_While (codeAny_whileLoop (fun n s' => ∃ σ' H', Inv X pins σ' H' s' ∧ W n σ' H') ?_ m0 ⟨σ, H, I, w0⟩)
  rintro n s1 ⟨σ1, H1, I1, w1⟩
  refine wpAny_passesOwn hp (thn (hc pins s1 σ1 H1 _ I1 (turn n σ1 H1 w1)) fun b s2 ⟨H2, I2, q2⟩ => ?_)
  cases b with
  | true =>
    obtain ⟨N, hN, q2⟩ := q2
    rw [if_pos rfl]
    refine wpAny_passesOwn hp (thn (hb pins s2 σ1 H2 _ I2 q2) fun f s3 q3 => ?_)
    cases f with
    | next =>
      obtain ⟨σ3, H3, I3, n3⟩ := q3
      obtain ⟨m', hm, w3⟩ := hN σ3 H3 n3
      exact ⟨m', hm, σ3, H3, I3, w3⟩
    | cont =>
      obtain ⟨σ3, H3, I3, n3⟩ := q3
      obtain ⟨m', hm, w3⟩ := hN σ3 H3 n3
      exact ⟨m', hm, σ3, H3, I3, w3⟩
    | brk => exact q3
    | ret v => exact q3
  | false =>
    rw [if_neg Bool.false_ne_true]
    exact wpAny_execs_nil ⟨σ1, H2, I2, q2⟩
end

/-! ### what a loop or a comprehension walks -/
/-- at turn i: it yields x (the heap may grow), or it stops -/
structure It where
  go : Nat → Hp → Prop
  yld : Nat → Hp → V → Hp → Prop
  stop : Nat → Hp → Prop
/-- the iterator's own objects may turn: they are not the frame's, not pinned, younger than the entry (or a comprehension's own) -/
noncomputable def FpOk (X : Cx) (pins : List (Addr × Obj)) (H : Hp) (b : Addr) : Prop :=
  H b = none ∧ b ≠ X.env.locals ∧ b ∉ X.fs ∧ (b ∈ X.ex ∨ X.s₀.heap.objs.size ≤ b) ∧ (∀ x c, X.env.cells.lookup x = some c → c ≠ b) ∧ ∀ p ∈ X.pn ++ pins, p.1 ≠ b
theorem Inv.fpOk {X : Cx} {pins : List (Addr × Obj)} {σ : St} {H H' : Hp} {s : Shared} {b : Addr} (I : Inv X pins σ H s) (hb : s.heap.objs.size ≤ b) (hn : H' b = none) : FpOk X pins H' b := by
  refine ⟨hn, Nat.ne_of_gt (Nat.lt_of_lt_of_le I.lt hb), I.nofs hb, .inr (Nat.le_trans I.sz hb), fun x c e z => ?_, fun p hp z => ?_⟩
  · obtain ⟨v, q⟩ := I.cell x c e
    exact absurd (Nat.lt_of_lt_of_le q.lt (by rw [z]; exact hb)) (Nat.lt_irrefl _)
  · exact absurd (Nat.lt_of_lt_of_le (Heap.lt_size (I.pin p hp).1) (by rw [z]; exact hb)) (Nat.lt_irrefl _)
structure Turn (P : Program) (w : World) (K : PySem.W.Frag) (tg : Expr) (J : It) (fp : List Addr) (it : Addr) (tn : Nat → Heap → Prop) : Prop where
  mem : it ∈ fp
  obj : ∀ i h, tn i h → ∀ b ∈ fp, ∃ o, h.get? b = some o ∧ ∀ v, o.data ≠ .cell v
  keep : ∀ i h h', tn i h → (∀ b ∈ fp, ∀ o, h.get? b = some o → h'.get? b = some o) → tn i h'
  item : ∀ (X : Cx), X.prog = P → X.w = w → X.K = K → X.calm = true → ∀ (i : Nat) (pins : List (Addr × Obj)) (s : Shared) (σ : St) (H : Hp) (E : Value → Shared → Prop), Inv X pins σ H s → (∀ b ∈ fp, FpOk X pins H b) → tn i s.heap → J.go i H →
    wpAny (model P w) X.A (pyNext (.ref it)) (fun r s1 => ∃ u, r = some u ∧
      wpAny (model P w) X.A (letOwnedTupleGo tg (.ref it) u) (fun _ s2 => ∃ x H', Inv X pins σ H' s2 ∧ RelV x u ∧ J.yld i H x H' ∧ tn (i + 1) s2.heap ∧ ∀ b ∈ fp, H' b = none) E s1) E s
  done : ∀ (X : Cx), X.prog = P → X.w = w → X.K = K → X.calm = true → ∀ (i : Nat) (pins : List (Addr × Obj)) (s : Shared) (σ : St) (H : Hp) (E : Value → Shared → Prop), Inv X pins σ H s → (∀ b ∈ fp, FpOk X pins H b) → tn i s.heap → J.stop i H →
    wpAny (model P w) X.A (pyNext (.ref it)) (fun r s1 => r = none ∧ Inv X pins σ H s1) E s
  self : ∀ (A : Around) (i : Nat) (s : Shared) (Q : Value → Shared → Prop) (E : Value → Shared → Prop), tn i s.heap → Q (.ref it) s → wpAny (model P w) A (pyIter (.ref it)) Q E s
noncomputable abbrev TI := St → Hp → (It → Hp → Prop) → Prop
/-- an iterator has come -/
noncomputable def PIE (X : Cx) (pins : List (Addr × Obj)) (σ : St) (tg : Expr) (R : It → Hp → Prop) (itv : Value) (s2 : Shared) : Prop :=
  ∃ (it : Addr) (fp : List Addr) (tn : Nat → Heap → Prop) (J : It) (H' : Hp), itv = .ref it ∧ Inv X pins σ H' s2 ∧ Turn X.prog X.w X.K tg J fp it tn ∧ tn 0 s2.heap ∧ (∀ b ∈ fp, FpOk X pins H' b) ∧ R J H'
noncomputable def PI (X : Cx) (tg iter : Expr) (wi : TI) : Prop :=
  ∀ (pins : List (Addr × Obj)) (s : Shared) (σ : St) (H : Hp) (R : It → Hp → Prop), Inv X pins σ H s → wi σ H R →
    wpAny (model X.prog X.w) X.A (eval iter X.env) (fun v s1 => wpAny (model X.prog X.w) X.A (pyIter v) (PIE X pins σ tg R) X.xe s1) X.xe s

/-- the step ahead of the store is nothing for an iterator that keeps no tuple -/
theorem go_of {M : Model} {A : Around} {E : Value → Shared → Prop} {s : Shared} {tg : Expr} {it : Addr} {u : Value} {o : Obj} {n : String} {vs : Array Value} {Q : Unit → Shared → Prop} (ho : s.heap.get? it = some o) (hc : o.cls = .type n) (hd : o.data = .fields vs)
    (hn : ["enumerate", "zip", "dict_itemiterator", "dict_reverseitemiterator", "odict_iterator", "itertools.zip_longest", "itertools.pairwise"].contains n = false) (hQ : Q () s) : wpAny M A (letOwnedTupleGo tg (.ref it) u) Q E s := by
  unfold letOwnedTupleGo
  cases tg <;> first
    | exact wpAny_pure hQ
    | (cases u <;> first
        | exact wpAny_pure hQ
        | (refine wpAny_bind (wpAny_load ho ?_)
           rw [hc, hd]
           show wpAny M A (if (["enumerate", "zip", "dict_itemiterator", "dict_reverseitemiterator", "odict_iterator", "itertools.zip_longest", "itertools.pairwise"].contains n && vs[0]? == some (rawInt _)) = true then _ else _) Q E s
           rw [if_neg (by intro h; rw [hn, Bool.false_and] at h; cases h)]
           exact wpAny_pure hQ))

/-- the list at a, as it stands at each turn (a loop may append to it) -/
noncomputable def Itl (K : PySem.W.Frag) (a : Addr) : It :=
  ⟨fun i H => ∃ xs x, SqL K H a xs ∧ xs[i]? = some x, fun i H x H' => H' = H ∧ ∀ xs, SqL K H a xs → xs[i]? = some x, fun i H => ∃ xs, SqL K H a xs ∧ xs.length ≤ i⟩
noncomputable def Itt (K : PySem.W.Frag) (a : Addr) : It :=
  ⟨fun i H => ∃ xs x, SqT K H a xs ∧ xs[i]? = some x, fun i H x H' => H' = H ∧ ∀ xs, SqT K H a xs → xs[i]? = some x, fun i H => ∃ xs, SqT K H a xs ∧ xs.length ≤ i⟩
/-- lo, lo + 1, .. (n of them) -/
noncomputable def Itr (lo : Int) (n : Nat) : It := ⟨fun i _ => i < n, fun i H x H' => H' = H ∧ x = .int (lo + i), fun i _ => n ≤ i⟩
theorem turn_list {P : Program} {w : World} {K : PySem.W.Frag} {tg : Expr} (a it : Addr) : Turn P w K tg (Itl K a) [it] it (fun i h => h.IsListIter it a i) where
  mem := by simp
  obj := fun i h st b hb => by
    have e : b = it := by simpa using hb
    subst e
    obtain ⟨o, e, c, d⟩ := st
    exact ⟨o, e, fun v z => by rw [d] at z; cases z⟩
  keep := fun i h h' st k => st.at fun o e => k it (by simp) o e
  item := by
    intro X hP hw hK hc i pins s σ H E I hf st hg
    subst hP hw hK
    obtain ⟨xs, x, hq, hx⟩ := hg
    obtain ⟨its, rv, p, hz⟩ := I.list hq
    obtain ⟨u, hu, ru⟩ := rv.get hx
    obtain ⟨f0, f1, f2, f3, f4, f5⟩ := hf it (by simp)
    refine wpAny_pyNext_list_item st p.isList (x := u) (by simpa using hu) fun h' st' sb => ?_
    have I1 : Inv X pins σ H { s with heap := h' } := I.turned (t' := s.toks) (fun b o hb e => (sb.2 b hb).trans e) f0 f1 f3 f4 f5
    obtain ⟨o, e, c, d⟩ := id st'
    exact ⟨u, rfl, go_of (s := { s with heap := h' }) e c d (by decide) ⟨x, H, I1, ru, ⟨rfl, fun ys hy => by rw [I.list_inj hy hq]; exact hx⟩, st', fun b hb => (hf b hb).1⟩⟩
  done := by
    intro X hP hw hK hc i pins s σ H E I hf st hg
    subst hP hw hK
    obtain ⟨xs, hq, hx⟩ := hg
    obtain ⟨its, rv, p, hz⟩ := I.list hq
    obtain ⟨f0, f1, f2, f3, f4, f5⟩ := hf it (by simp)
    have hl := rv.length
    exact wpAny_pyNext_list_end (I.ok.hd hc) st p.isList (by simp; omega) fun h' eb => ⟨rfl, I.turned (t' := s.toks) (fun b o hb e => eb b o hb e) f0 f1 f3 f4 f5⟩
  self := fun _ _ _ _ _ st h => wpAny_pyIter_listiter st h
theorem turn_tuple {P : Program} {w : World} {K : PySem.W.Frag} {tg : Expr} (a it : Addr) : Turn P w K tg (Itt K a) [it] it (fun i h => h.IsTupleIter it a i) where
  mem := by simp
  obj := fun i h st b hb => by
    have e : b = it := by simpa using hb
    subst e
    obtain ⟨o, e, c, d⟩ := st
    exact ⟨o, e, fun v z => by rw [d] at z; cases z⟩
  keep := fun i h h' st k => st.at fun o e => k it (by simp) o e
  item := by
    intro X hP hw hK hc i pins s σ H E I hf st hg
    subst hP hw hK
    obtain ⟨xs, x, hq, hx⟩ := hg
    obtain ⟨its, rv, p, hz⟩ := I.tuple hq
    obtain ⟨u, hu, ru⟩ := rv.get hx
    obtain ⟨f0, f1, f2, f3, f4, f5⟩ := hf it (by simp)
    refine wpAny_pyNext_tuple_item st (show s.heap.IsTuple a its.toArray from p) (x := u) (by simpa using hu) fun h' st' sb => ?_
    have I1 : Inv X pins σ H { s with heap := h' } := I.turned (t' := s.toks) (fun b o hb e => (sb.2 b hb).trans e) f0 f1 f3 f4 f5
    obtain ⟨o, e, c, d⟩ := id st'
    exact ⟨u, rfl, go_of (s := { s with heap := h' }) e c d (by decide) ⟨x, H, I1, ru, ⟨rfl, fun ys hy => by rw [I.tuple_inj hy hq]; exact hx⟩, st', fun b hb => (hf b hb).1⟩⟩
  done := by
    intro X hP hw hK hc i pins s σ H E I hf st hg
    subst hP hw hK
    obtain ⟨xs, hq, hx⟩ := hg
    obtain ⟨its, rv, p, hz⟩ := I.tuple hq
    obtain ⟨f0, f1, f2, f3, f4, f5⟩ := hf it (by simp)
    have hl := rv.length
    exact wpAny_pyNext_tuple_end (I.ok.hd hc) st (show s.heap.IsTuple a its.toArray from p) (by simp; omega) fun h' eb => ⟨rfl, I.turned (t' := s.toks) (fun b o hb e => eb b o hb e) f0 f1 f3 f4 f5⟩
  self := fun _ _ _ _ _ st h => wpAny_pyIter_tupleiter st h
theorem turn_range {P : Program} {w : World} {K : PySem.W.Frag} {tg : Expr} (it : Addr) (lo : Int) (n : Nat) : Turn P w K tg (Itr lo n) [it] it (fun i h => IsRangeIter h it (lo + (i : Nat) * 1) ((n : Int) - (i : Nat)) 1) where
  mem := by simp
  obj := fun i h st b hb => by
    have e : b = it := by simpa using hb
    subst e
    exact ⟨_, st, fun v z => by
      have z' : Data.fields _ = Data.cell v := z
      cases z'⟩
  keep := fun i h h' st k => k it (by simp) _ st
  item := by
    intro X hP hw hK hc i pins s σ H E I hf st hg
    subst hP hw hK
    obtain ⟨f0, f1, f2, f3, f4, f5⟩ := hf it (by simp)
    have W := Walks.range (prog := X.prog) (w := X.w) (I.ok.hd hc) it lo 1 n
    refine W.item i s _ _ hg st fun v h' tk hv st' kk => ?_
    obtain ⟨t, rfl⟩ := hv
    have I1 : Inv X pins σ H { s with heap := h', toks := tk } := I.turned (fun b o hb e => kk b o (by simpa using hb) e) f0 f1 f3 f4 f5
    refine ⟨_, rfl, go_of (s := { s with heap := h', toks := tk }) (n := "range_iterator") st' rfl rfl (by decide) ⟨.int (lo + i), H, I1, ⟨t, ?_⟩, ⟨rfl, rfl⟩, st', fun b hb => (hf b hb).1⟩⟩
    rw [Int.mul_one]
  done := by
    intro X hP hw hK hc i pins s σ H E I hf st hg
    subst hP hw hK
    obtain ⟨f0, f1, f2, f3, f4, f5⟩ := hf it (by simp)
    exact wpAny_pyNext_range_end (I.ok.hd hc) st (by have : n ≤ i := hg; omega) fun h' eb => ⟨rfl, I.turned (t' := s.toks) (fun b o hb e => eb b o hb e) f0 f1 f3 f4 f5⟩
  self := fun _ _ _ _ _ st h => wpAny_pyIter_rangeiter st h
end L2

namespace L2
open PySem PySem.Spec PyProof.Rows
section
variable {X : Cx} {tg : Expr}
noncomputable def iList (K : PySem.W.Frag) (tl : TE) : TI := fun σ H R => tl σ H fun x H1 => ∃ a, x = .ref a ∧ (∃ xs, SqL K H1 a xs) ∧ R (Itl K a) H1
noncomputable def iTup (K : PySem.W.Frag) (tl : TE) : TI := fun σ H R => tl σ H fun x H1 => ∃ a, x = .ref a ∧ (∃ xs, SqT K H1 a xs) ∧ R (Itt K a) H1
theorem pi_list {l : Expr} {tl : TE} (hl : PE X l tl) : PI X tg l (iList X.K tl) := by
  intro pins s σ H R I h
  refine thn (hl pins s σ H _ I h) fun v s1 ⟨x, H1, I1, r1, q1⟩ => ?_
  obtain ⟨a, e, ⟨xs, hq⟩, q⟩ := q1
  subst e
  cases r1
  obtain ⟨its, rv, p, hz⟩ := I1.list hq
  refine wpAny_pyIter_list p.isList ?_
  refine ⟨s1.heap.objs.size, [s1.heap.objs.size], _, _, H1, rfl, I1.kept (t' := s1.toks) fun b o e => Heap.get?_push_of_some _ e, turn_list a _, ⟨_, Heap.get?_push_size _ rfl, rfl, rfl⟩, fun b hb => ?_, q⟩
  have e : b = s1.heap.objs.size := by simpa using hb
  subst e
  exact I1.fpOk (Nat.le_refl _) (I1.hok.fresh (Nat.le_refl _))
theorem pi_tup {l : Expr} {tl : TE} (hl : PE X l tl) : PI X tg l (iTup X.K tl) := by
  intro pins s σ H R I h
  refine thn (hl pins s σ H _ I h) fun v s1 ⟨x, H1, I1, r1, q1⟩ => ?_
  obtain ⟨a, e, ⟨xs, hq⟩, q⟩ := q1
  subst e
  cases r1
  obtain ⟨its, rv, p, hz⟩ := I1.tuple hq
  refine wpAny_pyIter_tuple (show s1.heap.IsTuple a its.toArray from p) ?_
  refine ⟨s1.heap.objs.size, [s1.heap.objs.size], _, _, H1, rfl, I1.kept (t' := s1.toks) fun b o e => Heap.get?_push_of_some _ e, turn_tuple a _, ⟨_, Heap.get?_push_size _ rfl, rfl, rfl⟩, fun b hb => ?_, q⟩
  have e : b = s1.heap.objs.size := by simpa using hb
  subst e
  exact I1.fpOk (Nat.le_refl _) (I1.hok.fresh (Nat.le_refl _))
/-- a range object just made, walked -/
theorem range_it {pins : List (Addr × Obj)} {σ : St} {H : Hp} {s : Shared} {R : It → Hp → Prop} {E : Value → Shared → Prop} {lo hi : Int} {t u v : Tok} {tk : Nat} (I : Inv X pins σ H s) (h1 : -(2 ^ 62) ≤ lo) (h2 : lo < 2 ^ 62) (h3 : -(2 ^ 62) ≤ hi) (h4 : hi < 2 ^ 62)
    (q : R (Itr lo (hi - lo).toNat) H) : wpAny (model X.prog X.w) X.A (pyIter (.ref s.heap.objs.size)) (PIE X pins σ tg R) E { s with heap := s.heap.push { cls := .type "range", data := .fields #[.int lo t, .int hi u, .int 1 v] }, toks := tk } := by
  refine wpAny_pyIter_range (IsRange.new ..) (small_one h1 h2 h3 h4) ?_
  have I1 : Inv X pins σ H { s with heap := s.heap.push { cls := .type "range", data := .fields #[.int lo t, .int hi u, .int 1 v] }, toks := tk } := I.kept fun b o e => Heap.get?_push_of_some _ e
  refine ⟨(s.heap.push { cls := .type "range", data := .fields #[.int lo t, .int hi u, .int 1 v] }).objs.size, [(s.heap.push { cls := .type "range", data := .fields #[.int lo t, .int hi u, .int 1 v] }).objs.size], _, _, H, rfl,
    I1.kept (t' := tk) fun b o e => Heap.get?_push_of_some _ e, turn_range _ lo (hi - lo).toNat, ?_, fun b hb => ?_, q⟩
  · have e1 : lo + ((0 : Nat) : Int) * 1 = lo := by simp
    have e2 : (((hi - lo).toNat : Nat) : Int) - ((0 : Nat) : Int) = Builtin.Range.rangeSize lo hi 1 := by rw [rangeSize_one]; split <;> omega
    show IsRangeIter _ _ (lo + ((0 : Nat) : Int) * 1) ((((hi - lo).toNat : Nat) : Int) - ((0 : Nat) : Int)) 1
    rw [e1, e2]
    exact Heap.get?_push_size _ rfl
  · have e : b = (s.heap.push { cls := .type "range", data := .fields #[.int lo t, .int hi u, .int 1 v] }).objs.size := by simpa using hb
    subst e
    exact I1.fpOk (Nat.le_refl _) (I1.hok.fresh (Nat.le_refl _))
noncomputable def iRng1 (ta : TA) : TI := fun σ H R => ta σ H fun vs H1 => ∃ j : Int, vs = [.int j] ∧ -(2 ^ 62) ≤ j ∧ j < 2 ^ 62 ∧ R (Itr 0 j.toNat) H1
theorem pi_range1 {a : Expr} {ta : TA} {p pos : Pos} (hg : Gl X "range") (hm : X.mg "range" = none) (ha : PA X [a] ta) (hs : starEach [a] X.env = [(false, eval a X.env)] := by rfl) : PI X tg (.Call (.Name "range" p) [a] [] pos) (iRng1 ta) := by
  intro pins s σ H R I h
  refine Call_ (ld_blt I hg hm boot_range (PyProof.Rows.callWith_type1 (thn (ha pos pins s σ H _ I h) fun us s1 ⟨vs, H1, I1, r1, q1⟩ => ?_) hs rfl))
  obtain ⟨j, e, q1, q2, q⟩ := q1
  subst e
  cases r1 with
  | cons r rr =>
    cases rr
    obtain ⟨t, rfl⟩ := r
    exact call_range_1 (range_it I1 (by omega) (by omega) q1 q2 (by simpa using q))
/-! ### for -/
/-- W: the invariant by the turn and a measure; N: what the body is to reach -/
noncomputable def tFor (wi : TI) (g : TG) (tb : TS) : TS := fun D σ H => wi σ H fun J H1 => ∃ W : Nat → Nat → St → Hp → Prop, (∃ m, W 0 m σ H1) ∧ ∀ i m σ H, W i m σ H →
  (J.stop i H ∧ D.nx σ H) ∨ (J.go i H ∧ ∃ N : St → Hp → Prop, (∀ σ' H', N σ' H' → ∃ m', m' < m ∧ W (i + 1) m' σ' H') ∧ ∀ x H', J.yld i H x H' → g x σ H' fun σ2 H2 => tb { D with nx := N, ct := N, bk := D.nx } σ2 H2)
/-- the records at fp as they stand -/
noncomputable def pinsAt (fp : List Addr) (h : Heap) : List (Addr × Obj) := fp.filterMap fun b => (h.get? b).map fun o => (b, o)
theorem mem_pinsAt {fp : List Addr} {h : Heap} {b : Addr} {o : Obj} (hb : b ∈ fp) (e : h.get? b = some o) : (b, o) ∈ pinsAt fp h := List.mem_filterMap.mpr ⟨b, hb, by rw [e]; rfl⟩
theorem of_pinsAt {fp : List Addr} {h : Heap} {p : Addr × Obj} (hp : p ∈ pinsAt fp h) : p.1 ∈ fp ∧ h.get? p.1 = some p.2 := by
  obtain ⟨b, hb, e⟩ := List.mem_filterMap.mp hp
  cases q : h.get? b with
  | none => rw [q] at e; cases e
  | some o =>
    rw [q] at e
    have e' : (b, o) = p := Option.some.inj e
    subst e'
    exact ⟨hb, q⟩
theorem Inv.pinned {pins : List (Addr × Obj)} {σ : St} {H : Hp} {s : Shared} {fp : List Addr} (I : Inv X pins σ H s) (hf : ∀ b ∈ fp, FpOk X pins H b) (ho : ∀ b ∈ fp, ∃ o, s.heap.get? b = some o ∧ ∀ v, o.data ≠ .cell v) : Inv X (pins ++ pinsAt fp s.heap) σ H s :=
  I.pins_of fun p hp => (List.mem_append.mp hp).elim (fun z => I.pin p (List.mem_append_right _ z)) fun z => by
    obtain ⟨hb, e⟩ := of_pinsAt z
    obtain ⟨f0, f1, f2, _⟩ := hf p.1 hb
    obtain ⟨o, e', d⟩ := ho p.1 hb
    rw [e] at e'; cases e'
    exact ⟨e, f0, f1, f2, d⟩
theorem Inv.unpinned {pins pl : List (Addr × Obj)} {σ : St} {H : Hp} {s : Shared} (I : Inv X (pins ++ pl) σ H s) : Inv X pins σ H s := I.pins_of fun p hp => I.pin p (List.mem_append_right _ (List.mem_append_left _ hp))
theorem ps_for {iter : Expr} {body : List Stmt} {wi : TI} {g : TG} {tb : TS} {pos : Pos} (hp : PassesOwn (model X.prog X.w) X.A X.env X.xe) (hc : X.calm = true) (hi : PI X tg iter wi) (hg : PG X tg g) (hb : PSs X body tb)
    (hs : ∀ x, foldedSetIterable iter X.env x = pure x := by intro _; rfl) : PS X (.For tg iter body [] pos) (tFor wi g tb) := by
  intro pins s σ H D I h
  refine wpAny_For (thn (hi pins s σ H _ I h) fun v s1 h1 => thn h1 fun itv s2 h2 => ?_) hs
  obtain ⟨it, fp, tn, J, H2, e, I2, T, st2, f2, W, ⟨m0, w0⟩, turn⟩ := h2
  subst e
  -- what stays true of the iterator's objects through the loop
  have stat : ∀ {H' : Hp}, (∀ b ∈ fp, H' b = none) → ∀ b ∈ fp, FpOk X pins H' b := fun hn b hb => ⟨hn b hb, (f2 b hb).2⟩
  refine codeAny_forLoop_any (fun n s' => ∃ i σ' H', Inv X pins σ' H' s' ∧ tn i s'.heap ∧ (∀ b ∈ fp, H' b = none) ∧ W i n σ' H') ?_ m0 ⟨0, σ, H2, I2, st2, fun b hb => (f2 b hb).1, w0⟩
  rintro n s3 ⟨i, σ3, H3, I3, st3, fr3, w3⟩
  rcases turn i n σ3 H3 w3 with ⟨stop, qn⟩ | ⟨go, N, hN, step⟩
  · refine wpAny_passesOwn hp (thn (T.done X rfl rfl rfl hc i pins s3 σ3 H3 X.xe I3 (stat fr3) st3 stop) fun r s4 ⟨hr, I4⟩ => ?_)
    subst hr
    exact wpAny_execs_nil ⟨σ3, H3, I4, qn⟩
  · refine wpAny_passesOwn hp (thn (T.item X rfl rfl rfl hc i pins s3 σ3 H3 X.xe I3 (stat fr3) st3 go) fun r s4 ⟨u, hr, h4⟩ => ?_)
    subst hr
    refine wpAny_passesOwn hp (thn h4 fun _ s5 ⟨x, H5, I5, r5, y5, st5, fr5⟩ => ?_)
    have I5' := I5.pinned (stat fr5) (T.obj _ _ st5)
    refine wpAny_passesOwn hp (thn (hg _ s5 σ3 H5 x u _ I5' r5 (step x H5 y5)) fun _ s6 ⟨σ6, H6, I6, q6⟩ => ?_)
    refine wpAny_passesOwn hp (thn (hb _ s6 σ6 H6 _ I6 q6) fun f s7 q7 => ?_)
    have again : ∀ {σ7 : St} {H7 : Hp}, Inv X (pins ++ pinsAt fp s5.heap) σ7 H7 s7 → N σ7 H7 → ∃ m, m < n ∧ ∃ i σ' H', Inv X pins σ' H' s7 ∧ tn i s7.heap ∧ (∀ b ∈ fp, H' b = none) ∧ W i m σ' H' := fun {σ7 H7} I7 n7 => by
      obtain ⟨m', hm, w7⟩ := hN σ7 H7 n7
      refine ⟨m', hm, i + 1, σ7, H7, I7.unpinned, T.keep _ _ _ st5 fun b hb o e => (I7.pin (b, o) (List.mem_append_right _ (List.mem_append_right _ (mem_pinsAt hb e)))).1, fun b hb => ?_, w7⟩
      obtain ⟨o, e, d⟩ := T.obj _ _ st5 b hb
      exact (I7.pin (b, o) (List.mem_append_right _ (List.mem_append_right _ (mem_pinsAt hb e)))).2.1
    cases f with
    | next => obtain ⟨σ7, H7, I7, n7⟩ := q7; exact again I7 n7
    | cont => obtain ⟨σ7, H7, I7, n7⟩ := q7; exact again I7 n7
    | brk => obtain ⟨σ7, H7, I7, q7⟩ := q7; exact ⟨σ7, H7, I7.unpinned, q7⟩
    | ret v => obtain ⟨x7, σ7, H7, I7, r7, q7⟩ := q7; exact ⟨x7, σ7, H7, I7.unpinned, r7, q7⟩
end

/-! ### the forms one uses -/
/-- over a list that the body leaves as it is -/
theorem for_list {K : PySem.W.Frag} {a : Addr} {xs : List V} {g : TG} {tb : TS} {D : Ends} {σ : St} {H : Hp} (Pv : Nat → St → Hp → Prop) (h0 : Pv 0 σ H) (hl : ∀ i σ H, i ≤ xs.length → Pv i σ H → SqL K H a xs)
    (hs : ∀ i x σ H, xs[i]? = some x → Pv i σ H → g x σ H fun σ2 H2 => tb { D with nx := Pv (i + 1), ct := Pv (i + 1), bk := D.nx } σ2 H2) (hd : ∀ σ H, Pv xs.length σ H → D.nx σ H) :
    ∃ W : Nat → Nat → St → Hp → Prop, (∃ m, W 0 m σ H) ∧ ∀ i m σ H, W i m σ H →
      ((Itl K a).stop i H ∧ D.nx σ H) ∨ ((Itl K a).go i H ∧ ∃ N : St → Hp → Prop, (∀ σ' H', N σ' H' → ∃ m', m' < m ∧ W (i + 1) m' σ' H') ∧ ∀ x H', (Itl K a).yld i H x H' → g x σ H' fun σ2 H2 => tb { D with nx := N, ct := N, bk := D.nx } σ2 H2) := by
  refine ⟨fun i m σ H => m = xs.length - i ∧ i ≤ xs.length ∧ Pv i σ H, ⟨xs.length, by simp, Nat.zero_le _, h0⟩, ?_⟩
  rintro i m σ H ⟨rfl, hi, p⟩
  have q := hl i σ H hi p
  by_cases hlt : i < xs.length
  · refine .inr ⟨⟨xs, xs[i], q, by simp [hlt]⟩, Pv (i + 1), fun σ' H' p' => ⟨xs.length - (i + 1), by omega, rfl, hlt, p'⟩, fun x H' y => ?_⟩
    obtain ⟨e, y⟩ := y
    subst e
    exact hs i x σ _ (y xs q) p
  · have e : i = xs.length := by omega
    subst e
    exact .inl ⟨⟨xs, q, Nat.le_refl _⟩, hd σ H p⟩
theorem for_range {lo : Int} {n : Nat} {g : TG} {tb : TS} {D : Ends} {σ : St} {H : Hp} (Pv : Nat → St → Hp → Prop) (h0 : Pv 0 σ H)
    (hs : ∀ i σ H, i < n → Pv i σ H → g (.int (lo + i)) σ H fun σ2 H2 => tb { D with nx := Pv (i + 1), ct := Pv (i + 1), bk := D.nx } σ2 H2) (hd : ∀ σ H, Pv n σ H → D.nx σ H) :
    ∃ W : Nat → Nat → St → Hp → Prop, (∃ m, W 0 m σ H) ∧ ∀ i m σ H, W i m σ H →
      ((Itr lo n).stop i H ∧ D.nx σ H) ∨ ((Itr lo n).go i H ∧ ∃ N : St → Hp → Prop, (∀ σ' H', N σ' H' → ∃ m', m' < m ∧ W (i + 1) m' σ' H') ∧ ∀ x H', (Itr lo n).yld i H x H' → g x σ H' fun σ2 H2 => tb { D with nx := N, ct := N, bk := D.nx } σ2 H2) := by
  refine ⟨fun i m σ H => m = n - i ∧ i ≤ n ∧ Pv i σ H, ⟨n, by simp, Nat.zero_le _, h0⟩, ?_⟩
  rintro i m σ H ⟨rfl, hi, p⟩
  by_cases hlt : i < n
  · refine .inr ⟨hlt, Pv (i + 1), fun σ' H' p' => ⟨n - (i + 1), by omega, rfl, hlt, p'⟩, fun x H' y => ?_⟩
    obtain ⟨e, y⟩ := y
    subst e y
    exact hs i σ _ hlt p
  · have e : i = n := by omega
    subst e
    exact .inl ⟨Nat.le_refl _, hd σ H p⟩
/-- while, by a word and a measure of the state -/
theorem while_by {c : TT} {tb : TS} {D : Ends} {σ : St} {H : Hp} (Pv : St → Hp → Prop) (μ : St → Hp → Nat) (h0 : Pv σ H)
    (hs : ∀ σ H, Pv σ H → c σ H fun b H1 => if b = true then tb { D with nx := fun σ' H' => Pv σ' H' ∧ μ σ' H' < μ σ H, ct := fun σ' H' => Pv σ' H' ∧ μ σ' H' < μ σ H, bk := D.nx } σ H1 else D.nx σ H1)
    (mono : ∀ σ H Q Q', (∀ b H1, Q b H1 → Q' b H1) → c σ H Q → c σ H Q') : tWhile c tb D σ H := by
  refine ⟨fun m σ H => m = μ σ H ∧ Pv σ H, ⟨_, rfl, h0⟩, ?_⟩
  rintro m σ H ⟨rfl, p⟩
  refine mono σ H _ _ (fun b H1 q => ?_) (hs σ H p)
  cases b with
  | true => exact ⟨_, fun σ' H' ⟨p', l⟩ => ⟨_, l, rfl, p'⟩, q⟩
  | false => exact q
end L2

namespace L2
open PySem PySem.Spec PyProof.Rows

noncomputable abbrev R2 := V → V → Hp → VK → Prop
/-- a two-place operation on values: f is binaryOp op, inplaceOp op or compareOp op -/
noncomputable def OpR (X : Cx) (f : Value → Value → Sem Value) (r : R2) : Prop :=
  ∀ (pins : List (Addr × Obj)) (s : Shared) (σ : St) (H : Hp) (x y : V) (v u : Value) (Q : VK), Inv X pins σ H s → RelV x v → RelV y u → r x y H Q →
    wpAny (model X.prog X.w) X.A (f v u) (EP X pins σ Q) X.xe s
/-- a one-place operation -/
noncomputable def UnR (X : Cx) (f : Value → Sem Value) (r : V → Hp → VK → Prop) : Prop :=
  ∀ (pins : List (Addr × Obj)) (s : Shared) (σ : St) (H : Hp) (x : V) (v : Value) (Q : VK), Inv X pins σ H s → RelV x v → r x H Q →
    wpAny (model X.prog X.w) X.A (f v) (EP X pins σ Q) X.xe s
/-- a call of a value that is known (a builtin, a type) with values -/
noncomputable def CallR (X : Cx) (f : Value) (r : List V → Hp → VK → Prop) : Prop :=
  ∀ (pins : List (Addr × Obj)) (s : Shared) (σ : St) (H : Hp) (xs : List V) (us : List Value) (Q : VK), Inv X pins σ H s → Vals xs us → r xs H Q →
    wpAny (model X.prog X.w) X.A (call f us) (EP X pins σ Q) X.xe s
/-- a value's truth -/
noncomputable def tOp (r : R2) (ta tb : TE) : TE := fun σ H Q => ta σ H fun x H1 => tb σ H1 fun y H2 => r x y H2 Q
noncomputable def tUn (r : V → Hp → VK → Prop) (ta : TE) : TE := fun σ H Q => ta σ H fun x H1 => r x H1 Q
/-- ints in, under C, and a value out -/
noncomputable def rI (C : Int → Int → Prop) (g : Int → Int → V) : R2 := fun x y H Q => ∃ i j, x = .int i ∧ y = .int j ∧ C i j ∧ Q (g i j) H
noncomputable def rI0 (g : Int → Int → V) : R2 := fun x y H Q => ∃ i j, x = .int i ∧ y = .int j ∧ Q (g i j) H
noncomputable def rU (g : Int → V) : V → Hp → VK → Prop := fun x H Q => ∃ i, x = .int i ∧ Q (g i) H

section
variable {X : Cx} {a b c : Expr} {ta tb tc : TE} {pos : Pos}

theorem binT (ha : PE X a ta) (hb : PE X b tb) {pins : List (Addr × Obj)} {s : Shared} {σ : St} {H : Hp} {R : V → V → Hp → Prop} (I : Inv X pins σ H s)
    (h : ta σ H fun x H1 => tb σ H1 fun y H2 => R x y H2) {Q : Value → Shared → Prop} {f : Value → Value → Sem Value}
    (hf : ∀ v u s2 x y H2, Inv X pins σ H2 s2 → RelV x v → RelV y u → R x y H2 → wpAny (model X.prog X.w) X.A (f v u) Q X.xe s2) :
    wpAny (model X.prog X.w) X.A (eval a X.env) (fun v s₁ => wpAny (model X.prog X.w) X.A (eval b X.env) (fun u s₂ => wpAny (model X.prog X.w) X.A (f v u) Q X.xe s₂) X.xe s₁) X.xe s := by
  refine thn (ha pins s σ H _ I h) fun v s1 ⟨x, H1, I1, r1, q1⟩ => ?_
  refine thn (hb pins s1 σ H1 _ I1 q1) fun u s2 ⟨y, H2, I2, r2, q2⟩ => ?_
  exact hf v u s2 x y H2 I2 r1 r2 q2

theorem pe_op {op : Operator} {r : R2} (ho : OpR X (binaryOp op) r) (ha : PE X a ta) (hb : PE X b tb) : PE X (.BinOp a op b pos) (tOp r ta tb) := by
  intro pins s σ H Q I h
  exact wpAny_BinOp (binT ha hb I h fun v u s2 x y H2 I2 rx ry q => ho pins s2 σ H2 x y v u Q I2 rx ry q)
theorem pe_un {op : UnaryOp} {r : V → Hp → VK → Prop} (ho : UnR X (unaryOp op) r) (ha : PE X a ta) : PE X (.UnaryOp op a pos) (tUn r ta) := by
  intro pins s σ H Q I h
  exact UnaryOp_ (thn (ha pins s σ H _ I h) fun v s1 ⟨x, H1, I1, r1, q1⟩ => ho pins s1 σ H1 x v Q I1 r1 q1)
/-! ### ints -/
theorem opI {f : Value → Value → Sem Value} {C : Int → Int → Prop} {g : Int → Int → Int}
    (rule : ∀ (i j : Int) (t u : Tok) (s : Shared) (Q : Value → Shared → Prop) (E : Value → Shared → Prop), C i j → Q (.int (g i j) s.toks) { s with toks := s.toks + 1 } → wpAny (model X.prog X.w) X.A (f (.int i t) (.int j u)) Q E s) :
    OpR X f (rI C fun i j => .int (g i j)) := by
  intro pins s σ H x y v u Q I rx ry h
  obtain ⟨i, j, rfl, rfl, hc, q⟩ := h
  obtain ⟨t, rfl⟩ := rx
  obtain ⟨t', rfl⟩ := ry
  exact rule i j t t' s _ _ hc ⟨.int (g i j), H, I.tok _, ⟨_, rfl⟩, q⟩
theorem opI0 {f : Value → Value → Sem Value} {g : Int → Int → Int}
    (rule : ∀ (i j : Int) (t u : Tok) (s : Shared) (Q : Value → Shared → Prop) (E : Value → Shared → Prop), Q (.int (g i j) s.toks) { s with toks := s.toks + 1 } → wpAny (model X.prog X.w) X.A (f (.int i t) (.int j u)) Q E s) :
    OpR X f (rI0 fun i j => .int (g i j)) := by
  intro pins s σ H x y v u Q I rx ry h
  obtain ⟨i, j, rfl, rfl, q⟩ := h
  obtain ⟨t, rfl⟩ := rx
  obtain ⟨t', rfl⟩ := ry
  exact rule i j t t' s _ _ ⟨.int (g i j), H, I.tok _, ⟨_, rfl⟩, q⟩
theorem opB0 {f : Value → Value → Sem Value} {g : Int → Int → Bool}
    (rule : ∀ (i j : Int) (t u : Tok) (s : Shared) (Q : Value → Shared → Prop) (E : Value → Shared → Prop), Q (.bool (g i j)) s → wpAny (model X.prog X.w) X.A (f (.int i t) (.int j u)) Q E s) :
    OpR X f (rI0 fun i j => .bl (g i j)) := by
  intro pins s σ H x y v u Q I rx ry h
  obtain ⟨i, j, rfl, rfl, q⟩ := h
  obtain ⟨t, rfl⟩ := rx
  obtain ⟨t', rfl⟩ := ry
  exact rule i j t t' s _ _ ⟨.bl (g i j), H, I, rfl, q⟩

noncomputable def CDiv (i j : Int) : Prop := 0 < j ∧ j < 1073741824
noncomputable def CPow (i j : Int) : Prop := 0 ≤ j ∧ j ≤ 1000000 ∧ i.natAbs < 2 ^ 64
noncomputable def CMul (i j : Int) : Prop := (-(2 ^ 64) < i ∧ i < 2 ^ 64) ∨ (-(2 ^ 64) < j ∧ j < 2 ^ 64)
theorem CMul.ok {i j : Int} (h : CMul i j) : IntMulOk i j := by
  rcases h with ⟨h1, h2⟩ | ⟨h1, h2⟩
  · exact .of_left (intBits_le_64 h1 h2)
  · exact .of_right (intBits_le_64 h1 h2)
theorem op_add : OpR X (binaryOp .Add) (rI0 fun i j => .int (i + j)) := opI0 fun _ _ _ _ _ _ _ q => add_int q
theorem op_sub : OpR X (binaryOp .Sub) (rI0 fun i j => .int (i - j)) := opI0 fun _ _ _ _ _ _ _ q => sub_int q
/-- // by a positive divisor -/
theorem op_fdiv : OpR X (binaryOp .FloorDiv) (rI CDiv fun i j => .int (i / j)) := opI fun i j _ _ _ _ _ hc q => by
  have h1 : (0 : Int) < j := hc.1
  have h2 : j < 1073741824 := hc.2
  exact floordiv_int (by omega) (by rw [Int.fdiv_eq_ediv_of_nonneg i (by omega)]; exact q) (.inl (PyProof.noPylong_small (by omega)))
/-- % by a positive divisor of any size -/
theorem op_mod : OpR X (binaryOp .Mod) (rI (fun _ j => 0 < j) fun i j => .int (i % j)) := opI fun i j _ _ _ _ _ hc q => by
  have h1 : (0 : Int) < j := hc
  exact mod_int' (by omega) (by rw [Int.fmod_eq_emod_of_nonneg i (by omega)]; exact q)
theorem op_modN : OpR X (binaryOp .Mod) (rI (fun _ j => j ≠ 0) fun i j => .int (i.fmod j)) := opI fun _ _ _ _ _ _ _ hc q => mod_int' hc q
theorem op_pow : OpR X (binaryOp .Pow) (rI CPow fun i j => .int (i ^ j.toNat)) := opI fun _ _ _ _ _ _ _ hc q => pow_int_small hc.1 hc.2.1 hc.2.2 q
theorem op_shl : OpR X (binaryOp .LShift) (rI CPow fun i j => .int (i * 2 ^ j.toNat)) := opI fun _ _ _ _ _ _ _ hc q => lshift_int_small hc.1 hc.2.1 hc.2.2 q
theorem unI {f : Value → Sem Value} {g : Int → Int}
    (rule : ∀ (i : Int) (t : Tok) (s : Shared) (Q : Value → Shared → Prop) (E : Value → Shared → Prop), Q (.int (g i) s.toks) { s with toks := s.toks + 1 } → wpAny (model X.prog X.w) X.A (f (.int i t)) Q E s) :
    UnR X f (rU fun i => .int (g i)) := by
  intro pins s σ H x v Q I rx h
  obtain ⟨i, rfl, q⟩ := h
  obtain ⟨t, rfl⟩ := rx
  exact rule i t s _ _ ⟨.int (g i), H, I.tok _, ⟨_, rfl⟩, q⟩
theorem un_neg : UnR X (unaryOp .USub) (rU fun i => .int (-i)) := unI fun _ _ _ _ _ q => neg_int q
/-! ### bools among ints: n += (a < b) -/
end

/-! ### comparisons -/
/-- the scalars that == tells apart as data does -/
noncomputable def scal : V → V → Bool
  | .non, .non => true | .non, .int _ => true | .int _, .non => true | .non, .bl _ => true | .bl _, .non => true | .non, .str _ => true | .str _, .non => true
  | .int _, .int _ => true | .bl _, .bl _ => true | .str _, .str _ => true | .byt _, .byt _ => true
  | .int _, .str _ => true | .str _, .int _ => true | .bl _, .str _ => true | .str _, .bl _ => true
  | _, _ => false
noncomputable def rEq : R2 := fun x y H Q => scal x y = true ∧ Q (.bl (decide (x = y))) H
noncomputable def rNe : R2 := fun x y H Q => scal x y = true ∧ Q (.bl (!decide (x = y))) H

theorem dec_int {i j : Int} : decide (V.int i = V.int j) = (i == j) := by
  rw [Bool.eq_iff_iff]
  simp
theorem dec_bl {i j : Bool} : decide (V.bl i = V.bl j) = (i == j) := by
  rw [Bool.eq_iff_iff]
  simp
theorem dec_str {i j : Str} : decide (V.str i = V.str j) = (i == j) := by
  rw [Bool.eq_iff_iff]
  simp
theorem dec_byt {i j : Array UInt8} : decide (V.byt i = V.byt j) = (i.toList == j.toList) := by
  rw [Bool.eq_iff_iff]
  cases i
  cases j
  simp

section
variable {X : Cx} {a b c : Expr} {ta tb tc : TE} {pos : Pos}
theorem fin_bl {pins : List (Addr × Obj)} {σ : St} {H : Hp} {s : Shared} {Q : VK} {k k' : Bool} (I : Inv X pins σ H s) (q : Q (.bl k) H) (e : k = k') : EP X pins σ Q (.bool k') s := by
  subst e
  exact ⟨.bl k, H, I, rfl, q⟩
theorem op_eq : OpR X (compareOp .Eq) rEq := by
  intro pins s σ H x y v u Q I rx ry h
  obtain ⟨hs, q⟩ := h
  cases x with
  | non =>
    cases rx
    cases y with
    | non => cases ry; exact PySem.EqNone.eq_none_none (fin_bl I q (by simp))
    | bl j => cases ry; exact PySem.EqNone.eq_none_bool (fin_bl I q (by simp))
    | int j => obtain ⟨t', rfl⟩ := ry; exact PySem.EqNone.eq_none_int (fin_bl I q (by simp))
    | str j => obtain ⟨t', rfl⟩ := ry; exact PySem.EqNone.eq_none_str (fin_bl I q (by simp))
    | _ => exact absurd (show false = true from hs) Bool.false_ne_true
  | bl i =>
    cases rx
    cases y with
    | non => cases ry; exact PySem.EqNone.eq_bool_none (fin_bl I q (by simp))
    | bl j => cases ry; exact eq_bool (fin_bl I q dec_bl)
    | str j => obtain ⟨t', rfl⟩ := ry; exact PySem.EqMixed.eq_bool_str (fin_bl I q (by simp))
    | _ => exact absurd (show false = true from hs) Bool.false_ne_true
  | int i =>
    obtain ⟨t, rfl⟩ := rx
    cases y with
    | non => cases ry; exact PySem.EqNone.eq_int_none (fin_bl I q (by simp))
    | int j => obtain ⟨t', rfl⟩ := ry; exact eq_int (fin_bl I q dec_int)
    | str j => obtain ⟨t', rfl⟩ := ry; exact PySem.EqMixed.eq_int_str (fin_bl I q (by simp))
    | _ => exact absurd (show false = true from hs) Bool.false_ne_true
  | str i =>
    obtain ⟨t, rfl⟩ := rx
    cases y with
    | non => cases ry; exact PySem.EqNone.eq_str_none (fin_bl I q (by simp))
    | bl j => cases ry; exact PySem.EqMixed.eq_str_bool (fin_bl I q (by simp))
    | int j => obtain ⟨t', rfl⟩ := ry; exact PySem.EqMixed.eq_str_int (fin_bl I q (by simp))
    | str j => obtain ⟨t', rfl⟩ := ry; exact eq_str (fin_bl I q dec_str)
    | _ => exact absurd (show false = true from hs) Bool.false_ne_true
  | byt i =>
    obtain ⟨t, rfl⟩ := rx
    cases y with
    | byt j => obtain ⟨t', rfl⟩ := ry; exact PySem.W.eq_bytes (fin_bl I q dec_byt)
    | _ => exact absurd (show false = true from hs) Bool.false_ne_true
  | _ => cases y <;> exact absurd (show false = true from hs) Bool.false_ne_true
theorem op_ne : OpR X (compareOp .NotEq) rNe := by
  intro pins s σ H x y v u Q I rx ry h
  obtain ⟨hs, q⟩ := h
  cases x with
  | non =>
    cases rx
    cases y with
    | non => cases ry; exact PySem.EqNone.ne_none_none (fin_bl I q (by simp))
    | bl j => cases ry; exact PySem.EqNone.ne_none_bool (fin_bl I q (by simp))
    | int j => obtain ⟨t', rfl⟩ := ry; exact PySem.EqNone.ne_none_int (fin_bl I q (by simp))
    | str j => obtain ⟨t', rfl⟩ := ry; exact PySem.EqNone.ne_none_str (fin_bl I q (by simp))
    | _ => exact absurd (show false = true from hs) Bool.false_ne_true
  | bl i =>
    cases rx
    cases y with
    | non => cases ry; exact PySem.EqNone.ne_bool_none (fin_bl I q (by simp))
    | bl j => cases ry; exact ne_bool (fin_bl I q (congrArg not dec_bl))
    | str j => obtain ⟨t', rfl⟩ := ry; exact PySem.EqMixed.ne_bool_str (fin_bl I q (by simp))
    | _ => exact absurd (show false = true from hs) Bool.false_ne_true
  | int i =>
    obtain ⟨t, rfl⟩ := rx
    cases y with
    | non => cases ry; exact PySem.EqNone.ne_int_none (fin_bl I q (by simp))
    | int j => obtain ⟨t', rfl⟩ := ry; exact ne_int (fin_bl I q (congrArg not dec_int))
    | str j => obtain ⟨t', rfl⟩ := ry; exact PySem.EqMixed.ne_int_str (fin_bl I q (by simp))
    | _ => exact absurd (show false = true from hs) Bool.false_ne_true
  | str i =>
    obtain ⟨t, rfl⟩ := rx
    cases y with
    | non => cases ry; exact PySem.EqNone.ne_str_none (fin_bl I q (by simp))
    | bl j => cases ry; exact PySem.EqMixed.ne_str_bool (fin_bl I q (by simp))
    | int j => obtain ⟨t', rfl⟩ := ry; exact PySem.EqMixed.ne_str_int (fin_bl I q (by simp))
    | str j => obtain ⟨t', rfl⟩ := ry; exact ne_str (fin_bl I q (congrArg not dec_str))
    | _ => exact absurd (show false = true from hs) Bool.false_ne_true
  | byt i =>
    obtain ⟨t, rfl⟩ := rx
    cases y with
    | byt j => obtain ⟨t', rfl⟩ := ry; exact PySem.W.ne_bytes (fin_bl I q (congrArg not dec_byt))
    | _ => exact absurd (show false = true from hs) Bool.false_ne_true
  | _ => cases y <;> exact absurd (show false = true from hs) Bool.false_ne_true

theorem op_lt : OpR X (compareOp .Lt) (rI0 fun i j => .bl (decide (i < j))) := opB0 fun _ _ _ _ _ _ _ q => lt_int q
theorem op_gt : OpR X (compareOp .Gt) (rI0 fun i j => .bl (decide (j < i))) := opB0 fun _ _ _ _ _ _ _ q => gt_int q
/-- two rules for one operation: by cases -/
theorem nomark (b : Expr) {op : CmpOp} (h : op ≠ .In := by decide) (h2 : op ≠ .NotIn := by decide) : behindInMarks op b = false := by
  have e1 : (op == CmpOp.In) = false := by cases op <;> first | rfl | exact absurd rfl h
  have e2 : (op == CmpOp.NotIn) = false := by cases op <;> first | rfl | exact absurd rfl h2
  cases b <;> simp [behindInMarks, e1, e2]
/-- a comparison as a value; hm: nomark b, or (for in, not in) by with_unfolding_all rfl -/
theorem pe_cmpR {op : CmpOp} {r : R2} (ho : OpR X (compareOp op) r) (ha : PE X a ta) (hb : PE X b tb) (hm : behindInMarks op b = false) : PE X (.Compare a [op] [b] pos) (tOp r ta tb) := by
  intro pins s σ H Q I h
  exact wpAny_Compare1 (binT ha hb I h fun v u s2 x y H2 I2 rx ry q => ho pins s2 σ H2 x y v u Q I2 rx ry q) hm
/-- a reading of a value as a test -/
noncomputable def tTest (t : TE) : TT := fun σ H Q => t σ H fun x H' => ∃ k, x = .bl k ∧ Q k H'
theorem pt_cmpR {op : CmpOp} {r : R2} (ho : OpR X (compareOp op) r) (ha : PE X a ta) (hb : PE X b tb) (hm : behindInMarks op b = false) : PT X (.Compare a [op] [b] pos) (tTest (tOp r ta tb)) := by
  intro pins s σ H Q I h
  refine wpAny_isTrue_Compare1 (thn (ha pins s σ H _ I h) fun v s1 ⟨x, H1, I1, r1, q1⟩ => thn (hb pins s1 σ H1 _ I1 q1) fun u s2 ⟨y, H2, I2, r2, q2⟩ =>
    thn (ho pins s2 σ H2 x y v u _ I2 r1 r2 q2) fun c s3 ⟨z, H3, I3, r3, k, e, q3⟩ => ?_) hm
  subst e
  cases r3
  exact wpAny_truthy_bool ⟨H3, I3, q3⟩
/-! ### truth -/
/-- a value's truth by the abstract heap -/
theorem line63 : (sizeLine : Nat) < 2 ^ 63 := by rw [sizeLine_eq]; decide
/-! ### strs and bytes -/
/-! ### scalar builtins, by CallR -/
theorem vals1 {x : V} {us : List Value} (r : Vals [x] us) : ∃ u, us = [u] ∧ RelV x u := by
  cases r with
  | cons r1 r2 => cases r2; exact ⟨_, rfl, r1⟩
theorem call_abs : CallR X (.builtin "abs") (fun xs H Q => ∃ i, xs = [.int i] ∧ Q (.int (if i < 0 then -i else i)) H) := by
  intro pins s σ H xs us Q I r h
  obtain ⟨i, rfl, q⟩ := h
  obtain ⟨u, rfl, t, rfl⟩ := vals1 r
  exact call_abs_int fun u tk => ⟨.int (if i < 0 then -i else i), H, I.tok _, ⟨_, rfl⟩, q⟩
end
end L2

namespace L2
open PySem PySem.Spec PyProof.Rows

/-! ### an instance, its attributes a map -/
structure ObjM (h : Heap) (x dx C : Addr) (mA : Str → Option Value) : Prop where
  obj : h.get? x = some (PySem.W.instObj C dx)
  ns : h.Ns1 dx mA
  ne : dx ≠ x

theorem lookIn_ns {h : Heap} {dx : Addr} {mA : Str → Option Value} (n : h.Ns1 dx mA) : ∃ od, h.get? dx = some od ∧ ∀ name, PySem.W.lookIn name od = some (mA name) := by
  obtain ⟨o, es, ep, ho, hd, hk, _, hm⟩ := n
  refine ⟨o, ho, fun name => ?_⟩
  have e := hm name
  unfold nsFind findBy at e
  rw [← Array.find?_toList] at e
  unfold PySem.W.lookIn
  rw [hd]
  dsimp only
  split
  · rename_i y q
    rw [q] at e
    exact congrArg some e
  · rename_i q
    rw [q] at e
    have a : es.toList.any (·.refKey) = false := by
      rw [List.any_eq_false]
      intro y hy
      obtain ⟨z, t, hkey⟩ := hk y (Array.mem_toList_iff.mp hy)
      simp [DictEntry.refKey, hkey]
    have a' : ¬ es.toList.any (·.refKey) = true := by rw [a]; exact Bool.false_ne_true
    rw [if_neg a']
    exact congrArg some e

theorem ObjM.look {h : Heap} {x dx C : Addr} {mA : Str → Option Value} (I : ObjM h x dx C mA) : ∃ od, PySem.W.InstAt h x (PySem.W.instObj C dx) C (some od) ∧ ∀ name, PySem.W.lookIn name od = some (mA name) :=
  let ⟨od, ho, hl⟩ := lookIn_ns I.ns
  ⟨od, ⟨I.obj, rfl, rfl, ho⟩, hl⟩

section
variable {prog : Program} {w : World} {A : Around} {E : Value → Shared → Prop} {s : Shared} {K : PySem.W.Frag} {x dx C f : Addr} {mA : Str → Option Value} {name : Str} {v : Value}

end

/-! ### the attributes as a list of pairs -/
section
variable {P : Program} {w : World} {H H' : Hp} {h h' : Heap} {a C dx : Addr} {fs fs' : List (Str × V)}
theorem ins_get (hok : HOk P w H h) (e : H a = some (.ins C dx fs)) : ∃ mA, ObjM h a dx C mA ∧ (∀ f, RelO (fs.lookup f) (mA f)) ∧ PySem.Within mA (fs.map (·.1)) ∧ fs.length ≤ 1000 ∧ H dx = some (.own a) := by
  obtain ⟨d, z, ne, ob, mA, n, r, q⟩ := (show ObjOk P w H h a (.ins C dx fs) from hok a _ e)
  exact ⟨mA, ⟨ob, n, ne⟩, r, q, z, d⟩
end

/-! ### what of the text a class must have -/
structure Cls (K : PySem.W.Frag) (C : Addr) : Prop where
  pg : PySem.W.plainGet K C Str.empty = true
  hd : PySem.W.hasDictIn K C = true
  po : PySem.W.plainOver K C = true
  sa : PySem.W.findIn K (.ref C) "__setattr__" = some (some (.builtin "object.__setattr__"))
theorem Cls.get {K : PySem.W.Frag} {C : Addr} (c : Cls K C) (f : Str) : PySem.W.plainGet K C f = true := c.pg
section
variable {X : Cx} {pins : List (Addr × Obj)} {σ : St} {H : Hp} {s : Shared} {a C dx : Addr} {fs : List (Str × V)} {f : Str} {v : V} {A : Around} {E : Value → Shared → Prop}

end

/-! ### readings and rules -/
section
variable {X : Cx} {o e value : Expr} {f : Str} {pos pos' tpos : Pos} {ta tv : TE}
end

/-! ### isinstance -/
section
variable {X : Cx} {pins : List (Addr × Obj)} {σ : St} {H : Hp} {s : Shared} {A : Around} {E : Value → Shared → Prop} {Q : Value → Shared → Prop} {c : Value} {b : Bool}
/-- the type of a value, as the fragment's deciders take it; for an instance its class -/
inductive TyOf (K : PySem.W.Frag) (H : Hp) : V → Value → Prop where
  | non : TyOf K H .non (.type "NoneType")
  | bl (x : Bool) : TyOf K H (.bl x) (.type "bool")
  | int (i : Int) : TyOf K H (.int i) (.type "int")
  | str (x : Str) : TyOf K H (.str x) (.type "str")
  | flt (x : UInt64) : TyOf K H (.flt x) (.type "float")
  | lst {a : Addr} {xs : List V} (e : H a = some (.lst xs)) : TyOf K H (.ref a) (.type "list")
  | frz {a : Addr} {o : Obj} {xs : List V} (e : H a = some (.frz o (.lst xs))) : TyOf K H (.ref a) (.type "list")
  | tup {a : Addr} {xs : List V} (e : H a = some (.tup xs)) : TyOf K H (.ref a) (.type "tuple")
  | dK {a : Addr} {kvs : List (Key × V)} (e : H a = some (.dK kvs)) : TyOf K H (.ref a) (.type "dict")
  | dT {a : Addr} {kvs : List (List Key × V)} (e : H a = some (.dT kvs)) : TyOf K H (.ref a) (.type "dict")
  | ins {a C dx : Addr} {fs : List (Str × V)} (e : H a = some (.ins C dx fs)) (cl : Cls K C) (ha : PySem.W.findIn K (.ref C) "__class__" = some (some (.builtin "object.__class__")))
      (hn : PySem.W.specialIn K (.builtin "object.__class__") "__get__" = some (some (.builtin "getset_descriptor.__get__"))) (htk : PySem.W.takesIn K (.builtin "object.__class__") = some true)
      (hm : PySem.W.mroIn K C (.type "object") = some true) : TyOf K H (.ref a) (.ref C)
/-- isinstance(x, c) for one class c, a built-in or an own one: kitOne's answer -/
theorem isinst_ok {x : V} {u t : Value} (I : Inv X pins σ H s) (rx : RelV x u) (ty : TyOf X.K H x t) (e : PySem.W.kitOne X.K t c = some b) (h : ∀ tk, Q (.bool b) { s with toks := tk }) :
    wpAny (model X.prog X.w) A (call (.builtin "isinstance") [u, c]) Q E s := by
  cases ty with
  | non => cases (show u = Value.none from rx); exact PySem.W.kia_one PySem.W.kitx_none I.kIn True.intro e (fun z => nomatch z) h
  | bl y => cases (show u = Value.bool y from rx); exact PySem.W.kia_one PySem.W.kitx_bool I.kIn True.intro e (fun z => nomatch z) h
  | int i => obtain ⟨t, q⟩ := (show ∃ t, u = Value.int i t from rx); cases q; exact PySem.W.kia_one PySem.W.kitx_int I.kIn True.intro e (fun z => nomatch z) h
  | str y => obtain ⟨t, q⟩ := (show ∃ t, u = Value.str y t from rx); cases q; exact PySem.W.kia_one PySem.W.kitx_str I.kIn True.intro e (fun z => nomatch z) h
  | flt y => obtain ⟨t, q⟩ := (show ∃ t, u = Value.float y t from rx); cases q; exact PySem.W.kia_one PySem.W.kitx_float I.kIn True.intro e (fun z => nomatch z) h
  | @lst a xs ea =>
    cases (show u = Value.ref a from rx)
    obtain ⟨_, _, n, _, h1⟩ := (show ObjOk X.prog X.w H s.heap a (.lst xs) from I.hok a _ ea)
    exact PySem.W.kia_one PySem.W.kitx_list I.kIn ⟨_, h1, rfl⟩ e (fun z => nomatch z) h
  | @frz a ob xs ea =>
    cases (show u = Value.ref a from rx)
    obtain ⟨_, _, _, n, _, h1⟩ := (show ObjOk X.prog X.w H s.heap a (.frz ob (.lst xs)) from I.hok a _ ea)
    exact PySem.W.kia_one PySem.W.kitx_list I.kIn ⟨_, h1, rfl⟩ e (fun z => nomatch z) h
  | @tup a xs ea =>
    cases (show u = Value.ref a from rx)
    obtain ⟨_, _, _, p⟩ := (show ObjOk X.prog X.w H s.heap a (.tup xs) from I.hok a _ ea)
    obtain ⟨o, h1, h2, _⟩ := p
    exact PySem.W.kia_one PySem.W.kitx_tuple I.kIn ⟨o, h1, h2⟩ e (fun z => nomatch z) h
  | @dK a kvs ea =>
    cases (show u = Value.ref a from rx)
    obtain ⟨_, _, vs, _, p⟩ := (show ObjOk X.prog X.w H s.heap a (.dK kvs) from I.hok a _ ea)
    obtain ⟨o, es, ep, h1, h2, _⟩ := p
    exact PySem.W.kia_one PySem.W.kitx_dict I.kIn ⟨o, h1, h2.1⟩ e (fun z => nomatch z) h
  | @dT a kvs ea =>
    cases (show u = Value.ref a from rx)
    obtain ⟨_, _, xs, _, o, es, ep, h1, h2, _⟩ := (show ObjOk X.prog X.w H s.heap a (.dT kvs) from I.hok a _ ea)
    exact PySem.W.kia_one PySem.W.kitx_dict I.kIn ⟨o, h1, h2.1⟩ e (fun z => nomatch z) h
  | @ins a C dx fs ea cl ha hn htk hm =>
    cases (show u = Value.ref a from rx)
    obtain ⟨mA, O, _⟩ := ins_get I.hok ea
    obtain ⟨od, J, _⟩ := O.look
    exact PySem.W.kia_one (PySem.W.kitx_own (cl.get _) cl.hd ha hn htk hm) I.kIn J e (fun z => nomatch z) h
end
end L2

namespace L2
open PySem PySem.Spec PyProof.Rows

/-! ### room -/
structure Room (k : Nat) (A : Around) : Prop where
  hd : A.handled = none
  dp : A.depth + 3 * k + 5 < recursionLimit
  un : A.units + 16 * k + 200 < cLine
theorem Room.mono {j k : Nat} {A : Around} (r : Room k A) (h : j ≤ k) : Room j A := ⟨r.hd, by have := r.dp; omega, by have := r.un; omega⟩
theorem Room.deeper {k : Nat} {A : Around} (r : Room (k + 1) A) (env : Env) : Room k (A.deeper env) :=
  ⟨r.hd, by have := r.dp; show A.depth + 1 + 3 * k + 5 < _; omega, by have := r.un; show A.units + 3 + 16 * k + 200 < _; omega⟩
theorem Room.depth {k : Nat} {A : Around} (r : Room k A) : A.depth < recursionLimit := by have := r.dp; omega
theorem Room.units {k : Nat} {A : Around} (r : Room k A) : A.units + 64 < cLine := by have := r.un; omega
/-! ### argument lists and displays -/
noncomputable def tNil : TA := fun _ H Q => Q [] H
noncomputable def tCons (ta : TE) (tr : TA) : TA := fun σ H Q => ta σ H fun x H1 => tr σ H1 fun xs H2 => Q (x :: xs) H2
section
variable {X : Cx} {e : Expr} {es : List Expr} {te : TE} {t : TA} {pos : Pos}
theorem pa_nil : PA X [] tNil := fun _ _ _ _ H Q I h => Calls.spliced_nil ⟨[], H, I, .nil, h⟩
theorem pa_cons (ha : PE X e te) (hr : PA X es t) (hs : starEach (e :: es) X.env = (false, eval e X.env) :: starEach es X.env := by rfl) : PA X (e :: es) (tCons te t) := by
  intro pos pins s σ H Q I h
  rw [hs]
  show wpAny _ _ (spliced ((false, eval e X.env) :: backTo pos (starEach es X.env))) _ _ s
  refine Calls.spliced_cons (thn (ha pins s σ H _ I h) fun u s1 ⟨x, H1, I1, r1, q1⟩ => ?_)
  exact thn (hr pos pins s1 σ H1 _ I1 q1) fun us s2 ⟨xs, H2, I2, r2, q2⟩ => ⟨x :: xs, H2, I2, .cons r1 r2, q2⟩

/-- a tuple, a list of written items -/
noncomputable def tTup (t : TA) : TE := fun σ H Q => t σ H fun xs H1 => xs.length ≤ sizeLine ∧ ∀ p, H1 p = none → Q (.ref p) (upd H1 p (.tup xs))
noncomputable def tLst (t : TA) : TE := fun σ H Q => t σ H fun xs H1 => xs.length ≤ sizeLine ∧ ∀ p, H1 p = none → Q (.ref p) (upd H1 p (.lst xs))
theorem pe_tup {x1} (h : PA X es t) : PE X (.Tuple es x1 pos) (tTup t) := by
  intro pins s σ H Q I hq
  refine wpAny_Tuple_spliced (thn (h pos pins s σ H _ I hq) fun us s1 ⟨xs, H1, I1, r, z, q⟩ => ⟨by rw [← r.length]; exact z, ?_⟩)
  have hf : H1 s1.heap.objs.size = none := I1.hok.fresh (Nat.le_refl _)
  refine ⟨.ref s1.heap.objs.size, upd H1 s1.heap.objs.size (.tup xs), I1.laid (t' := s1.toks) (fun b u e => Heap.get?_push_of_some _ e) (Nat.le_refl _) ?_, rfl, q _ hf⟩
  exact ⟨z, us, r, ⟨_, Heap.get?_push_size _ rfl, rfl, _, rfl⟩⟩
theorem pe_lst (h : PA X es t) : PE X (.List es pos) (tLst t) := by
  intro pins s σ H Q I hq
  refine wpAny_List_spliced (thn (h pos pins s σ H _ I hq) fun us s1 ⟨xs, H1, I1, r, z, q⟩ => ⟨by rw [← r.length]; exact z, ?_⟩)
  have hf : H1 s1.heap.objs.size = none := I1.hok.fresh (Nat.le_refl _)
  refine ⟨.ref s1.heap.objs.size, upd H1 s1.heap.objs.size (.lst xs), I1.laid (t' := s1.toks) (fun b u e => Heap.get?_push_of_some _ e) (Nat.le_refl _) ?_, rfl, q _ hf⟩
  exact ⟨z, us, 0, r, Heap.get?_push_size _ rfl⟩
end

/-! ### what a def promises -/
/-- a def's promise: the bound arguments in the parameters' order, the heap, the wanted end, the wanted exception -/
noncomputable abbrev Sp := List V → Hp → VK → XK → Prop
/-- how an exception lies behind a call (file 08 gives it): the callers' frames, abstract heap and state ahead of the call, the wish, the exception, the state -/
noncomputable abbrev CXT := List Env → Hp → Shared → XK → Value → Shared → Prop

/-- the state at a call -/
structure Env0 (P : Program) (w : World) (K : PySem.W.Frag) (mg : Str → Option Value) (base : Heap) (A : Around) (outer : List Env) (s : Shared) (H : Hp) : Prop where
  frames : A.frames = some outer
  mod : Mod K mg base
  bs : ∀ b o, base.get? b = some o → s.heap.get? b = some o ∧ H b = none
  bsz : base.objs.size ≤ s.heap.objs.size
  funs : s.heap.FunFrames base outer
  frf : ∀ b ∈ frs outer, H b = none
  hok : HOk P w H s.heap
  bare : AllBare s.gens
/-- a call's end -/
noncomputable def CE (outer : List Env) (P : Program) (w : World) (H : Hp) (s : Shared) (Q : VK) (u : Value) (s' : Shared) : Prop :=
  ∃ v H', s'.os = s.os ∧ AllBare s'.gens ∧ Un (frs outer) [] H H' s.heap s'.heap ∧ HOk P w H' s'.heap ∧ RelV v u ∧ Q v H'
noncomputable def CR (CX : CXT) (outer : List Env) (P : Program) (w : World) (H : Hp) (s : Shared) (Q : VK) (E : XK) (r : Result) (s' : Shared) : Prop :=
  match r with
  | .ok (.ret u) => CE outer P w H s Q u s'
  | .ok _ => False
  | .error e => CX outer H s E e s'
structure FnOk (P : Program) (w : World) (K : PySem.W.Frag) (mg : Str → Option Value) (base : Heap) (CX : CXT) (k : Nat) (f : Addr) (fd : FuncData) (ps : List Str) (sp : Sp) : Prop where
  len : ∀ vs H Q E, sp vs H Q E → vs.length = ps.length
  run : ∀ (A : Around) (outer : List Env) (s : Shared) (H : Hp) (args : Args) (us : List Value) (vs : List V) (Q : VK) (E : XK), Room k A → Env0 P w K mg base A outer s H → BindsTo s fd args (ps.zip us) → Vals vs us → sp vs H Q E →
    codeAny (model P w) A (.call (.ref f) args) (CR CX outer P w H s Q E) s
theorem FnOk.mono {P : Program} {w : World} {K : PySem.W.Frag} {mg : Str → Option Value} {base : Heap} {CX : CXT} {j k : Nat} {f : Addr} {fd : FuncData} {ps : List Str} {sp : Sp} (F : FnOk P w K mg base CX j f fd ps sp) (h : j ≤ k) :
    FnOk P w K mg base CX k f fd ps sp := ⟨F.len, fun A outer s H args us vs Q E hr => F.run A outer s H args us vs Q E (hr.mono h)⟩
section
variable {X : Cx} {pins : List (Addr × Obj)} {σ : St} {H : Hp} {s s' : Shared}
/-- from a body: what a callee wants -/
theorem Inv.env0 (I : Inv X pins σ H s) : Env0 X.prog X.w X.K X.mg X.base X.A X.stack s H :=
  ⟨I.ok.frames, I.ok.mod, I.bs, Nat.le_trans I.ok.bsz I.sz, I.stack, I.stkFree, I.hok, I.bare⟩
/-- behind a call -/
theorem Inv.after {Q : VK} {u : Value} (I : Inv X pins σ H s) (h : CE X.stack X.prog X.w H s Q u s') : EP X pins σ Q u s' := by
  obtain ⟨v, H', os, bare, un, hok, r, q⟩ := h
  obtain ⟨hh, g, d, t, os'⟩ := s'
  obtain rfl : os' = s.os := os
  exact ⟨v, H', I.call (h' := hh) (g' := g) (d' := d) (t' := t) (ch := []) un hok bare (fun b z => absurd z (by simp)), r, q⟩
end

/-! ### calls -/
/-- f(..): the written arguments, then the defaults dvs; E: what is wanted of an exception -/
noncomputable def tCall (sp : Sp) (dvs : List V) (E : XK) (t : TA) : TE := fun σ H Q => t σ H fun vs H1 => sp (vs ++ dvs) H1 Q E
/-- how the parameters are bound: us the positional arguments, kw the keywords' values by name, ds the defaults that fill up -/
noncomputable def Binds (K : PySem.W.Frag) (fd : FuncData) (ps : List Str) (ds : List Value) : Prop :=
  ∀ (s : Shared) (us : List Value), K.In s.heap → (us ++ ds).length = ps.length → BindsTo s fd ⟨us, []⟩ (ps.zip (us ++ ds))
/-- every parameter is given -/
theorem Binds.all {K : PySem.W.Frag} {fd : FuncData} {ps : List Str} (h : ∀ us : List Value, us.length = ps.length → bindArgs fd ⟨us, []⟩ = pure (ps.zip us)) : Binds K fd ps [] := fun s us _ hl => by
  rw [List.append_nil] at hl ⊢
  exact .of_eq (h us hl)

/-- an exception of a callee reaches what this body wants of exceptions -/
noncomputable def Passes (CX : CXT) (X : Cx) (E : XK) : Prop := ∀ (pins : List (Addr × Obj)) (σ : St) (H : Hp) (s : Shared) (e : Value) (s' : Shared), Inv X pins σ H s → CX X.stack H s E e s' → X.xe e s'

section
variable {X : Cx} {CX : CXT} {k : Nat} {f C : Addr} {fd : FuncData} {ps : List Str} {sp : Sp} {dvs : List V} {ds : List Value} {E : XK} {x m : Str} {p pos apos : Pos} {e o : Expr} {es : List Expr} {ta : TE} {t : TA}

/-- the callee runs -/
theorem run_fn {pins : List (Addr × Obj)} {σ : St} {H : Hp} {s : Shared} {Q : VK} {us : List Value} {vs : List V} (F : FnOk X.prog X.w X.K X.mg X.base CX k f fd ps sp) (hr : Room k X.A) (hb : Binds X.K fd ps ds) (hd : Vals dvs ds) (hx : Passes CX X E)
    (I : Inv X pins σ H s) (r : Vals vs us) (h : sp (vs ++ dvs) H Q E) : wpAny (model X.prog X.w) X.A (call (.ref f) us) (EP X pins σ Q) X.xe s := by
  have r2 : Vals (vs ++ dvs) (us ++ ds) := r.append hd
  have hl : (us ++ ds).length = ps.length := by rw [← r2.length]; exact F.len _ _ _ _ h
  refine wpAny_call (codeAny_mono (F.run X.A X.stack s H ⟨us, []⟩ (us ++ ds) (vs ++ dvs) Q E hr I.env0 (hb s us I.kIn hl) r2 h) fun r s' hq => ?_)
  cases r with
  | error e => exact hx pins σ H s e s' I hq
  | ok fl =>
    cases fl with
    | ret u => exact I.after hq
    | next => exact False.elim hq
    | brk => exact False.elim hq
    | cont => exact False.elim hq

theorem pe_call (F : FnOk X.prog X.w X.K X.mg X.base CX k f fd ps sp) (hr : Room k X.A) (hg : Gl X x) (hm : X.mg x = some (.ref f)) (hk : PySem.W.keepIn X.K (.ref f) = true) (hb : Binds X.K fd ps ds) (hd : Vals dvs ds) (hx : Passes CX X E)
    (ha : PA X (e :: es) t) (hdb : (x == ("__debug__" : Str)) = false := by decide) (he : starEach (e :: es) X.env = (false, eval e X.env) :: starEach es X.env := by rfl) (hpl : (backTo pos (starEach es X.env)).any (·.1) = false := by rfl) :
    PE X (.Call (.Name x p) (e :: es) [] pos) (tCall sp dvs E t) := by
  intro pins s σ H Q I h
  refine wpAny_Call_Name_kw (ld_glob I hg hm ?_ hdb)
  refine PySem.W.callWith_K (h₀ := X.base) I.ok.mod.kin hk (thn (ha pos pins s σ H _ I h) fun us s1 ⟨vs, H1, I1, r, q⟩ => ⟨I1.kIn, ?_⟩) he hpl
  exact run_fn F hr hb hd hx I1 r q
end

/-! ### keywords -/
section
variable {X : Cx} {CX : CXT} {k : Nat} {f C : Addr} {fd : FuncData} {ps ks : List Str} {sp : Sp} {E : XK} {x m : Str} {p pos apos kpos : Pos} {e o : Expr} {es : List Expr} {kws : List Keyword} {te ta : TE} {t tk : TA} {nm : Option Str}
variable {g : List Value → List Value → List Value} {gV : List V → List V → List V}
end

/-! ### a def's body keeps its promise -/
/-- names: the parameters first -/
structure FnScope (N P : List Str) (sc : Scope) : Prop where
  kind : sc.kind = .function
  co : sc.isCoroutine = false
  gen : sc.isGenerator = false
  nd : N.Nodup
  pre : N.take P.length = P
  par : ∀ x ∈ P, sc.names.lookup x = some .local ∨ sc.names.lookup x = some .cell
  nofree : ∀ y ∈ sc.names, y.2 ≠ .free

theorem bindL_out {kindOf : Str → Option NameKind} {x : Str} : ∀ {binds : List (Str × Value)} {m : Str → Option Value}, (∀ v, (x, v) ∉ binds) → bindL kindOf binds m x = m x
  | [], _, _ => rfl
  | (n, v) :: r, m, h => by
    unfold bindL
    rw [bindL_out fun w hw => h w (List.mem_cons_of_mem _ hw)]
    split
    · have : x ≠ n := by rintro rfl; exact h v List.mem_cons_self
      simp [this]
    · rfl
theorem bindC_out {kindOf : Str → Option NameKind} {x : Str} : ∀ {binds : List (Str × Value)} {m : Str → Option Value}, (∀ v, (x, v) ∉ binds) → bindC kindOf binds m x = m x
  | [], _, _ => rfl
  | (n, v) :: r, m, h => by
    unfold bindC
    rw [bindC_out fun w hw => h w (List.mem_cons_of_mem _ hw)]
    split
    · rfl
    · have : x ≠ n := by rintro rfl; exact h v List.mem_cons_self
      simp [this]
theorem bindL_get {kindOf : Str → Option NameKind} {x : Str} {v : Value} : ∀ {P : List Str} {vs : List Value} {i : Nat} {m : Str → Option Value}, P.Nodup → P[i]? = some x → vs[i]? = some v → kindOf x = some .local →
    bindL kindOf (P.zip vs) m x = some v
  | [], _, _, _, _, h, _, _ => by simp at h
  | _ :: _, [], _, _, _, _, h, _ => by simp at h
  | p :: P, w :: vs, 0, m, nd, h1, h2, hk => by
    simp at h1 h2; subst h1; subst h2
    show bindL kindOf ((p, w) :: P.zip vs) m p = _
    unfold bindL
    rw [bindL_out fun v hv => (List.nodup_cons.mp nd).1 (List.of_mem_zip hv).1, if_pos hk]
    simp
  | p :: P, w :: vs, i + 1, m, nd, h1, h2, hk => by
    show bindL kindOf ((p, w) :: P.zip vs) m x = _
    unfold bindL
    exact bindL_get (i := i) (List.nodup_cons.mp nd).2 (by simpa using h1) (by simpa using h2) hk
theorem bindC_get {kindOf : Str → Option NameKind} {x : Str} {v : Value} : ∀ {P : List Str} {vs : List Value} {i : Nat} {m : Str → Option Value}, P.Nodup → P[i]? = some x → vs[i]? = some v → kindOf x ≠ some .local →
    bindC kindOf (P.zip vs) m x = some v
  | [], _, _, _, _, h, _, _ => by simp at h
  | _ :: _, [], _, _, _, _, h, _ => by simp at h
  | p :: P, w :: vs, 0, m, nd, h1, h2, hk => by
    simp at h1 h2; subst h1; subst h2
    show bindC kindOf ((p, w) :: P.zip vs) m p = _
    unfold bindC
    rw [bindC_out fun v hv => (List.nodup_cons.mp nd).1 (List.of_mem_zip hv).1, if_neg hk]
    simp
  | p :: P, w :: vs, i + 1, m, nd, h1, h2, hk => by
    show bindC kindOf ((p, w) :: P.zip vs) m x = _
    unfold bindC
    exact bindC_get (i := i) (List.nodup_cons.mp nd).2 (by simpa using h1) (by simpa using h2) hk

/-- the names' values at the entry -/
noncomputable def start (N : List Str) (vs : List V) : St := vs.map some ++ List.replicate (N.length - vs.length) none

/-- the context of a def's body, at its entry; an exception leaves the frame, then lies as CX says -/
noncomputable def cxOf (CX : CXT) (P : Program) (w : World) (K : PySem.W.Frag) (mg : Str → Option Value) (base : Heap) (N : List Str) (qual : Str) (scope : Scope) (f : Addr) (cd : Value) (A : Around) (outer : List Env) (s : Shared) (H : Hp) (E : XK) : Cx where
  prog := P
  w := w
  K := K
  mg := mg
  base := base
  A := A.deeper (envOfC qual scope s.heap.objs.size f cd)
  N := N
  s₀ := s
  H₀ := H
  env := envOfC qual scope s.heap.objs.size f cd
  outer := outer
  stack := envOfC qual scope s.heap.objs.size f cd :: outer
  ex := []
  calm := true
  fn := fun _ => true
  pn := []
  xe := fun e s' => wpAny (model P w) (A.deeper (envOfC qual scope s.heap.objs.size f cd)) (leaving (envOfC qual scope s.heap.objs.size f cd) e) (fun _ s'' => CX outer H s E e s'') (fun e' s'' => CX outer H s E e' s'') s'

theorem cell_has {sc : Scope} {n : Nat} {x : Str} (h : sc.names.lookup x = some .cell) : ∃ c, (cellsFrom n sc.names []).lookup x = some c := by
  have q := PySem.W.cellsFrom_some sc.names n [] (.inl h)
  exact Option.isSome_iff_exists.mp q

theorem inv_start {CX : CXT} {P : Program} {w : World} {K : PySem.W.Frag} {mg : Str → Option Value} {base : Heap} {N ps : List Str} {qual : Str} {scope : Scope} {f : Addr} {cd : Value} {A : Around} {outer : List Env} {s s1 : Shared} {H : Hp} {E : XK} {us : List Value} {vs : List V}
    (S : FnScope N ps scope) (hd : A.handled = none) (e0 : Env0 P w K mg base A outer s H) (hl : vs.length = ps.length) (r : Vals vs us)
    (x : InCallC s s.heap.objs.size (bindL (envOfC qual scope s.heap.objs.size f cd).kindOf (ps.zip us) fun _ => none) (cellsFrom (s.heap.objs.size + 1) scope.names []) (bindC (envOfC qual scope s.heap.objs.size f cd).kindOf (ps.zip us) fun _ => none) s1) :
    Inv (cxOf CX P w K mg base N qual scope f cd A outer s H E) [] (start N vs) H s1 := by
  have hpl : ps.length ≤ N.length := by have := congrArg List.length S.pre; rw [List.length_take] at this; omega
  obtain ⟨h1, tk, rfl, hk⟩ := x.done
  have noA : ∀ b : Addr, b ∉ (cxOf CX P w K mg base N qual scope f cd A outer s H E).ex := fun b z => absurd (show b ∈ ([] : List Addr) from z) (by simp)
  refine ⟨⟨e0.mod, S.kind, rfl, rfl, Nat.le_refl _, fun y z c h1 h2 => ?_, fun y hy => ?_, fun y c _ h => ?_, fun _ => hd, Around.frames_deeper e0.frames, .inr ⟨rfl, rfl⟩, fun b z => absurd z (noA b), e0.bs, e0.bsz, fun b _ _ => noA b, fun b z => absurd z (noA b), e0.funs, e0.frf⟩,
    rfl, e0.bare, Un.kept hk, ⟨_, x.toInCall.ns, fun i y v h1 h2 h3 => ?_⟩, fun y c h => ⟨_, x.cell y c h⟩, e0.hok.fresh (Nat.le_refl _), fun y c h => ?_, fun p hp => absurd (show p ∈ ([] : List (Addr × Obj)) from hp) (by simp), e0.hok.kept hk, ?_⟩
  · exact name_of_addr x.apart (PySem.mem_of_lookup h1) (PySem.mem_of_lookup h2)
  · have hy : scope.names.lookup y = some .cell ∨ scope.names.lookup y = some .free := hy
    rcases hy with hy | hy
    · exact cell_has hy
    · exact absurd rfl (S.nofree _ (PySem.mem_of_lookup hy))
  · exact Nat.le_of_lt (x.above y c (PySem.mem_of_lookup h))
  · have hi : i < vs.length := by
      unfold start at h2
      by_cases hi : i < vs.length
      · exact hi
      · rw [List.getElem?_append_right (by simpa using hi)] at h2
        rw [List.getElem?_replicate] at h2
        split at h2 <;> cases h2
    have ha : vs[i]? = some v := by
      unfold start at h2
      rw [List.getElem?_append_left (by simpa using hi), List.getElem?_map] at h2
      cases e : vs[i]? with
      | none => rw [e] at h2; cases h2
      | some a => rw [e] at h2; cases h2; rfl
    obtain ⟨u, hu, rv⟩ := r.get ha
    have hp : ps[i]? = some y := by
      rw [← S.pre, List.getElem?_take_of_lt (by omega)]; exact h1
    have ndP : ps.Nodup := by rw [← S.pre]; exact S.nd.sublist (List.take_sublist _ _)
    refine ⟨u, rv, ?_⟩
    rcases S.par y (List.mem_of_getElem? hp) with k | k
    · exact .inl ⟨k, bindL_get ndP hp hu k⟩
    · obtain ⟨c, e⟩ := cell_has (n := s.heap.objs.size + 1) k
      refine .inr ⟨.inl k, c, e, ?_⟩
      have q := x.cell y c e
      rw [bindC_get ndP hp hu (by show scope.names.lookup y ≠ _; rw [k]; decide)] at q
      exact q
  · exact e0.hok.fresh (Nat.le_of_lt (x.above y c (PySem.mem_of_lookup h)))
  · unfold start
    show _ = N.length
    rw [List.length_append, List.length_map, List.length_replicate]
    omega

/-- THE RULE: a def (or a method) of the text, by its body. The body's reading t is chosen for each entry; it is run at the parameters' values -/
theorem fn_of {CX : CXT} {P : Program} {w : World} {K : PySem.W.Frag} {mg : Str → Option Value} {base : Heap} {k : Nat} {f : Addr} {name qual : Str} {params : Arguments} {body : List Stmt} {scope : Scope} {dV kV doc pm cdv ct oc : Value} {an od : Option Addr}
    {osl : Array (Option Value)} {N ps : List Str} {sp : Sp} (lk : K.lookup f = some ⟨oc, od, .func (PySem.W.fnOf name qual params body scope dV kV doc pm an cdv ct), osl⟩) (hcd : PySem.W.codeIn K cdv qual = true) (S : FnScope N ps scope)
    (len : ∀ vs H Q E, sp vs H Q E → vs.length = ps.length)
    (hbody : ∀ (A : Around) (outer : List Env) (s : Shared) (H : Hp) (vs : List V) (Q : VK) (E : XK), Room k (A.deeper (envOfC qual scope s.heap.objs.size f cdv)) → sp vs H Q E →
      ∃ t, PSs (cxOf CX P w K mg base N qual scope f cdv A outer s H E) body t ∧ t { nx := fun _ H' => Q .non H', rt := Q } (start N vs) H) :
    FnOk P w K mg base CX (k + 1) f (PySem.W.fnOf name qual params body scope dV kV doc pm an cdv ct) ps sp := by
  refine ⟨len, fun A outer s H args us vs Q E hr e0 hb r hsp => ?_⟩
  have hl := len _ _ _ _ hsp
  have KX : K.In s.heap := e0.mod.kin.keeps fun b o e => (e0.bs b o e).1
  have lim : s.heap.NoLimit := e0.mod.nolimit.keeps fun b o e => (e0.bs b o e).1
  have hkind : ∀ y ∈ ps.zip us, scope.names.lookup y.1 = some .local ∨ (scope.names.lookup y.1 = some .cell ∧ ((cellsFrom (s.heap.objs.size + 1) scope.names []).lookup y.1).isSome = true) := fun ⟨n, v⟩ hy => by
    rcases S.par n (List.of_mem_zip hy).1 with q | q
    · exact .inl q
    · exact .inr ⟨q, PySem.W.cellsFrom_some _ _ _ (.inl q)⟩
  refine codeAny_call_function hr.depth (KX _ _ lk) rfl S.co S.gen rfl (PySem.W.codeRec_of KX hcd) (hb _ _ _ _ ?_)
  refine wpAny_newFunctionEnv_cells S.kind hkind fun env he s1 x => ?_
  subst he
  refine ⟨lim.keeps x.toInCall.keep, codeAny_func ?_⟩
  obtain ⟨t, ht, hq⟩ := hbody A outer s H vs Q E (hr.deeper _) hsp
  have I : Inv (cxOf CX P w K mg base N qual scope f cdv A outer s H E) [] (start N vs) H s1 := inv_start S hr.hd e0 hl r x
  refine wpAny_mono (ht [] s1 (start N vs) H _ I hq) (fun fl s' hs => ?_) fun e s' hs => hs
  have fin : ∀ {σ' : St} {H' : Hp} {v : V} {u : Value}, Inv (cxOf CX P w K mg base N qual scope f cdv A outer s H E) [] σ' H' s' → RelV v u → Q v H' → CE outer P w H s Q u s' :=
    fun {σ' H' v u} J rv q => ⟨v, H', J.os, J.bare, J.base, J.hok, rv, q⟩
  cases fl with
  | ret u =>
    obtain ⟨v, σ', H', J, rv, q⟩ := hs
    exact fin J rv q
  | next =>
    obtain ⟨σ', H', J, q⟩ := hs
    exact fin (v := V.non) (u := Value.none) J rfl q
  | brk =>
    obtain ⟨_, _, _, q⟩ := hs
    exact False.elim q
  | cont =>
    obtain ⟨_, _, _, q⟩ := hs
    exact False.elim q
end L2

namespace L2
open PySem PySem.Spec PyProof.Rows
section
variable {X : Cx} {x : Str} {p pos : Pos} {e : Expr} {es : List Expr} {t : TA} {id T : String} {r : List V → Hp → VK → Prop}

noncomputable def tCB (r : List V → Hp → VK → Prop) (t : TA) : TE := fun σ H Q => t σ H fun vs H1 => r vs H1 Q
/-- f(e, ..), f a built-in function -/
theorem pe_callB (hc : CallR X (.builtin id) r) (hg : Gl X x) (hm : X.mg x = none) (hv : bootBuiltins x = some (.builtin id)) (ha : PA X (e :: es) t) (hn : x ≠ "__name__" := by decide) (hdb : (x == ("__debug__" : Str)) = false := by decide)
    (he : starEach (e :: es) X.env = (false, eval e X.env) :: starEach es X.env := by rfl) (hpl : (backTo pos (starEach es X.env)).any (·.1) = false := by rfl) : PE X (.Call (.Name x p) (e :: es) [] pos) (tCB r t) := by
  intro pins s σ H Q I h
  refine wpAny_Call_Name_kw (ld_blt I hg hm hv ?_ hn hdb)
  exact PyProof.Rows.callWith_builtin1 (thn (ha pos pins s σ H _ I h) fun us s1 ⟨vs, H1, I1, r1, q1⟩ => hc pins s1 σ H1 vs us Q I1 r1 q1) he hpl
/-- T(e, ..), T a built-in type -/
theorem pe_callTy (hc : CallR X (.type T) r) (hg : Gl X x) (hm : X.mg x = none) (hv : bootBuiltins x = some (.type T)) (ha : PA X (e :: es) t) (hn : x ≠ "__name__" := by decide) (hdb : (x == ("__debug__" : Str)) = false := by decide)
    (he : starEach (e :: es) X.env = (false, eval e X.env) :: starEach es X.env := by rfl) (hpl : (backTo pos (starEach es X.env)).any (·.1) = false := by rfl) : PE X (.Call (.Name x p) (e :: es) [] pos) (tCB r t) := by
  intro pins s σ H Q I h
  refine wpAny_Call_Name_kw (ld_blt I hg hm hv ?_ hn hdb)
  exact PyProof.Rows.callWith_type1 (thn (ha pos pins s σ H _ I h) fun us s1 ⟨vs, H1, I1, r1, q1⟩ => hc pins s1 σ H1 vs us Q I1 r1 q1) he hpl
end
end L2

namespace HT
open PySem PyProof.Rows

section
open PySem.SeqAt
open PySem.AutoSeq1 (wpAny_loadPart')
open PySem.MeetsSeq PySem.MeetsSeq2 PySem.MeetsSeq3

end

section
variable {prog : Program} {w : World} {A : Around} {E : Value → Shared → Prop} {s : Shared}

/-! ### t[a:b], not the whole -/
/-- a slice's bound as a place among n (d where it is left out) -/
noncomputable def sIx (n d : Nat) : Option Int → Nat
  | none => d
  | some v => if v < 0 then (v + (n : Int)).toNat else min v.toNat n
theorem sIx_none (n d : Nat) : sIx n d none = d := rfl
theorem sIx_nat (n d k : Nat) : sIx n d (some (k : Int)) = min k n := by
  show (if (k : Int) < 0 then ((k : Int) + (n : Int)).toNat else min (k : Int).toNat n) = min k n
  rw [if_neg (by omega), Int.toNat_natCast]
end
end HT

namespace L2
open PySem PySem.Spec PyProof.Rows

/-! ### the parts of a slice -/
noncomputable abbrev TO := St → Hp → (Option Int → Hp → Prop) → Prop
/-- a slice's part (left out, or an int) -/
noncomputable def PO (X : Cx) (e : Option Expr) (t : TO) : Prop :=
  ∀ (pins : List (Addr × Obj)) (s : Shared) (σ : St) (H : Hp) (Q : Option Int → Hp → Prop), Inv X pins σ H s → t σ H Q →
    wpAny (model X.prog X.w) X.A (evalPart e X.env) (fun u s' => ∃ o H', Inv X pins σ H' s' ∧ IsPart u o ∧ Q o H') X.xe s
noncomputable def tNoPart : TO := fun _ H Q => Q none H
noncomputable def tPart (t : TE) : TO := fun σ H Q => t σ H fun x H1 => ∃ i, x = .int i ∧ Q (some i) H1

section
variable {X : Cx} {e : Expr} {te : TE} {lo hi : Option Expr} {tl th : TO} {pos p2 : Pos}

theorem po_none : PO X none tNoPart := by
  intro pins s σ H Q I h
  rw [evalPart_none]
  exact wpAny_pure ⟨none, H, I, .none, h⟩
theorem po_some (h : PE X e te) : PO X (some e) (tPart te) := by
  intro pins s σ H Q I hw
  rw [evalPart_some]
  refine thn (h pins s σ H _ I hw) fun u s1 ⟨x, H1, I1, r1, q1⟩ => ?_
  obtain ⟨i, rfl, q⟩ := q1
  obtain ⟨t, rfl⟩ := r1
  exact ⟨some i, H1, I1, .int i t, q⟩

/-- what a slice of a value is, by values: the slice object stands at sl -/
noncomputable def SlR (X : Cx) (r : V → Option Int → Option Int → Hp → VK → Prop) : Prop :=
  ∀ (pins : List (Addr × Obj)) (s : Shared) (σ : St) (H : Hp) (x : V) (v vl vu : Value) (lo hi : Option Int) (sl : Addr) (Q : VK), Inv X pins σ H s → RelV x v → s.heap.IsSliceOf sl vl vu .none → IsPart vl lo → IsPart vu hi → r x lo hi H Q →
    ∃ T id, typeLookup (.type T) "__getitem__" = pure (some (.builtin id)) ∧ s.TypeIs v T ∧ wpAny (model X.prog X.w) X.A (getItem v (.ref sl)) (EP X pins σ Q) X.xe s
noncomputable def tSl (r : V → Option Int → Option Int → Hp → VK → Prop) (te : TE) (tl th : TO) : TE := fun σ H Q => te σ H fun x H1 => tl σ H1 fun l H2 => th σ H2 fun u H3 => r x l u H3 Q
/-- a[lo:hi], any a -/
theorem pe_slice {r : V → Option Int → Option Int → Hp → VK → Prop} (hr : SlR X r) (he : PE X e te) (hl : PO X lo tl) (hu : PO X hi th) : PE X (.Subscript e (.Slice lo hi none p2) pos) (tSl r te tl th) := by
  intro pins s σ H Q I h
  refine Subscript_ (thn (he pins s σ H _ I h) fun v s1 ⟨x, H1, I1, r1, q1⟩ => ?_)
  refine wpAny_Slice (thn (hl pins s1 σ H1 _ I1 q1) fun vl s2 ⟨l, H2, I2, pl, q2⟩ => thn (hu pins s2 σ H2 _ I2 q2) fun vu s3 ⟨u, H3, I3, pu, q3⟩ => ?_)
  rw [evalPart_none]
  refine wpAny_pure ?_
  have I4 : Inv X pins σ H3 { s3 with heap := s3.heap.push { cls := .type "slice", data := .fields #[vl, vu, .none] } } := I3.kept (t' := s3.toks) fun b ob q => Heap.get?_push_of_some _ q
  obtain ⟨T, id, hT, ht, hg⟩ := hr pins { s3 with heap := s3.heap.push { cls := .type "slice", data := .fields #[vl, vu, .none] } } σ H3 x v vl vu l u s3.heap.objs.size Q I4 r1 (Heap.IsSliceOf.new ..) pl pu q3
  show wpAny (model X.prog X.w) X.A (subscriptTail e (.Slice lo hi none p2) v (.ref s3.heap.objs.size)) (EP X pins σ Q) X.xe { s3 with heap := s3.heap.push { cls := .type "slice", data := .fields #[vl, vu, .none] } }
  exact tail_any (ops := [.ref s3.heap.objs.size, v]) ht hT hg (by with_unfolding_all rfl)

/-- the items of xs[lo:hi] -/
noncomputable def cutV (xs : List V) (lo hi : Option Int) : List V := (xs.drop (HT.sIx xs.length 0 lo)).take (HT.sIx xs.length xs.length hi - HT.sIx xs.length 0 lo)
theorem cutV_length (xs : List V) (lo hi : Option Int) : (cutV xs lo hi).length ≤ xs.length := by
  unfold cutV
  rw [List.length_take, List.length_drop]
  omega
/-! ### t < u, t + u -/
end
end L2

namespace L2
open PySem PySem.Spec PyProof.Rows

/-! ### places -/
/-- the place that an index of any sign means -/
noncomputable def ixN (n : Nat) (i : Int) : Option Nat := if 0 ≤ i then (if i < n then some i.toNat else none) else if -(n : Int) ≤ i then some (i + n).toNat else none
noncomputable def atI {α : Type} (xs : List α) (i : Int) : Option α := (ixN xs.length i).bind fun j => xs[j]?
theorem ixN_seq {n : Nat} {i : Int} {j : Nat} (h : ixN n i = some j) : seqIndex? i n = some j ∧ j < n ∧ -(n : Int) ≤ i ∧ i < n := by
  unfold ixN at h
  by_cases h0 : 0 ≤ i
  · rw [if_pos h0] at h
    by_cases h1 : i < n
    · rw [if_pos h1] at h
      have e : i.toNat = j := Option.some.inj h
      exact ⟨by rw [seqIndex_of h0 h1, e], by omega, by omega, h1⟩
    · rw [if_neg h1] at h; cases h
  · rw [if_neg h0] at h
    by_cases h1 : -(n : Int) ≤ i
    · rw [if_pos h1] at h
      have e : (i + n).toNat = j := Option.some.inj h
      exact ⟨by rw [seqIndex_neg (by omega) h1, e], by omega, h1, by omega⟩
    · rw [if_neg h1] at h; cases h
theorem atI_get {α : Type} {xs : List α} {i : Int} {v : α} (h : atI xs i = some v) : ∃ j, seqIndex? i xs.length = some j ∧ xs[j]? = some v ∧ j < xs.length ∧ -(xs.length : Int) ≤ i ∧ i < xs.length := by
  unfold atI at h
  cases e : ixN xs.length i with
  | none => rw [e] at h; cases h
  | some j =>
    rw [e] at h
    obtain ⟨h1, h2, h3, h4⟩ := ixN_seq e
    exact ⟨j, h1, h, h2, h3, h4⟩
theorem atI_nat {α : Type} {xs : List α} {j : Nat} {v : α} (h : xs[j]? = some v) : atI xs (j : Int) = some v := by
  have hj : j < xs.length := (List.getElem?_eq_some_iff.mp h).1
  have e : ixN xs.length (j : Int) = some j := by
    unfold ixN
    rw [if_pos (by omega), if_pos (by omega)]; simp
  unfold atI; rw [e]; exact h
theorem atI_last {α : Type} (xs : List α) (v : α) : atI (xs ++ [v]) (-1) = some v := by
  have hl : (xs ++ [v]).length = xs.length + 1 := by simp
  have e : ixN (xs ++ [v]).length (-1) = some xs.length := by
    unfold ixN
    rw [hl, if_neg (by decide), if_pos (by omega)]
    congr 1
    omega
  unfold atI
  rw [e]
  show (xs ++ [v])[xs.length]? = some v
  simp

/-! ### what may be subscripted -/
/-- what stands as an index of a plain subscript -/
noncomputable def PlainIx (b : Expr) : Prop := ∀ o i, subscripted b false o i = operate [o, i] (getItem o i)
/-- a subscript by values -/
noncomputable def IxR (X : Cx) (r : R2) : Prop :=
  ∀ (value slice : Expr) (pins : List (Addr × Obj)) (s : Shared) (σ : St) (H : Hp) (x y : V) (v u : Value) (Q : VK), Inv X pins σ H s → RelV x v → RelV y u → r x y H Q →
    subscripted slice false v u = operate [v, u] (getItem v u) → wpAny (model X.prog X.w) X.A (subscriptTail value slice v u) (EP X pins σ Q) X.xe s
/-- a call of a builtin's method by values: the receiver, the arguments -/
noncomputable def MtR (X : Cx) (id : String) (r : V → List V → Hp → VK → Prop) : Prop :=
  ∀ (pins : List (Addr × Obj)) (s : Shared) (σ : St) (H : Hp) (x : V) (xs : List V) (v : Value) (us : List Value) (Q : VK), Inv X pins σ H s → RelV x v → Vals xs us → r x xs H Q →
    wpAny (model X.prog X.w) X.A (call (.builtin id) (v :: us)) (EP X pins σ Q) X.xe s
section
variable {X : Cx} {a b : Expr} {ta tb : TE} {pos : Pos}
/-- a[b] -/
theorem pe_ix {r : R2} (hr : IxR X r) (ha : PE X a ta) (hb : PE X b tb) (hs : PlainIx b) : PE X (.Subscript a b pos) (tOp r ta tb) := by
  intro pins s σ H Q I h
  exact Subscript_ (binT ha hb I h fun v u s2 x y H2 I2 rx ry q => hr a b pins s2 σ H2 x y v u Q I2 rx ry q (hs _ _))

noncomputable def rIxL (K : PySem.W.Frag) : R2 := fun x y H Q => ∃ p xs i v, x = .ref p ∧ y = .int i ∧ SqL K H p xs ∧ atI xs i = some v ∧ Q v H
noncomputable def rIxT (K : PySem.W.Frag) : R2 := fun x y H Q => ∃ p xs i v, x = .ref p ∧ y = .int i ∧ SqT K H p xs ∧ atI xs i = some v ∧ Q v H
theorem ix_list : IxR X (rIxL X.K) := by
  intro value slice pins s σ H x y v u Q I rx ry h hs
  obtain ⟨p, xs, i, z, rfl, rfl, hq, he, q⟩ := h
  cases rx
  obtain ⟨t, rfl⟩ := ry
  obtain ⟨its, r, pl, hz⟩ := I.list hq
  obtain ⟨j, h1, h2, h3, h4, h5⟩ := atI_get he
  obtain ⟨w, ew, rw'⟩ := r.get h2
  have hl := r.length
  have hn := line63
  have fin : EP X pins σ Q w s := ⟨z, H, I, rw', q⟩
  by_cases h0 : 0 ≤ i
  · have hj : i.toNat = j := by
      rw [seqIndex_of h0 h5] at h1
      exact Option.some.inj h1
    exact item_listR pl.isList h0 (by omega) (by rw [hj]; simpa using ew) fin hs
  · have hj : (i + (its.toArray.size : Int)).toNat = j := by
      rw [seqIndex_neg (by omega) h4] at h1
      rw [List.size_toArray, ← hl]
      exact Option.some.inj h1
    exact subscriptTail_builtinR (x := w) pl.isList.typeIs slot_list_getitem.lookup
      (wpAny_getItem_list_neg (Q := fun r s' => r = w ∧ EP X pins σ Q r s') pl.isList (by omega) (by rw [List.size_toArray] <;> omega) (by omega) (by rw [hj]; simpa using ew) ⟨rfl, fin⟩) hs
theorem ix_tup : IxR X (rIxT X.K) := by
  intro value slice pins s σ H x y v u Q I rx ry h hs
  obtain ⟨p, xs, i, z, rfl, rfl, hq, he, q⟩ := h
  cases rx
  obtain ⟨t, rfl⟩ := ry
  obtain ⟨its, r, pl, hz⟩ := I.tuple hq
  obtain ⟨j, h1, h2, h3, h4, h5⟩ := atI_get he
  obtain ⟨w, ew, rw'⟩ := r.get h2
  have hl := r.length
  have hn := line63
  have fin : EP X pins σ Q w s := ⟨z, H, I, rw', q⟩
  exact subscriptTail_builtinR (x := w) pl.typeIs slot_tuple_getitem.lookup
    (getItem_tuple (j := j) (Q := fun r s' => r = w ∧ EP X pins σ Q r s') pl (by omega) (by omega) (by rw [List.size_toArray, ← hl]; exact h1) (by simpa using ew) ⟨rfl, fin⟩) hs
/-! ### xs[i] = v, any sign -/
/-- the list's object behind a store -/
theorem mapSeq_set (its : List Value) (n j : Nat) (u : Value) : Obj.mapSeq (·.setIfInBounds j u) { cls := .type "list", data := .seq its.toArray n } = { cls := .type "list", data := .seq (its.set j u).toArray n } := by
  simp [Obj.mapSeq]
theorem Inv.lst {pins : List (Addr × Obj)} {σ : St} {H : Hp} {s : Shared} {p : Addr} {xs : List V} (I : Inv X pins σ H s) (h : H p = some (.lst xs)) :
    ∃ (its : List Value) (n : Nat), Vals xs its ∧ s.heap.get? p = some { cls := .type "list", data := .seq its.toArray n } ∧ xs.length ≤ sizeLine := by
  obtain ⟨z, its, n, r, e⟩ := I.hok p _ h
  exact ⟨its, n, r, e, z⟩
/-- the list at p is written by an update of its object -/
theorem Inv.lstUpd {pins : List (Addr × Obj)} {σ : St} {H : Hp} {s : Shared} {p : Addr} {xs ys : List V} {its its' : List Value} {n n' : Nat} {f : Obj → Obj} (I : Inv X pins σ H s) (h : H p = some (.lst xs))
    (ho : s.heap.get? p = some { cls := .type "list", data := .seq its.toArray n }) (hf : f { cls := .type "list", data := .seq its.toArray n } = { cls := .type "list", data := .seq its'.toArray n' }) (r : Vals ys its') (hz : ys.length ≤ sizeLine) (t : Nat) :
    Inv X pins σ (upd H p (.lst ys)) { s with heap := s.heap.update p f, toks := t } := by
  have e : (s.heap.update p f).get? p = some { cls := .type "list", data := .seq its'.toArray n' } := by
    rw [Heap.get?_update_self f ho (by rw [hf] <;> rfl), hf]
  refine I.write (x := p) (e := p) (by rw [h]; trivial) (.inl rfl) (fun b u hb q => (Heap.get?_update_other _ _ (Ne.symm hb)).trans q) ⟨_, e⟩ ?_
  exact ⟨hz, its', n', r, e⟩
noncomputable def rSetL : V → V → V → Hp → (Hp → Prop) → Prop := fun o i v H Q => ∃ p xs k j, o = .ref p ∧ i = .int k ∧ H p = some (.lst xs) ∧ ixN xs.length k = some j ∧ Q (upd H p (.lst (xs.set j v)))
theorem set_list : PSet X rSetL := by
  intro pins s σ H o i v ov iv u Q I ro ri rv h
  obtain ⟨p, xs, k, j, rfl, rfl, hp, hj, q⟩ := h
  cases ro
  obtain ⟨t, rfl⟩ := ri
  obtain ⟨its, n, r, ho, hz⟩ := I.lst hp
  obtain ⟨h1, h2, h3, h4⟩ := ixN_seq hj
  have hl := r.length
  have hn := line63
  have I' : Inv X pins σ (upd H p (.lst (xs.set j v))) { s with heap := s.heap.update p (Obj.mapSeq (·.setIfInBounds j u)) } :=
    I.lstUpd hp ho (mapSeq_set its n j u) (r.set rv j) (by rw [List.length_set]; exact hz) s.toks
  by_cases h0 : 0 ≤ k
  · have hk : k.toNat = j := by
      rw [seqIndex_of h0 h4] at h1
      exact Option.some.inj h1
    exact PySem.W.ki_setAt ho h0 (by omega) (by rw [List.size_toArray, ← hl]; exact h4) (by rw [hk]; exact ⟨_, I', q⟩)
  · have hk : (k + (its.toArray.size : Int)).toNat = j := by
      rw [seqIndex_neg (by omega) h3] at h1
      rw [List.size_toArray, ← hl]
      exact Option.some.inj h1
    exact PySem.W.ki_setBack ho (by omega) (by rw [List.size_toArray, ← hl]; exact h3) (by omega) (by rw [hk]; exact ⟨_, I', q⟩)

/-! ### slices -/
theorem slice_bounds (lo hi : Option Int) (n : Nat) : (sliceBounds lo hi none n).1 = ((HT.sIx n 0 lo : Nat) : Int) ∧ (sliceBounds lo hi none n).2.1 = ((HT.sIx n n hi : Nat) : Int) ∧ (sliceBounds lo hi none n).2.2 = 1 := by
  refine ⟨?_, ?_, rfl⟩
  · cases lo with
    | none => simp [sliceBounds, HT.sIx]
    | some i =>
      simp only [sliceBounds, HT.sIx, Option.getD_none, show (1 : Int) > 0 by decide, if_true]
      by_cases h : i < 0
      · simp only [h, if_true] <;> omega
      · simp only [h, if_false] <;> omega
  · cases hi with
    | none => simp [sliceBounds, HT.sIx]
    | some i =>
      simp only [sliceBounds, HT.sIx, Option.getD_none, show (1 : Int) > 0 by decide, if_true]
      by_cases h : i < 0
      · simp only [h, if_true] <;> omega
      · simp only [h, if_false] <;> omega
theorem slicePick_cut (its : List Value) (lo hi : Option Int) : slicePick its.toArray lo hi none = ((its.drop (HT.sIx its.length 0 lo)).take (HT.sIx its.length its.length hi - HT.sIx its.length 0 lo)).toArray := by
  obtain ⟨h1, h2, h3⟩ := slice_bounds lo hi its.toArray.size
  unfold slicePick
  rw [h1, h2, h3]
  simp only [sliceRange_one, pick_run, List.size_toArray] <;> rfl
/-- xs[lo:hi] of a list: a new list -/
noncomputable def rSlL (K : PySem.W.Frag) : V → Option Int → Option Int → Hp → VK → Prop := fun x lo hi H Q => ∃ a xs, x = .ref a ∧ SqL K H a xs ∧ ∀ p, H p = none → Q (.ref p) (upd H p (.lst (cutV xs lo hi)))
theorem sl_list : SlR X (rSlL X.K) := by
  intro pins s σ H x v vl vu lo hi sl Q I rx hs pl pu h
  obtain ⟨a, xs, rfl, hx, q⟩ := h
  cases rx
  obtain ⟨its, r, ht, hz⟩ := I.list hx
  have hlen := r.length
  refine ⟨"list", _, slot_list_getitem.lookup, ht.isList.typeIs, ?_⟩
  refine wpAny_getItem_list_slice ht.isList hs pl pu .none (by simp) ?_ (by rw [List.size_toArray] <;> omega)
  rw [slicePick_cut, ← hlen]
  refine ⟨.ref s.heap.objs.size, _, I.laid (t' := s.toks) (o := .lst (cutV xs lo hi)) (fun b ob q => Heap.get?_push_of_some _ q) (Nat.le_refl _) ?_, rfl, q _ (I.hok.fresh (Nat.le_refl _))⟩
  exact ⟨Nat.le_trans (cutV_length xs lo hi) hz, _, 0, (r.drop (HT.sIx xs.length 0 lo)).take (HT.sIx xs.length xs.length hi - HT.sIx xs.length 0 lo), Heap.get?_push_size _ rfl⟩

/-! ### in, not in: flat items -/
/-! ### len, list(x), tuple(x) of any list or tuple that is read -/
theorem call_len_seq : CallR X (.builtin "len") (fun xs H Q => ∃ p ys, xs = [.ref p] ∧ (SqL X.K H p ys ∨ SqT X.K H p ys) ∧ Q (.int ys.length) H) := by
  intro pins s σ H xs us Q I r h
  obtain ⟨p, ys, rfl, hq, q⟩ := h
  obtain ⟨u, rfl, rx⟩ := vals1 r
  cases rx
  have hn := line63
  rcases hq with hq | hq
  · obtain ⟨its, r', pl, hz⟩ := I.list hq
    have hlen := r'.length
    exact Calls.call_len_list pl.isList (by simp only [List.size_toArray] <;> omega) ⟨.int ys.length, H, I.tok _, ⟨s.toks + 1, by rw [List.size_toArray, hlen]⟩, q⟩
  · obtain ⟨its, r', pl, hz⟩ := I.tuple hq
    have hlen := r'.length
    exact len_tuple pl (by simp only [List.size_toArray] <;> omega) ⟨.int ys.length, H, I.tok _, ⟨s.toks + 1, by rw [List.size_toArray, hlen]⟩, q⟩
theorem call_list_of : CallR X (.type "list") (fun xs H Q => ∃ p ys, xs = [.ref p] ∧ (SqL X.K H p ys ∨ SqT X.K H p ys) ∧ ∀ l, H l = none → Q (.ref l) (upd H l (.lst ys))) := by
  intro pins s σ H xs us Q I r h
  obtain ⟨p, ys, rfl, hq, q⟩ := h
  obtain ⟨u, rfl, rx⟩ := vals1 r
  cases rx
  have fin : ∀ (its : List Value), Vals ys its → ys.length ≤ sizeLine → ∀ (h' : Heap) (c' : Nat), (∀ b o', s.heap.get? b = some o' → h'.get? b = some o') →
      h'.get? s.heap.objs.size = some { cls := .type "list", dict := none, data := .seq its.toArray c', slots := #[] } → EP X pins σ Q (.ref s.heap.objs.size) { s with heap := h' } := fun its r' hz h' c' kp e =>
    ⟨.ref s.heap.objs.size, _, I.laid (t' := s.toks) kp (Nat.le_refl _) (show ObjOk X.prog X.w _ h' _ (.lst ys) from ⟨hz, its, c', r', e⟩), rfl, q _ (I.hok.fresh (Nat.le_refl _))⟩
  rcases hq with hq | hq
  · obtain ⟨its, r', pl, hz⟩ := I.list hq
    have hlen := r'.length
    obtain ⟨o, ho, hc, n, hd⟩ := pl.isList
    exact call_list_seq p (.inl rfl) ho hc hd (fun h' c' kp e => fin its r' hz h' c' kp e) (by simp only [List.size_toArray] <;> omega)
  · obtain ⟨its, r', pl, hz⟩ := I.tuple hq
    have hlen := r'.length
    obtain ⟨o, ho, hc, n, hd⟩ := pl
    exact call_list_seq p (.inr rfl) ho hc hd (fun h' c' kp e => fin its r' hz h' c' kp e) (by simp only [List.size_toArray] <;> omega)
theorem call_tuple_of : CallR X (.type "tuple") (fun xs H Q => ∃ p ys, xs = [.ref p] ∧ ((SqL X.K H p ys ∧ ∀ l, H l = none → Q (.ref l) (upd H l (.tup ys))) ∨ (SqT X.K H p ys ∧ Q (.ref p) H))) := by
  intro pins s σ H xs us Q I r h
  obtain ⟨p, ys, rfl, h⟩ := h
  obtain ⟨u, rfl, rx⟩ := vals1 r
  cases rx
  rcases h with ⟨hq, q⟩ | ⟨hq, q⟩
  · obtain ⟨its, r', pl, hz⟩ := I.list hq
    have hlen := r'.length
    refine call_tuple_list pl.isList (fun h' kp => ?_) (by simp only [List.size_toArray] <;> omega)
    have I1 : Inv X pins σ H { s with heap := h' } := I.kept (t' := s.toks) kp
    have I2 : Inv X pins σ (upd H h'.objs.size (.tup ys)) { s with heap := h'.push { cls := .type "tuple", data := .seq its.toArray } } :=
      I1.laid (t' := s.toks) (fun b o e => Heap.get?_push_of_some _ e) (Nat.le_refl _) (show ObjOk X.prog X.w _ _ _ (.tup ys) from ⟨hz, its, r', IsTup.new _ _⟩)
    exact ⟨.ref h'.objs.size, _, I2, rfl, q _ (I1.hok.fresh (Nat.le_refl _))⟩
  · obtain ⟨its, r', pl, hz⟩ := I.tuple hq
    exact call_tuple_same pl ⟨.ref p, H, I, rfl, q⟩

/-! ### the call of a builtin's method: o.m(..) -/
/-- the value is of that builtin type -/
noncomputable def tyV (K : PySem.W.Frag) (T : String) (x : V) (H : Hp) : Prop := match x with
  | .str _ => T = "str"
  | .int _ => T = "int"
  | .ref p => (T = "list" ∧ ∃ xs, SqL K H p xs) ∨ (T = "tuple" ∧ ∃ o, K.lookup p = some o ∧ o.cls = .type "tuple" ∧ o.dict = none) ∨
      (T = "dict" ∧ ((∃ kvs, H p = some (.dK kvs)) ∨ ∃ kvs, H p = some (.dT kvs))) ∨ (T = "set" ∧ ∃ S n, H p = some (.set S n))
  | _ => False
theorem tyV_is {pins : List (Addr × Obj)} {σ : St} {H : Hp} {s : Shared} {T : String} {x : V} {v : Value} (I : Inv X pins σ H s) (r : RelV x v) (ty : tyV X.K T x H) :
    s.TypeIs v T ∧ ∀ a, v = .ref a → ∃ ob, s.heap.get? a = some ob ∧ ob.dict = none := by
  cases x with
  | str z =>
    obtain ⟨t, rfl⟩ := r
    cases (show T = "str" from ty)
    exact ⟨typeIs_str s z t, fun _ e => nomatch e⟩
  | int i =>
    obtain ⟨t, rfl⟩ := r
    cases (show T = "int" from ty)
    exact ⟨typeIs_int s i t, fun _ e => nomatch e⟩
  | ref p =>
    cases r
    rcases ty with ⟨rfl, xs, hq⟩ | ⟨rfl, o, hk, hc, hd⟩ | ⟨rfl, hk⟩ | ⟨rfl, S, n, hk⟩
    · obtain ⟨its, _, pl, _⟩ := I.list hq
      refine ⟨pl.isList.typeIs, fun a e => ?_⟩
      cases e
      obtain ⟨o, n, e, c, hd, _⟩ := pl
      exact ⟨o, e, hd⟩
    · refine ⟨⟨o, I.kIn p o hk, hc⟩, fun a e => ?_⟩
      cases e
      exact ⟨o, I.kIn _ o hk, hd⟩
    · have z : ∃ o, s.heap.get? p = some o ∧ o.ExactDict := by
        rcases hk with ⟨kvs, hk⟩ | ⟨kvs, hk⟩
        · obtain ⟨_, _, _, _, o, _, _, e, ex, _⟩ := I.hok p _ hk
          exact ⟨o, e, ex⟩
        · obtain ⟨_, _, _, _, o, _, _, e, ex, _⟩ := I.hok p _ hk
          exact ⟨o, e, ex⟩
      obtain ⟨o, e, ex⟩ := z
      refine ⟨⟨o, e, ex.1⟩, fun a e2 => ?_⟩
      cases e2
      exact ⟨o, e, ex.2.1⟩
    · obtain ⟨o, _, _, _, e, ex, _⟩ := I.hok p _ hk
      refine ⟨⟨o, e, ex.1⟩, fun a e2 => ?_⟩
      cases e2
      exact ⟨o, e, ex.2.1⟩
  | _ => exact False.elim ty
noncomputable def tBM0 (K : PySem.W.Frag) (T : String) (r : V → List V → Hp → VK → Prop) (to : TE) : TE := fun σ H Q => to σ H fun x H1 => tyV K T x H1 ∧ r x [] H1 Q
noncomputable def tBM (K : PySem.W.Frag) (T : String) (r : V → List V → Hp → VK → Prop) (to : TE) (t : TA) : TE := fun σ H Q => to σ H fun x H1 => tyV K T x H1 ∧ t σ H1 fun xs H2 => r x xs H2 Q
variable {o e : Expr} {es : List Expr} {to : TE} {t : TA} {name : Str} {apos cpos : Pos} {T id : String} {r : V → List V → Hp → VK → Prop}
theorem pe_bm0 (pa : PlainAttrs T) (slot : Slot T name id) (hty : typeOf (.builtin id) = pure (.type "method_descriptor")) (hm : MtR X id r) (ho : PE X o to)
    (hbase : attributeBase o name X.env (eval o X.env) = eval o X.env := by rfl) (hline : (apos.endLine == cpos.line) = true := by rfl) : PE X (.Call (.Attribute o name apos) [] [] cpos) (tBM0 X.K T r to) := by
  intro pins s σ H Q I h
  refine wpAny_Call_method0_late hbase hline (thn (ho pins s σ H _ I h) fun v s1 ⟨x, H1, I1, r1, ty, q1⟩ => ?_)
  obtain ⟨h1, h2⟩ := tyV_is I1 r1 ty
  exact ⟨T, id, pa, slot, hty, h1, h2, Calls.callWith_builtin rfl (PySem.evalArgs_none (hm pins s1 σ H1 x [] v [] Q I1 r1 .nil q1))⟩
theorem pe_bm (pa : PlainAttrs T) (slot : Slot T name id) (hty : typeOf (.builtin id) = pure (.type "method_descriptor")) (hm : MtR X id r) (ho : PE X o to) (ha : PA X (e :: es) t)
    (hbase : attributeBase o name X.env (eval o X.env) = eval o X.env := by rfl)
    (hfew : ((backTo cpos (starEach (e :: es) X.env)).all (fun x => !x.1) && (backToKw cpos (keywordEach [] X.env)).all (fun x => x.1.isSome)
      && decide ((e :: es).length + ([] : List Keyword).length + (if ([] : List Keyword).isEmpty then 0 else 1) < 30)) = true := by rfl)
    (hline : (apos.endLine == cpos.line) = true := by rfl) (hs : starEach (e :: es) X.env = (false, eval e X.env) :: starEach es X.env := by rfl) (hplain : (backTo cpos (starEach es X.env)).any (·.1) = false := by rfl) :
    PE X (.Call (.Attribute o name apos) (e :: es) [] cpos) (tBM X.K T r to t) := by
  intro pins s σ H Q I h
  refine wpAny_Call_method_late hbase hfew hline rfl (thn (ho pins s σ H _ I h) fun v s1 ⟨x, H1, I1, r1, ty, q1⟩ => ?_)
  obtain ⟨h1, h2⟩ := tyV_is I1 r1 ty
  refine ⟨T, id, pa, slot, hty, h1, h2, ?_⟩
  have hA := ha cpos pins s1 σ H1 _ I1 q1
  rw [hs] at hA ⊢
  refine Calls.callWith_builtin (by show (false || (backTo cpos (starEach es X.env)).any (·.1)) = false; rw [hplain] <;> rfl) (Calls.evalArgs_plain ?_)
  exact thn hA fun us s2 ⟨vs, H2, I2, r2, q2⟩ => hm pins s2 σ H2 x vs v us Q I2 r1 r2 q2
/- xs.append(e), list.index on a module's tuple .. are MtR facts of 06m -/
end
end L2

namespace L2
open PySem PySem.Spec PyProof.Rows

noncomputable def MtM (X : Cx) (id : String) (r : V → List V → Hp → VK → Prop) : Prop :=
  ∀ (pins : List (Addr × Obj)) (s : Shared) (σ : St) (H : Hp) (x : V) (xs : List V) (v : Value) (us : List Value) (Q : VK), Inv X pins σ H s → RelV x v → Vals xs us → r x xs H Q →
    wpAny (model X.prog X.w) X.A (call (.builtin id) (v :: us)) (EP X pins σ Q) X.xe s

/-! ### lists of values -/
theorem Vals.one : ∀ {x : V} {us : List Value}, Vals [x] us → ∃ u, us = [u] ∧ RelV x u
  | _, _, .cons r .nil => ⟨_, rfl, r⟩
theorem Vals.zero : ∀ {us : List Value}, Vals [] us → us = []
  | _, .nil => rfl
theorem Vals.reverse {xs : List V} {us : List Value} (h : Vals xs us) : Vals xs.reverse us.reverse := by
  induction h with
  | nil => exact .nil
  | cons r t ih => rw [List.reverse_cons, List.reverse_cons]; exact Vals.append ih (.cons r .nil)
section
variable {X : Cx} {pins : List (Addr × Obj)} {σ : St} {H : Hp} {s : Shared} {l b : Addr} {xs ys zs : List V}

/-! ### the two steps: a tracked list is rewritten, a new list is laid -/
theorem Inv.lset {its its' : List Value} {n : Nat} {f : Array Value → Array Value} {t' : Nat} (I : Inv X pins σ H s) (hH : H l = some (.lst xs))
    (e : s.heap.get? l = some { cls := .type "list", data := .seq its.toArray n }) (hf : f its.toArray = its'.toArray) (hv : Vals ys its') (hz : ys.length ≤ sizeLine) :
    Inv X pins σ (upd H l (.lst ys)) { s with heap := s.heap.update l (Obj.mapSeq f), toks := t' } := by
  have q := PySem.IsL.update e f
  rw [hf] at q
  refine I.write (x := l) (e := l) (by rw [hH]; exact trivial) (.inl rfl) (fun b' u hb hu => (Heap.get?_update_other s.heap (Obj.mapSeq f) (Ne.symm hb)).trans hu) ⟨_, q⟩ ?_
  exact ⟨hz, its', _, hv, q⟩
theorem Inv.lnew {its : List Value} {t' : Nat} (I : Inv X pins σ H s) (hv : Vals ys its) (hz : ys.length ≤ sizeLine) :
    Inv X pins σ (upd H s.heap.objs.size (.lst ys)) { s with heap := s.heap.push { cls := .type "list", data := .seq its.toArray }, toks := t' } :=
  I.laid (fun _ _ q => Heap.get?_push_of_some _ q) (Nat.le_refl _) ⟨hz, its, 0, hv, Heap.get?_push_size _ rfl⟩
theorem Inv.fresh (I : Inv X pins σ H s) : H s.heap.objs.size = none := I.hok.fresh (Nat.le_refl _)
theorem Inv.lstM (I : Inv X pins σ H s) (hH : H l = some (.lst xs)) : xs.length ≤ sizeLine ∧ ∃ (its : List Value) (n : Nat), Vals xs its ∧ xs.length = its.length ∧ s.heap.get? l = some { cls := .type "list", data := .seq its.toArray n } := by
  obtain ⟨z, its, n, r, e⟩ := I.hok l _ hH
  exact ⟨z, its, n, r, r.length, e⟩

end

section
variable {X : Cx}

/-! ### methods -/
noncomputable def rAppend : V → List V → Hp → VK → Prop := fun x vs H Q => ∃ l xs y, x = .ref l ∧ vs = [y] ∧ H l = some (.lst xs) ∧ xs.length < sizeLine ∧ Q .non (upd H l (.lst (xs ++ [y])))
theorem mt_append : MtM X "list.append" rAppend := by
  intro pins s σ H x vs v us Q I rx rv h
  obtain ⟨l, xs, y, rfl, rfl, hH, hz, q⟩ := h
  cases rx
  obtain ⟨u, rfl, ru⟩ := rv.one
  obtain ⟨z, its, n, r, hl, e⟩ := I.lstM hH
  refine call_meets F.slot_list_append ⟨_, e, rfl⟩ F.entry_list_append (F.args_list_append_2 _ _) (PySem.list_append l its.toArray n u (by rw [List.size_toArray]; omega)) ⟨e, ?_⟩
  refine ⟨.non, _, I.lset (its' := its ++ [u]) hH e (by simp) (r.append (.cons ru .nil)) ?_, rfl, q⟩
  rw [List.length_append, List.length_singleton]
  omega

noncomputable def rClear : V → List V → Hp → VK → Prop := fun x vs H Q => ∃ l xs, x = .ref l ∧ vs = [] ∧ H l = some (.lst xs) ∧ Q .non (upd H l (.lst []))
theorem mt_clear : MtM X "list.clear" rClear := by
  intro pins s σ H x vs v us Q I rx rv h
  obtain ⟨l, xs, rfl, rfl, hH, q⟩ := h
  cases rx
  have hus := rv.zero
  subst hus
  obtain ⟨z, its, n, r, hl, e⟩ := I.lstM hH
  refine call_meets F.slot_list_clear ⟨_, e, rfl⟩ F.entry_list_clear (F.args_list_clear_1 _) (AutoSeq1.list_clear_list_0 l its.toArray n (by rw [List.size_toArray]; omega)) ⟨e, ?_⟩
  exact ⟨.non, _, I.lset (its' := []) (ys := []) hH e rfl .nil (Nat.zero_le _), rfl, q⟩

/-! ### list + list, list += list, list * int -/
noncomputable def rCat : R2 := fun x y H Q => ∃ l b xs zs, x = .ref l ∧ y = .ref b ∧ H l = some (.lst xs) ∧ H b = some (.lst zs) ∧ xs.length + zs.length ≤ sizeLine ∧ ∀ p, H p = none → Q (.ref p) (upd H p (.lst (xs ++ zs)))
theorem op_cat : OpR X (binaryOp .Add) rCat := by
  intro pins s σ H x y v u Q I rx ry h
  obtain ⟨l, b, xs, zs, rfl, rfl, hH, hB, hz, q⟩ := h
  cases rx
  cases ry
  obtain ⟨z, its, n, r, hl, e⟩ := I.lstM hH
  obtain ⟨z2, its2, n2, r2, hl2, e2⟩ := I.lstM hB
  refine PySem.P.add_list e e2 ?_ (by rw [List.size_toArray, List.size_toArray]; omega)
  have ea : its.toArray ++ its2.toArray = (its ++ its2).toArray := by simp
  rw [ea]
  exact ⟨.ref _, _, I.lnew (t' := s.toks) (r.append r2) (by rw [List.length_append]; omega), rfl, q _ I.fresh⟩
/-! ### del xs[i] -/
end

/-! ### xs[a:b] = ys -/
section
variable {prog : Program} {w : World} {A : Around} {E : Value → Shared → Prop} {s : Shared}
set_option maxRecDepth 100000 in
end

section
variable {X : Cx}
end
end L2

namespace Att
open PySem PySem.W PySem.Calls PyProof.Rows

/-! ### the script -/
theorem ints_of_wellAll {P : Params} {h : Heap} : ∀ (ns : List Int) (vs : List Value), WellAll P h vs (ns.map WData.int) → IntsAre vs ns := by
  intro ns
  induction ns with
  | nil =>
    intro vs w
    rw [List.map_nil] at w
    cases w
    exact .nil
  | cons n ns ih =>
    intro vs w
    rw [List.map_cons] at w
    cases w with
    | cons a b =>
      cases a
      exact .cons _ _ (ih _ b)

theorem script_of {l : OpenLaw} {n : Nat} (hn : l.most = some n) {P : Params} {h : Heap} {args : List WData} {vals : List Value}
    (hpre : l.row.toRowW.claim.pre args = true) (hwl : WellAll P h vals args) :
    ∃ a vs ns, vals = [Value.ref a] ∧ args = [WData.list (ns.map WData.int)] ∧ h.get? a = some { cls := .type "list", data := .seq vs.toArray } ∧ IntsAre vs ns ∧ ns.length ≤ n := by
  have hsh : WShape.hasAll [] args [.list .int] = true := (pre_splitW hpre).1
  have hc : l.pre.holds [] { args := args } = true := (pre_splitW hpre).2
  obtain ⟨d, r, rfl, h1, h2⟩ := hasAllW_cons hsh
  obtain rfl := hasAllW_nil h2
  obtain ⟨xs, rfl, h3⟩ := hasW_list h1
  obtain ⟨ns, rfl⟩ := items_int h3
  have hlen : ns.length ≤ n := by
    unfold OpenLaw.pre at hc
    have h4 : (WTm.not (.lt (.lit (.int (n : Int))) (.len (.arg 0)))).holds [] { args := [.list (ns.map .int)] } = true := by
      have h4 := (holds_andW hc).1
      rw [hn] at h4
      exact h4
    have h5 := condW_of h4 (w_not (w_lt w_lit (w_len_list (w_arg rfl))))
    rw [List.length_map] at h5
    refine Nat.le_of_not_lt fun q => ?_
    have q' : (n : Int) < ((ns.length : Nat) : Int) := by omega
    first
      | (rw [decide_eq_true q'] at h5; exact absurd h5 (by decide))
      | (simp at h5; omega)
  cases hwl with
  | cons w1 w2 =>
    cases w2
    cases w1 with
    | list ho hall => exact ⟨_, _, ns, rfl, rfl, ho, ints_of_wellAll ns _ hall, hlen⟩

theorem post_true (l : OpenLaw) (args : List WData) : l.row.toRowW.claim.post args (.bool true) args = true :=
  postW_of (r := l.row.toRowW) (X := (true == true))
    (show WShape.has [] (.bool true) .bool = true by first | rfl | decide | simp [WShape.has, WShape.arms, WShape.armsAll])
    (show (WTm.eq .res (.lit (.bool true))).value [] { args := args, res := some (.bool true), after := args } = some (.bool (true == true)) from w_eq_bool (w_res rfl) w_lit) rfl

/-! ### the attachment: holds_open's last premise (the goal 'hc' behind k_head) from a wpAny of the law's body -/
/-- the same from a codeAny of the CALL (for a layer whose function contracts speak of calls) -/
theorem attach_call {l : OpenLaw} {n : Nat} {q : Program} {loose : List Str} {XP : (Str → Option Value) → Heap → Prop} {YP : World → Heap → Prop} {d : DefRec}
    (hn : l.most = some n) (hdf : d.params.defaults = [])
    (call : ∀ (w : World) (s₀ s₁ : Shared) (mg mb : Str → Option Value) (fa : Addr) (o : Obj) (pm cd doc : Value) (a : Addr) (vs : List Value) (ns : List Int),
      Ground q loose [] XP w s₀ mg mb s₁.heap → YP w s₁.heap →
      s₁.heap.get? fa = some o → o.data = .func (docDef d.name d.params d.body d.scope pm cd doc) → s₁.heap.CodeRec cd d.name → mg d.name = some (.ref fa) →
      s₁.heap.get? a = some { cls := .type "list", data := .seq vs.toArray } → IntsAre vs ns → ns.length ≤ n → s₁.gens = #[] →
      codeAny (model l.prog w) callerA (.call (.ref fa) ⟨[.ref a], []⟩) (fun r s' => r = .ok (.ret (.bool true)) ∧ OldK s₁.heap s'.heap ∧ s'.os = s₁.os ∧ AllBare s'.gens) s₁) :
    WalkO q loose XP YP l.row.toRowW d [] (fun f vs => PySem.call f vs) := by
  intro w s₀ s₁ mg mb G Y fa o pm cd doc dV kV ho hd hcd hD hmg hg args vals as hpre hlay hrd hwl hlo
  obtain rfl : dV = .none := Dflts.none hD hdf
  obtain rfl : kV = .none := Dflts.noKw hD
  obtain ⟨a, vs, ns, rfl, rfl, hobj, hints, hlen⟩ := script_of hn hpre hwl
  refine enter_call (codeAny_mono (call w s₀ s₁ mg mb fa o pm cd doc a vs ns G Y ho (fd_plain hd) hcd hmg hobj hints hlen hg) fun r s' hq => ?_)
  obtain ⟨rfl, h2, h3, h4⟩ := hq
  exact ⟨.inl ⟨.bool true, .bool true, [], rfl, fun _ => rfl, .bool true, post_true l _, fun _ => ⟨List.Pairwise.nil, fun _ hm => (nomatch hm)⟩⟩, h2, h3, h4⟩

/-! ### rules over ANY heap (no ledger) from facts about the written part K: the library's own take a ledger (News) for what they write -/
section
variable {prog : Program} {w : World} {A : Around} {E : Value → Shared → Prop} {s : Shared} {K : Frag}

/-! the whole heap as the ledger: makes every rule that writes through a ledger a rule over any heap -/
noncomputable def ledger (h : Heap) (L d : Addr) : List (Addr × Obj) := (List.range h.objs.size).filterMap fun a => if a = L ∨ a = d then none else (h.get? a).map fun o => (a, o)
end
end Att

namespace L2
open PySem PySem.Spec PyProof.Rows

theorem vals_ints : ∀ {vs : List Value} {ns : List Int}, IntsAre vs ns → Vals (ns.map V.int) vs
  | _, _, .nil => .nil
  | _, _, .cons n t h => .cons ⟨t, rfl⟩ (vals_ints h)

/-- nothing is tracked but the script, known to the object (or it is an object of the module) -/
noncomputable def Only (H : Hp) : Prop := ∀ b, H b = none ∨ ∃ o xs, H b = some (.frz o (.lst xs))

/-- THE HEAD: the law's promise, at the heap behind the top. F, the promise of the law's def, may use that base is part of the heap (so K.In base, base.Ns mainGlobals mg stand in Mod) -/
theorem law_call {P : Program} {w : World} {K : PySem.W.Frag} {mg mb : Str → Option Value} {CX : CXT} {k : Nat} {fa a : Addr} {fd : FuncData} {x : Str} {sp : Sp} {s₁ : Shared} {vs : List Value} {ns : List Int}
    (KX : K.In s₁.heap) (hns : s₁.heap.Ns mainGlobals mg) (hb : s₁.heap.Ns builtinsNs mb) (hbb : ∀ x : Str, x ≠ "__name__" → mb x = bootBuiltins x) (hlim : s₁.heap.NoLimit) (hg : s₁.gens = #[])
    (ha : s₁.heap.get? a = some { cls := .type "list", data := .seq vs.toArray }) (hi : IntsAre vs ns) (hl : ns.length ≤ sizeLine) (hr : Room k callerA)
    (F : ∀ base : Heap, K.In base → base.Ns mainGlobals mg → FnOk P w K mg base CX k fa fd [x] sp) (hbind : ∀ (s : Shared) (u : Value), BindsTo s fd ⟨[u], []⟩ [(x, u)])
    (hsp : ∀ H : Hp, Only H → SqL K H a (ns.map V.int) → sp [.ref a] H (fun v _ => v = .bl true) fun _ _ _ => False)
    (hCX : ∀ H e s', CX [] H s₁ (fun _ _ _ => False) e s' → False) :
    codeAny (model P w) callerA (.call (.ref fa) ⟨[.ref a], []⟩) (fun r s' => r = .ok (.ret (.bool true)) ∧ OldK s₁.heap s'.heap ∧ s'.os = s₁.os ∧ AllBare s'.gens) s₁ := by
  have rv := vals_ints hi
  have lenV := hi.length
  -- from an abstract heap in which nothing but the script may be tracked
  have core : ∀ H : Hp, Only H → SqL K H a (ns.map V.int) → HOk P w H s₁.heap → (∀ b, H b ≠ none → b = a) → (H a ≠ none → K.lookup a = none) →
      codeAny (model P w) callerA (.call (.ref fa) ⟨[.ref a], []⟩) (fun r s' => r = .ok (.ret (.bool true)) ∧ OldK s₁.heap s'.heap ∧ s'.os = s₁.os ∧ AllBare s'.gens) s₁ := by
    intro H hO hS hok hA hK
    have base_of : ∀ {b : Addr} {o : Obj}, s₁.heap.get? b = some o → H b = none → (hidT s₁.heap H).get? b = some o := fun e n => hidT_get e n
    have noA : ∀ {b : Addr} {o : Obj} {es : Array DictEntry} {ep : Nat}, s₁.heap.get? b = some o → o.data = .dict es ep → H b = none := fun {b o es ep} e d => by
      cases q : H b with
      | none => rfl
      | some u =>
        have e' : b = a := hA b (by rw [q]; simp)
        subst e'
        rw [ha] at e; cases e
        have d' : Data.seq vs.toArray _ = Data.dict es ep := d
        cases d'
    have nsK : ∀ {b : Addr} {m : Str → Option Value}, s₁.heap.Ns b m → (hidT s₁.heap H).Ns b m := fun {b m} ⟨o, es, ep, e, d, r⟩ => ⟨o, es, ep, base_of e (noA e d), d, r⟩
    have hKb : K.In (hidT s₁.heap H) := fun b o e => base_of (KX b o e) (by
      cases q : H b with
      | none => rfl
      | some u =>
        have e' : b = a := hA b (by rw [q]; simp)
        subst e'
        rw [hK (by rw [q]; simp)] at e; cases e)
    have hM : Mod K mg (hidT s₁.heap H) := ⟨hKb, nsK hns, ⟨mb, nsK hb, hbb⟩, let ⟨mc, h1, h2⟩ := hlim; ⟨mc, nsK h1, h2⟩⟩
    have e0 : Env0 P w K mg (hidT s₁.heap H) callerA [] s₁ H := ⟨rfl, hM, fun b o e => of_hidT e, Nat.le_of_eq (hidT_size _ _), trivial, fun b hb => absurd (show b ∈ ([] : List Addr) from hb) (by simp), hok, .of_eq hg⟩
    refine codeAny_mono ((F _ hKb (nsK hns)).run callerA [] s₁ H ⟨[.ref a], []⟩ [.ref a] [.ref a] _ _ hr e0 (hbind s₁ (.ref a)) (.cons rfl .nil) (hsp H hO hS)) fun r s' h => ?_
    cases r with
    | error e => exact (hCX H e s' h).elim
    | ok fl =>
      cases fl with
      | next => exact False.elim h
      | brk => exact False.elim h
      | cont => exact False.elim h
      | ret u =>
        obtain ⟨v, H', os, bare, un, hok', r', q⟩ := h
        have q' : v = .bl true := q
        subst q'
        obtain rfl : u = Value.bool true := r'
        refine ⟨rfl, OldK.of_keep fun b o e => ?_, os, bare⟩
        cases q : H b with
        | none => exact un.keep b o e q (by intro z; exact absurd (show b ∈ ([] : List Addr) from z) (by simp)) (by simp)
        | some u =>
          rcases hO b with z | ⟨ob, xs, z⟩
          · rw [q] at z; cases z
          · have z2 := un.frzs b ob _ z
            obtain ⟨e1, _⟩ := hok b _ z
            obtain ⟨e2, _⟩ := hok' b _ z2
            rw [e] at e1; cases e1
            exact e2
  cases hk : K.lookup a with
  | some o =>
    -- the script is one of the module's own objects
    have e := KX a o hk
    rw [ha] at e
    cases e
    refine core (fun _ => none) (fun _ => .inl rfl) (.inr ⟨_, vs.toArray, _, hk, rfl, rfl, rfl, by rw [List.size_toArray, lenV]; exact hl, by simpa using rv⟩) (fun b u z => by have z' : (none : Option HO) = some u := z; cases z') (fun b z => absurd rfl z) fun z => absurd rfl z
  | none =>
    refine core (fun b => if b = a then some (.frz { cls := .type "list", data := .seq vs.toArray } (.lst (ns.map V.int))) else none) (fun b => ?_) (.inl (.inr ⟨{ cls := .type "list", data := .seq vs.toArray }, if_pos rfl⟩)) (fun b u z => ?_) (fun b z => ?_) fun _ => hk
    · by_cases hb : b = a
      · exact .inr ⟨_, _, if_pos hb⟩
      · exact .inl (if_neg hb)
    · by_cases hb : b = a
      · have z' := (if_pos hb).symm.trans z
        cases z'
        subst hb
        exact ⟨ha, by rw [List.length_map]; exact hl, vs, _, rv, ha⟩
      · have z' := (if_neg hb).symm.trans z
        cases z'
    · by_cases hb : b = a
      · exact hb
      · exact absurd (if_neg hb) z
end L2

namespace L2
open PySem PySem.Spec PyProof.Rows

noncomputable abbrev KOf {K : PySem.W.Frag} {h : Heap} (_ : K.In h) : PySem.W.Frag := K

/-- the goal that k_head leaves (case hc), from the law's promise. F gives the function object fd (K's own) once, then the promise over every base -/
theorem walk_of {l : PySem.W.OpenLaw} {n k : Nat} {q : Program} {loose : List Str} {XP : (Str → Option Value) → Heap → Prop} {YP : World → Heap → Prop} {d : DefRec} {K : Params → PySem.W.Frag} {CX : World → CXT} {sp : World → Sp} {x : Str}
    (hn : l.most = some n) (hn2 : n ≤ sizeLine) (hdf : d.params.defaults = []) (hr : Room k callerA)
    (hY : ∀ (w : World) (h : Heap), YP w h → (K w.params).In h)
    (F : ∀ (w : World) (mg : Str → Option Value) (fa : Addr) (h : Heap), (K w.params).In h → h.Ns mainGlobals mg → mg d.name = some (.ref fa) →
      ∃ fd : FuncData, (∀ (s : Shared) (u : Value), BindsTo s fd ⟨[u], []⟩ [(x, u)]) ∧
        ∀ base : Heap, (K w.params).In base → base.Ns mainGlobals mg → FnOk l.prog w (K w.params) mg base (CX w) k fa fd [x] (sp w))
    (hsp : ∀ (w : World) (H : Hp) (a : Addr) (ns : List Int), ns.length ≤ n → Only H → SqL (K w.params) H a (ns.map V.int) → sp w [.ref a] H (fun v _ => v = .bl true) fun _ _ _ => False)
    (hCX : ∀ (w : World) (H : Hp) (s : Shared) (e : Value) (s' : Shared), CX w [] H s (fun _ _ _ => False) e s' → False) :
    PySem.W.WalkO q loose XP YP l.row.toRowW d [] (fun f vs => PySem.call f vs) := by
  refine Att.attach_call hn hdf fun w s₀ s₁ mg mb fa o pm cd doc a vs ns G Y ho hd hcd hmg hobj hints hlen hg => ?_
  have KX := hY w _ Y
  obtain ⟨fd, hb, hF⟩ := F w mg fa _ KX G.T.g hmg
  exact law_call KX G.T.g G.T.b G.T.builtins G.T.nolimit hg hobj hints (Nat.le_trans hlen hn2) hr hF hb (fun H hO hS => hsp w H a ns hlen hO hS) fun H e s' => hCX w H s₁ e s'
end L2

/- THE LAST THEOREM (shape; LID, My.* are yours):
   My.Adr: a structure of the addresses that your layer names (classes, functions); My.Txt K t: a structure (Prop) of the equations over K;
   My.txt_mk : {K} {implicit addresses ..} (e1 : nsIn K mainGlobals "law" = some (some (.ref f))) (e2 : K.lookup f = some ⟨oc, od, .func (fnOf "law" "law" params body scope dV kV doc pm an cdv ct), sl⟩) (e3 : codeIn K cdv "law" = true) .. : ∃ t, My.Txt K t

set_option maxRecDepth 100000 in
set_option maxHeartbeats 0 in
theorem PySem.Challenge.cw_LID_holds : PySem.Challenge.rw_LID.Holds := by
  w_on; o_law; k_head; (case hw => w_witness2)
  k_fill
  refine L2.walk_of (l := PySem.Challenge.rw_LID) (n := 63) (k := 40) (x := "script") (CX := fun w => ..) (sp := fun _ => My.sp_law) rfl (by decide) rfl ⟨rfl, by decide, by decide⟩ (fun w h Y => PySem.W.kIn_of Y) ?F ?S ?C
  case F =>
    intro w mg fa h KX G hmg
    have T : ∃ t, My.Txt (L2.KOf KX) t := by
      dsimp only [L2.KOf]                          -- K must stand as «<heap const> w.params» for k_is
      refine' My.txt_mk ?e1 ?e2 ?e3 ..
      (case e1 => PySem.W.k_is)                    -- in the order: a name -> its address -> its object -> its parts
      (case e2 => PySem.W.k_is)
      ..
    obtain ⟨t, T⟩ := T
    have e0 := hmg.symm.trans (PySem.W.mg_of KX G T.law)
    cases e0                                       -- fa is the law's own address
    exact ⟨_, fun s u => .of_eq rfl, fun base kb nb => My.law_fn T kb nb⟩     -- if «.of_eq rfl» comes too early: refine' ⟨_, ?b, fun base kb nb => My.law_fn T kb nb⟩; exact fun s u => .of_eq rfl
  case S => exact fun w H a ns hl hO hS => ..
  case C => exact ..
(the tactic k_is has no namespace: write k_is) -/

/-! SHORT WORDS over the layer: a def of the text, its body, what a loop and a test want. -/
namespace L2
open PySem PySem.Spec PyProof.Rows

/-! ### the text by places -/
/-- the j-th statement of a class's body -/
noncomputable def defArgs (s : Stmt) : Arguments := match s with
  | .FunctionDef _ a _ _ _ _ _ _ _ _ => a
  | _ => { posonlyargs := [], args := [], vararg := none, kwonlyargs := [], kw_defaults := [], kwarg := none, defaults := [] }
noncomputable def defBody (s : Stmt) : List Stmt := match s with
  | .FunctionDef _ _ b _ _ _ _ _ _ _ => b
  | _ => []
noncomputable def defScope (s : Stmt) : Scope := match s with
  | .FunctionDef _ _ _ _ _ _ sc _ _ _ => sc
  | _ => { kind := .function, names := [], isGenerator := false, isCoroutine := false }

/-! ### no exception leaves a def -/
noncomputable abbrev CX0 : CXT := fun _ _ _ _ _ _ => False
noncomputable abbrev E0 : XK := fun _ _ _ => False
theorem pass0 {X : Cx} : Passes CX0 X E0 := fun _ _ _ _ _ _ _ h => h.elim

/-! ### a def (or method) of the text as it stands behind the top -/
structure Fun (K : PySem.W.Frag) (x qual : Str) (st : Stmt) (f : Addr) (fd : FuncData) : Prop where
  ex : ∃ (oc : Value) (od : Option Addr) (kV doc pm : Value) (an : Option Addr) (cdv ct : Value) (osl : Array (Option Value)),
    fd = PySem.W.fnOf x qual (defArgs st) (defBody st) (defScope st) .none kV doc pm an cdv ct ∧ K.lookup f = some ⟨oc, od, .func fd, osl⟩ ∧ PySem.W.codeIn K cdv qual = true
  kp : PySem.W.keepIn K (.ref f) = true
section
variable {P : Program} {w : World} {K : PySem.W.Frag} {mg : Str → Option Value} {base : Heap}
/-- THE RULE for a def: its body as a term of rules, and the reading of that term -/
theorem Fun.ok {x qual : Str} {st : Stmt} {f : Addr} {fd : FuncData} {N ps : List Str} {k : Nat} {sp : Sp} (F : Fun K x qual st f fd) (S : FnScope N ps (defScope st)) (len : ∀ vs H Q E, sp vs H Q E → vs.length = ps.length)
    (hbody : ∀ (cdv : Value) (A : Around) (outer : List Env) (s : Shared) (H : Hp) (vs : List V) (Q : VK) (E : XK), Room k (A.deeper (envOfC qual (defScope st) s.heap.objs.size f cdv)) → sp vs H Q E →
      ∃ t, PSs (cxOf CX0 P w K mg base N qual (defScope st) f cdv A outer s H E).nox (defBody st) t ∧ t { nx := fun _ H' => Q .non H', rt := Q } (start N vs) H) : FnOk P w K mg base CX0 (k + 1) f fd ps sp := by
  obtain ⟨oc, od, kV, doc, pm, an, cdv, ct, osl, rfl, lk, hcd⟩ := F.ex
  refine fn_of lk hcd S len fun A outer s H vs Q E hr hsp => ?_
  obtain ⟨t, h, q⟩ := hbody cdv A outer s H vs Q E hr hsp
  exact ⟨t, h.nox, q⟩
/-- how its arguments bind (no defaults): h is «fun _ _ _ _ _ _ us hl => match us, hl with | [_, _], _ => rfl», one _ a parameter -/
theorem Fun.binds {x qual : Str} {st : Stmt} {f : Addr} {fd : FuncData} {ps : List Str} (F : Fun K x qual st f fd)
    (h : ∀ (kV doc pm : Value) (an : Option Addr) (cdv ct : Value) (us : List Value), us.length = ps.length → bindArgs (PySem.W.fnOf x qual (defArgs st) (defBody st) (defScope st) .none kV doc pm an cdv ct) ⟨us, []⟩ = pure (ps.zip us)) : Binds K fd ps [] := by
  obtain ⟨oc, od, kV, doc, pm, an, cdv, ct, osl, rfl, lk, hcd⟩ := F.ex
  exact .all (h kV doc pm an cdv ct)
theorem fun_mk {x qual : Str} {st : Stmt} {f : Addr} {oc : Value} {od an : Option Addr} {osl : Array (Option Value)} {kV doc pm cdv ct : Value} (l : K.lookup f = some ⟨oc, od, .func (PySem.W.fnOf x qual (defArgs st) (defBody st) (defScope st) .none kV doc pm an cdv ct), osl⟩)
    (c : PySem.W.codeIn K cdv qual = true) (k : PySem.W.keepIn K (.ref f) = true) : Fun K x qual st f (PySem.W.fnOf x qual (defArgs st) (defBody st) (defScope st) .none kV doc pm an cdv ct) := ⟨⟨oc, od, kV, doc, pm, an, cdv, ct, osl, rfl, l, c⟩, k⟩
end
theorem small1000 {n : Nat} (h : n ≤ 1000) : n < sizeLine := Nat.lt_of_le_of_lt h (by decide)

/-! ### expressions in short: the name that stands in the i-th slot -/
section
variable {X : Cx}
theorem pv (i : Nat) {x : Str} {pos : Pos} (hN : X.N[i]? = some x := by rfl) (hv : Vis X.env.scope x := by first | exact Or.inl rfl | exact Or.inr (Or.inl rfl) | exact Or.inr (Or.inr rfl)) (hd : (x == ("__debug__" : Str)) = false := by decide)
    (hcd : (x == ("__classdict__" : Str)) = false := by decide) : PE X (.Name x pos) (tVar i) := pe_var hN hv hd hcd
end

/-! ### tests -/
theorem iteF {A B : Prop} (h : B) : if false = true then A else B := by
  rw [if_neg Bool.false_ne_true]
  exact h
theorem iteT {A B : Prop} (h : A) : if true = true then A else B := by
  rw [if_pos rfl]
  exact h
theorem iteNS {c A B : Prop} [Decidable c] (hc : c) (h : B) : if (!decide c) = true then A else B := by
  rw [decide_eq_true hc]
  exact iteF h

/-! ### heaps -/
/-- all that was tracked is as it was -/
noncomputable def Same (H H' : Hp) : Prop := ∀ b o, H b = some o → H' b = some o
theorem Same.refl (H : Hp) : Same H H := fun _ _ h => h
theorem Same.trans {H H1 H2 : Hp} (a : Same H H1) (b : Same H1 H2) : Same H H2 := fun c o h => b c o (a c o h)
theorem Same.free {H H' : Hp} (e : Same H H') {l : Addr} (h : H' l = Option.none) : H l = Option.none := by
  cases q : H l with
  | none => rfl
  | some o =>
    rw [e l o q] at h
    cases h
theorem Same.seq {K : PySem.W.Frag} {H H' : Hp} {a : Addr} {xs : List V} (e : Same H H') (h : SqL K H a xs) : SqL K H' a xs := by
  rcases h with (h | ⟨o, h⟩) | h
  · exact .inl (.inl (e _ _ h))
  · exact .inl (.inr ⟨o, e _ _ h⟩)
  · exact .inr h

end L2

namespace Cv
/-! sizes -/
structure Sz (n : Nat) (x : Int) : Prop where
  lt : x.natAbs < 2 ^ n
theorem Sz.mono {n m : Nat} {x : Int} (h : Sz n x) (hm : n ≤ m) : Sz m x := ⟨Nat.lt_of_lt_of_le h.lt (Nat.pow_le_pow_right (by decide) hm)⟩
theorem Sz.le {n : Nat} {x y : Int} (h : Sz n x) (hy : y.natAbs ≤ x.natAbs) : Sz n y := ⟨Nat.lt_of_le_of_lt hy h.lt⟩
theorem Sz.mul {n m : Nat} {x y : Int} (h : Sz n x) (k : Sz m y) : Sz (n + m) (x * y) := by
  refine ⟨?_⟩
  rw [Int.natAbs_mul, Nat.pow_add]
  exact Nat.mul_lt_mul'' h.lt k.lt
theorem Sz.add {n m : Nat} {x y : Int} (h : Sz n x) (k : Sz m y) : Sz (max n m + 1) (x + y) := by
  refine ⟨?_⟩
  have h1 := (h.mono (Nat.le_max_left n m)).lt
  have h2 := (k.mono (Nat.le_max_right n m)).lt
  have h3 := Int.natAbs_add_le x y
  rw [Nat.pow_succ]
  omega
theorem Sz.neg {n : Nat} {x : Int} (h : Sz n x) : Sz n (-x) := ⟨by rw [Int.natAbs_neg]; exact h.lt⟩
theorem Sz.sub {n m : Nat} {x y : Int} (h : Sz n x) (k : Sz m y) : Sz (max n m + 1) (x - y) := by
  rw [Int.sub_eq_add_neg]
  exact h.add k.neg
theorem Sz.one : Sz 1 1 := ⟨by decide⟩
theorem Sz.zero : Sz 0 0 := ⟨by decide⟩
/-! a fraction's size -/
structure Bd (n : Nat) (q : Rat) : Prop where
  num : Sz n q.num
  den : Sz n (q.den : Int)
theorem Bd.mono {n m : Nat} {q : Rat} (h : Bd n q) (hm : n ≤ m) : Bd m q := ⟨h.num.mono hm, h.den.mono hm⟩
theorem num_le (a b : Int) (hb : b ≠ 0) : (Rat.divInt a b).num.natAbs ≤ a.natAbs ∧ (Rat.divInt a b).den ≤ b.natAbs := by
  refine ⟨?_, ?_⟩
  · rw [Rat.num_divInt]
    have h2 : (b.sign * a).natAbs = a.natAbs := by
      rw [Int.natAbs_mul, Int.natAbs_sign_of_ne_zero hb, Nat.one_mul]
    have hd : (b.gcd a : Int) ∣ b.sign * a := Int.dvd_mul_of_dvd_right (Int.gcd_dvd_right ..)
    rw [← h2]
    have := Int.natAbs_ediv_of_dvd hd
    rw [this]
    exact Nat.div_le_self _ _
  · rw [Rat.den_divInt, if_neg hb]
    exact Nat.div_le_self _ _
theorem Bd.of {n m : Nat} {a b : Int} (ha : Sz n a) (hb : Sz m b) (h0 : b ≠ 0) : Bd (max n m) (Rat.divInt a b) :=
  ⟨(ha.mono (Nat.le_max_left n m)).le (num_le a b h0).1, (hb.mono (Nat.le_max_right n m)).le (by rw [Int.natAbs_natCast]; exact (num_le a b h0).2)⟩
theorem den_ne (q : Rat) : (q.den : Int) ≠ 0 := by have := q.den_pos; omega
theorem add_eq (a b : Rat) : Rat.divInt (a.num * b.den + b.num * a.den) ((a.den : Int) * b.den) = a + b := by
  have := Rat.divInt_add_divInt a.num b.num (den_ne a) (den_ne b)
  rw [Rat.num_divInt_den, Rat.num_divInt_den] at this
  exact this.symm
theorem sub_eq (a b : Rat) : Rat.divInt (a.num * b.den - b.num * a.den) ((a.den : Int) * b.den) = a - b := by
  have := Rat.divInt_sub_divInt a.num b.num (den_ne a) (den_ne b)
  rw [Rat.num_divInt_den, Rat.num_divInt_den] at this
  exact this.symm
theorem mul_eq (a b : Rat) : Rat.divInt (a.num * b.num) ((a.den : Int) * b.den) = a * b := by
  have := Rat.divInt_mul_divInt a.num b.num (d₁ := a.den) (d₂ := b.den)
  rw [Rat.num_divInt_den, Rat.num_divInt_den] at this
  exact this.symm
theorem den_mul_ne (a b : Rat) : (a.den : Int) * b.den ≠ 0 := Int.mul_ne_zero (den_ne a) (den_ne b)
theorem Bd.add {n m : Nat} {a b : Rat} (h : Bd n a) (k : Bd m b) : Bd (n + m + 1) (a + b) := by
  rw [← add_eq]
  exact (Bd.of ((h.num.mul k.den).add (k.num.mul h.den)) (h.den.mul k.den) (den_mul_ne a b)).mono (by omega)
theorem Bd.sub {n m : Nat} {a b : Rat} (h : Bd n a) (k : Bd m b) : Bd (n + m + 1) (a - b) := by
  rw [← sub_eq]
  exact (Bd.of ((h.num.mul k.den).sub (k.num.mul h.den)) (h.den.mul k.den) (den_mul_ne a b)).mono (by omega)
theorem Bd.mul {n m : Nat} {a b : Rat} (h : Bd n a) (k : Bd m b) : Bd (n + m) (a * b) := by
  rw [← mul_eq]
  exact (Bd.of (h.num.mul k.num) (h.den.mul k.den) (den_mul_ne a b)).mono (by omega)
/-! the share of two whole numbers, as it is reckoned -/
theorem share_pos (t b : Int) (hb : 0 < b) : t.fdiv (Int.gcd t b) = (Rat.divInt t b).num ∧ b.fdiv (Int.gcd t b) = ((Rat.divInt t b).den : Int) := by
  rw [Rat.num_divInt, Rat.den_divInt, if_neg (by omega), Int.sign_eq_one_of_pos hb, Int.one_mul, Int.gcd_comm b t]
  refine ⟨Int.fdiv_eq_ediv_of_nonneg _ (Int.natCast_nonneg _), ?_⟩
  rw [Int.fdiv_eq_ediv_of_nonneg _ (Int.natCast_nonneg _), Int.natCast_ediv, Int.natAbs_of_nonneg (Int.le_of_lt hb)]
theorem gcd_step (a b : Int) : Int.gcd b (a.fmod b) = Int.gcd a b := by
  rw [Int.fmod_def, Int.sub_eq_add_neg, ← Int.mul_neg, Int.gcd_add_mul_left_right, Int.gcd_comm]
theorem fmod_lt (a b : Int) (hb : b ≠ 0) : (a.fmod b).natAbs < b.natAbs := by
  rw [Int.fmod_eq_emod]
  have h1 := Int.emod_nonneg a hb
  have h2 := Int.emod_lt a hb
  by_cases h : 0 ≤ b ∨ b ∣ a
  · rw [if_pos h]; omega
  · rw [if_neg h]
    have h3 : a % b ≠ 0 := fun z => h (.inr (Int.dvd_of_emod_eq_zero z))
    omega
theorem gcd_zero (a : Int) : (if a < 0 then -a else a) = (Int.gcd a 0 : Int) := by
  rw [Int.gcd_zero]
  split <;> omega
theorem gcd_pos' (t b : Int) (hb : b ≠ 0) : (Int.gcd t b : Int) ≠ 0 := by
  have := Int.gcd_pos_of_ne_zero_right t hb
  omega
/-- the two products of a good share -/
theorem gcd_red (q : Rat) : Int.gcd (if q.num < 0 then -q.num else q.num) (q.den : Int) = 1 := by
  have := q.reduced
  unfold Nat.Coprime at this
  have e : (if q.num < 0 then -q.num else q.num).natAbs = q.num.natAbs := by split <;> omega
  show Nat.gcd _ _ = 1
  rw [e]
  exact this
end Cv
namespace Cv
theorem divInt_cast (a b : Int) : Rat.divInt a b = (a : Rat) / (b : Rat) := Rat.divInt_eq_div a b
theorem num_cast (q : Rat) : (q.num : Rat) = q * ((q.den : Int) : Rat) := by
  have h := Rat.num_divInt_den q
  rw [Rat.divInt_eq_div] at h
  have hd : ((q.den : Int) : Rat) ≠ 0 := by
    intro z
    exact den_ne q (by exact_mod_cast z)
  conv => rhs; rw [← h]
  grind
theorem den_cast_ne (q : Rat) : ((q.den : Int) : Rat) ≠ 0 := by
  intro z
  exact den_ne q (by exact_mod_cast z)
/-- a quotient of whole numbers, by what it is worth -/
theorem eq_divInt {q : Rat} {t b : Int} (hb : b ≠ 0) (h : q * (b : Rat) = (t : Rat)) : q = Rat.divInt t b := by
  rw [Rat.divInt_eq_div]
  have hb' : (b : Rat) ≠ 0 := by
    intro z
    exact hb (by exact_mod_cast z)
  grind
end Cv

namespace Cv
open PySem PySem.Spec PyProof.Rows L2
section
variable {X : Cx}
/-! ### products and quotients of greater numbers -/
noncomputable def CMulB (i j : Int) : Prop := ∃ n m, Sz n i ∧ Sz m j ∧ n + m ≤ 100000000
noncomputable def CDivB (_i j : Int) : Prop := j ≠ 0 ∧ Sz 9000 j
theorem op_fdivB : OpR X (binaryOp .FloorDiv) (rI CDivB fun i j => .int (i.fdiv j)) := opI fun i j _ _ _ _ _ hc q => by
  obtain ⟨h0, h1⟩ := hc
  refine floordiv_int h0 q (.inl (PyProof.noPylong_of_log2 ?_))
  have hp : j.natAbs ≠ 0 := by omega
  exact (Nat.log2_lt hp).mpr h1.lt
/-! ### isinstance -/
theorem vals_one {x : V} {us : List Value} (r : Vals [x] us) : ∃ u, us = [u] ∧ RelV x u := by
  cases r with
  | cons p q => cases q; exact ⟨_, rfl, p⟩
theorem vals_two {x y : V} {us : List Value} (r : Vals [x, y] us) : ∃ u v, us = [u, v] ∧ RelV x u ∧ RelV y v := by
  cases r with
  | cons p q =>
    obtain ⟨v, rfl, p'⟩ := vals_one q
    exact ⟨_, _, rfl, p, p'⟩
theorem call_isi : CallR X (.builtin "isinstance") (fun xs H Q => ∃ x T t b, xs = [x, .ty T] ∧ TyOf X.K H x t ∧ PySem.W.kitOne X.K t (.type T) = some b ∧ Q (.bl b) H) := by
  intro pins s σ H xs us Q I r h
  obtain ⟨x, T, t, b, rfl, ty, e, q⟩ := h
  obtain ⟨u, v, rfl, ru, rv⟩ := vals_two r
  cases rv
  exact isinst_ok I ru ty e fun tk => ⟨.bl b, H, I.tok tk, rfl, q⟩
/-! ### data -/
mutual
/-- v is the data d -/
noncomputable def Dn (K : PySem.W.Frag) (H : Hp) : PySem.W.Dat → V → Prop
  | .none, v => v = .non
  | .bool b, v => v = .bl b
  | .int i, v => v = .int i
  | .str x, v => v = .str x
  | .bytes _, _ => False
  | .tuple ds, v => ∃ a xs, v = .ref a ∧ SqT K H a xs ∧ DnAll K H ds xs
  | .list ds, v => ∃ a xs, v = .ref a ∧ SqL K H a xs ∧ DnAll K H ds xs
noncomputable def DnAll (K : PySem.W.Frag) (H : Hp) : List PySem.W.Dat → List V → Prop
  | [], xs => xs = []
  | d :: ds, xs => ∃ y ys, xs = y :: ys ∧ Dn K H d y ∧ DnAll K H ds ys
end
mutual
theorem dn_reads {pins : List (Addr × Obj)} {σ : L2.St} {H : Hp} {s : Shared} (I : Inv X pins σ H s) : ∀ (n : Nat) (d : PySem.W.Dat) (v : V) (u : Value), Dn X.K H d v → RelV v u → PySem.W.kqdOk n d = true → ∃ as, Reads s.heap u (PySem.W.kqdP d) as
  | n, .none, v, u, h, r, _ => by
    cases (show v = .non from by simpa [Dn] using h); cases r
    rw [PySem.W.kqdP]; exact ⟨_, Reads.none⟩
  | n, .bool b, v, u, h, r, _ => by
    cases (show v = .bl b from by simpa [Dn] using h); cases r
    rw [PySem.W.kqdP]; exact ⟨_, Reads.bool b⟩
  | n, .int i, v, u, h, r, _ => by
    cases (show v = .int i from by simpa [Dn] using h)
    obtain ⟨t, rfl⟩ := r
    rw [PySem.W.kqdP]; exact ⟨_, Reads.int i t⟩
  | n, .str x, v, u, h, r, _ => by
    cases (show v = .str x from by simpa [Dn] using h)
    obtain ⟨t, rfl⟩ := r
    rw [PySem.W.kqdP]; exact ⟨_, Reads.str x t⟩
  | n, .bytes b, v, u, h, r, _ => by simp [Dn] at h
  | 0, .tuple ds, v, u, h, r, hk => by simp [PySem.W.kqdOk] at hk
  | 0, .list ds, v, u, h, r, hk => by simp [PySem.W.kqdOk] at hk
  | n + 1, .tuple ds, v, u, h, r, hk => by
    rw [Dn] at h
    obtain ⟨a, xs, rfl, hs, hd⟩ := h
    cases r
    obtain ⟨its, rv, ⟨o, ho, hc, m, hdt⟩, hz⟩ := I.tuple hs
    obtain ⟨as, q⟩ := dn_readsAll I n ds xs its hd rv (by simpa [PySem.W.kqdOk] using hk)
    rw [PySem.W.kqdP]
    exact ⟨as, reads_tuple_at ho hc hdt (by simpa using q)⟩
  | n + 1, .list ds, v, u, h, r, hk => by
    rw [Dn] at h
    obtain ⟨a, xs, rfl, hs, hd⟩ := h
    cases r
    obtain ⟨its, rv, pl, hz⟩ := I.list hs
    obtain ⟨o, ho, hc, m, hdt⟩ := pl.isList
    obtain ⟨as, q⟩ := dn_readsAll I n ds xs its hd rv (by simpa [PySem.W.kqdOk] using hk)
    rw [PySem.W.kqdP]
    exact ⟨_, reads_list_at ho hc hdt (by simpa using q)⟩
theorem dn_readsAll {pins : List (Addr × Obj)} {σ : L2.St} {H : Hp} {s : Shared} (I : Inv X pins σ H s) : ∀ (n : Nat) (ds : List PySem.W.Dat) (xs : List V) (us : List Value), DnAll X.K H ds xs → Vals xs us → (∀ d ∈ ds, PySem.W.kqdOk n d = true) → ∃ as, ReadsAll s.heap us (PySem.W.kqdPs ds) as
  | n, [], xs, us, h, r, _ => by
    cases (show xs = [] from by simpa [DnAll] using h)
    cases r
    rw [PySem.W.kqdPs]; exact ⟨_, ReadsAll.nil⟩
  | n, d :: ds, xs, us, h, r, hk => by
    rw [DnAll] at h
    obtain ⟨y, ys, rfl, h1, h2⟩ := h
    cases r with
    | cons p q =>
      obtain ⟨as, r1⟩ := dn_reads I n d y _ h1 p (hk d (.head _))
      obtain ⟨bs, r2⟩ := dn_readsAll I n ds ys _ h2 q fun e he => hk e (.tail _ he)
      rw [PySem.W.kqdPs]
      exact ⟨_, ReadsAll.cons r1 r2⟩
end
theorem shaped_ok {d : PySem.W.Dat} (h : PySem.W.kqdOk 8 d = true) : SeqAt.shaped (PySem.W.kqdP d) = true := by
  have la := PySem.W.kqd_lay 8 d h
  unfold SeqAt.shaped; rw [la.1, Bool.true_and]; exact decide_eq_true (Nat.le_trans la.2 (by decide))
noncomputable def rNeD (K : PySem.W.Frag) : R2 := fun x y H Q => ∃ d e, Dn K H d x ∧ Dn K H e y ∧ PySem.W.kqdOk 8 d = true ∧ PySem.W.kqdOk 8 e = true ∧ ∀ b : Bool, (b = true ↔ d = e) → Q (.bl (!b)) H
theorem op_neD (hu : X.A.units + 64 < cLine) : OpR X (compareOp .NotEq) (rNeD X.K) := by
  intro pins s σ H x y v u Q I rx ry h
  obtain ⟨d, e, hd, he, k1, k2, q⟩ := h
  obtain ⟨as, r1⟩ := dn_reads I 8 d x v hd rx k1
  obtain ⟨bs, r2⟩ := dn_reads I 8 e y u he ry k2
  exact ne_dataH r1 r2 (shaped_ok k1) (shaped_ok k2) hu ⟨.bl _, H, I, rfl, q _ (PySem.W.kqd_eqv 8 d e 8 k1 k2)⟩
end
/-! ### shares -/
noncomputable def ShV (H : Hp) (v : V) (q : Rat) : Prop := ∃ a, v = .ref a ∧ H a = some (.tup [.int q.num, .int (q.den : Int)])
theorem ShV.same {H H' : Hp} {v : V} {q : Rat} (h : ShV H v q) (e : Same H H') : ShV H' v q := by
  obtain ⟨a, rfl, h⟩ := h
  exact ⟨a, rfl, e _ _ h⟩
noncomputable def datSh (q : Rat) : PySem.W.Dat := .tuple [.int q.num, .int (q.den : Int)]
theorem datSh_ok (q : Rat) (n : Nat) : PySem.W.kqdOk (n + 1) (datSh q) = true := by
  cases n <;> simp [datSh, PySem.W.kqdOk]
theorem ShV.dn {K : PySem.W.Frag} {H : Hp} {v : V} {q : Rat} (h : ShV H v q) : Dn K H (datSh q) v := by
  obtain ⟨a, rfl, h⟩ := h
  unfold datSh
  simp only [Dn, DnAll]
  exact ⟨a, _, rfl, SqT.of h, _, _, rfl, rfl, _, _, rfl, rfl, rfl⟩
theorem Same.new {H : Hp} {p : Addr} {o : HO} (h : H p = none) : Same H (upd H p o) := fun b u e => by
  rw [upd_ne (ne_of_none e h)]; exact e
theorem SqT.same {K : PySem.W.Frag} {H H' : Hp} {a : Addr} {xs : List V} (e : Same H H') (h : SqT K H a xs) : SqT K H' a xs := by
  rcases h with (h | ⟨o, h⟩) | h
  · exact .inl (.inl (e _ _ h))
  · exact .inl (.inr ⟨o, e _ _ h⟩)
  · exact .inr h
end Cv

namespace Cv
open PySem PySem.Spec PyProof.Rows L2
/-! ### a def of the text, in one word -/
/-- a def of the module as the top left it -/
structure FunAt (K : PySem.W.Frag) (mg : Str → Option Value) (x : Str) (st : Stmt) (ps : List Str) : Prop where
  ex : ∃ (f : Addr) (fd : FuncData), Fun K x x st f fd ∧ mg x = some (.ref f) ∧ Binds K fd ps []
structure DefOk (P : Program) (w : World) (K : PySem.W.Frag) (mg : Str → Option Value) (base : Heap) (CX : CXT) (k : Nat) (x : Str) (ps : List Str) (sp : Sp) : Prop where
  ex : ∃ (f : Addr) (fd : FuncData), FnOk P w K mg base CX k f fd ps sp ∧ mg x = some (.ref f) ∧ PySem.W.keepIn K (.ref f) = true ∧ Binds K fd ps [] ∧
    ∃ (oc : Value) (od : Option Addr) (osl : Array (Option Value)), K.lookup f = some ⟨oc, od, .func fd, osl⟩
/-- the names that the module leaves to the builtins -/
structure Blt (mg : Str → Option Value) : Prop where
  len : mg "len" = none
  abs : mg "abs" = none
  range : mg "range" = none
  max : mg "max" = none
  min : mg "min" = none
  any : mg "any" = none
  all : mg "all" = none
  sum : mg "sum" = none
  isinstance : mg "isinstance" = none
  int : mg "int" = none
  bool : mg "bool" = none
  tuple : mg "tuple" = none
  list : mg "list" = none
  str : mg "str" = none
  ValueError : mg "ValueError" = none
  zip : mg "zip" = none
  reversed : mg "reversed" = none
  enumerate : mg "enumerate" = none
  sorted : mg "sorted" = none
  dict : mg "dict" = none
section
variable {P : Program} {w : World} {K : PySem.W.Frag} {mg : Str → Option Value} {base : Heap}
theorem FunAt.mk' {x : Str} {st : Stmt} {ps : List Str} {f : Addr} {oc : Value} {od an : Option Addr} {osl : Array (Option Value)} {kV doc pm cdv ct : Value} (hm : mg x = some (.ref f))
    (l : K.lookup f = some ⟨oc, od, .func (PySem.W.fnOf x x (defArgs st) (defBody st) (defScope st) .none kV doc pm an cdv ct), osl⟩)
    (c : PySem.W.codeIn K cdv x = true) (k : PySem.W.keepIn K (.ref f) = true)
    (h : ∀ (kV doc pm : Value) (an : Option Addr) (cdv ct : Value) (us : List Value), us.length = ps.length → bindArgs (PySem.W.fnOf x x (defArgs st) (defBody st) (defScope st) .none kV doc pm an cdv ct) ⟨us, []⟩ = pure (ps.zip us)) : FunAt K mg x st ps := by
  have F := fun_mk (st := st) l c k
  exact ⟨_, _, F, hm, F.binds h⟩
theorem def_ok {x : Str} {st : Stmt} {N ps : List Str} {k : Nat} {sp : Sp} (F : FunAt K mg x st ps) (S : FnScope N ps (defScope st)) (len : ∀ vs H Q E, sp vs H Q E → vs.length = ps.length)
    (hbody : ∀ (f : Addr) (cdv : Value) (A : Around) (outer : List Env) (s : Shared) (H : Hp) (vs : List V) (Q : VK) (E : XK), Room k (A.deeper (envOfC x (defScope st) s.heap.objs.size f cdv)) → sp vs H Q E →
      ∃ t, PSs (cxOf CX0 P w K mg base N x (defScope st) f cdv A outer s H E).nox (defBody st) t ∧ t { nx := fun _ H' => Q .non H', rt := Q } (start N vs) H) : DefOk P w K mg base CX0 (k + 1) x ps sp := by
  obtain ⟨f, fd, F, hm, hb⟩ := F.ex
  exact ⟨f, fd, F.ok S len fun cdv A outer s H vs Q E hr h => hbody f cdv A outer s H vs Q E hr h, hm, F.kp, hb, let ⟨oc, od, _, _, _, _, _, _, osl, _, l, _⟩ := F.ex; ⟨oc, od, osl, l⟩⟩
end
section
variable {X : Cx} {CX : CXT} {k j : Nat} {ps : List Str} {sp : Sp} {E : XK} {x : Str} {p pos : Pos} {e : Expr} {es : List Expr} {t : TA}
noncomputable def tFn (sp : Sp) (E : XK) (t : TA) : TE := fun σ H Q => t σ H fun vs H1 => sp vs H1 Q E
theorem pe_fn (D : DefOk X.prog X.w X.K X.mg X.base CX k x ps sp) (hr : Room j X.A) (hx : Passes CX X E) (ha : PA X (e :: es) t) (hk : k ≤ j := by decide) (hg : Gl X x := by rfl)
    (hdb : (x == ("__debug__" : Str)) = false := by decide) (he : starEach (e :: es) X.env = (false, eval e X.env) :: starEach es X.env := by rfl) (hpl : (backTo pos (starEach es X.env)).any (·.1) = false := by rfl) :
    PE X (.Call (.Name x p) (e :: es) [] pos) (tFn sp E t) := by
  obtain ⟨f, fd, F, hm, kp, hb, _⟩ := D.ex
  intro pins s σ H Q I h
  have q := pe_call (X := X) (p := p) (pos := pos) F (hr.mono hk) hg hm kp hb .nil hx ha hdb he hpl
  refine q pins s σ H Q I ?_
  unfold tCall
  have e : (fun (vs : List V) (H1 : Hp) => sp (vs ++ []) H1 Q E) = fun vs H1 => sp vs H1 Q E := by
    funext vs H1
    rw [List.append_nil]
  rw [e]
  exact h
end
end Cv

namespace Cv
open PySem PySem.Spec PyProof.Rows L2
section
variable {X : Cx}
noncomputable def CMulA (i j : Int) : Prop := CMul i j ∨ CMulB i j
theorem op_mulA : OpR X (binaryOp .Mult) (rI CMulA fun i j => .int (i * j)) := opI fun i j _ _ _ _ _ hc q => by
  rcases hc with hc | ⟨n, m, h1, h2, h3⟩
  · exact mul_int q hc.ok
  · exact mul_int q (IntMulOk.of_le (PySem.intBits_le_iff.mpr h1.lt) (PySem.intBits_le_iff.mpr h2.lt) (by omega))
end
theorem mulL {i j : Int} (h1 : -(2 ^ 64) < i) (h2 : i < 2 ^ 64) : CMulA i j := .inl (.inl ⟨h1, h2⟩)
theorem mulR {i j : Int} (h1 : -(2 ^ 64) < j) (h2 : j < 2 ^ 64) : CMulA i j := .inl (.inr ⟨h1, h2⟩)
theorem mulB {n m : Nat} {i j : Int} (h1 : Sz n i) (h2 : Sz m j) (h : n + m ≤ 100000000 := by decide) : CMulA i j := .inr ⟨n, m, h1, h2, h⟩
/-! ### the promises -/
noncomputable def spGcd : Sp := fun vs H Q _ => ∃ a b : Int, vs = [.int a, .int b] ∧ Q (.int (Int.gcd a b)) H
/-! the law's own helpers -/
noncomputable def spCell (K : PySem.W.Frag) : Sp := fun vs H Q _ => ∃ (a : Addr) (ns : List Int) (k : Int), vs = [.ref a, .int k] ∧ SqL K H a (ns.map V.int) ∧ 0 ≤ k ∧ ∀ z, Q (.int z) H
noncomputable def spStream : Sp := fun vs H Q _ => ∃ c p : Int, vs = [.int c, .int p] ∧ ∀ (l : Addr) (xs : List Int) (H' : Hp), Same H H' → H' l = some (.lst (xs.map V.int)) → xs.length = 24 → (∀ x ∈ xs, 0 ≤ x) → Q (.ref l) H'
noncomputable def spWhole : Sp := fun vs H Q _ => ∃ i : Int, vs = [.int i] ∧ Q (.bl true) H
noncomputable def spPart : Sp := fun vs H Q _ => ∃ a b : Int, vs = [.int a, .int b] ∧ 0 ≤ a ∧ 0 ≤ b ∧ Q (.int (Int.gcd a b)) H
noncomputable def spLShare : Sp := fun vs H Q _ => ∃ t b : Int, vs = [.int t, .int b] ∧ 0 < b ∧ Sz 9000 b ∧ ∀ v H', Same H H' → ShV H' v (Rat.divInt t b) → Q v H'
noncomputable def spIsShare : Sp := fun vs H Q _ => ∃ x q, vs = [x] ∧ ShV H x q ∧ Q (.bl true) H
noncomputable def spLaw (K : PySem.W.Frag) : Sp := fun vs H Q _ => ∃ (a : Addr) (ns : List Int), vs = [.ref a] ∧ SqL K H a (ns.map V.int) ∧ ns.length ≤ 63 ∧ ∀ H', Q (.bl true) H'
/-! ### tests -/
theorem ite_dec {c : Prop} [Decidable c] {A B : Prop} (h1 : c → A) (h2 : ¬ c → B) : if decide c = true then A else B := by
  by_cases h : c
  · rw [if_pos (decide_eq_true h)]; exact h1 h
  · rw [if_neg (by simp [h])]; exact h2 h
theorem ifT {b : Bool} {A B : Prop} (h : b = true) (k : A) : if b = true then A else B := by rw [if_pos h]; exact k
theorem ifF {b : Bool} {A B : Prop} (h : b = false) (k : B) : if b = true then A else B := by rw [if_neg (by rw [h]; decide)]; exact k
theorem ifB {b : Bool} {A B : Prop} (h1 : b = true → A) (h2 : b = false → B) : if b = true then A else B := by
  cases b
  · exact ifF rfl (h2 rfl)
  · exact ifT rfl (h1 rfl)
end Cv
namespace Cv
open PySem PySem.Spec PyProof.Rows L2
/-- the law's function is the one that the top left -/
theorem DefOk.law {P : Program} {w : World} {K : PySem.W.Frag} {mg : Str → Option Value} {base : Heap} {CX : CXT} {k : Nat} {x : Str} {ps : List Str} {sp : Sp} {f : Addr} {fd : FuncData} {oc : Value} {od : Option Addr} {osl : Array (Option Value)}
    (D : DefOk P w K mg base CX k x ps sp) (l : K.lookup f = some ⟨oc, od, .func fd, osl⟩) (hm : mg x = some (.ref f)) : FnOk P w K mg base CX k f fd ps sp := by
  obtain ⟨f', fd', FO, hm', _, _, oc', od', osl', l'⟩ := D.ex
  have e := hm.symm.trans hm'
  cases e
  have e2 := l.symm.trans l'
  have e3 : Data.func fd = Data.func fd' := congrArg (fun (o : Obj) => o.data) (Option.some.inj e2)
  cases e3
  exact FO
theorem walk {l : PySem.W.OpenLaw} {k : Nat} {CX : CXT} {sp : PySem.W.Frag → Sp} {q : Program} {loose : List Str} {XP : (Str → Option Value) → Heap → Prop} {YP : World → Heap → Prop} {d : DefRec} {K : Params → PySem.W.Frag} {x : Str} (hn : l.most = some 63) (hdf : d.params.defaults = []) (hr : Room k callerA)
    (hY : ∀ (w : World) (h : Heap), YP w h → (K w.params).In h)
    (F : ∀ (w : World) (mg : Str → Option Value) (fa : Addr) (h : Heap), (K w.params).In h → h.Ns mainGlobals mg → mg d.name = some (.ref fa) →
      ∃ fd : FuncData, (∀ (s : Shared) (u : Value), BindsTo s fd ⟨[u], []⟩ [(x, u)]) ∧ ∀ (P : Program) (base : Heap), (K w.params).In base → base.Ns mainGlobals mg → FnOk P w (K w.params) mg base CX k fa fd [x] (sp (K w.params)))
    (hsp : ∀ (K : PySem.W.Frag) (H : Hp) (a : Addr) (ns : List Int), ns.length ≤ 63 → Only H → SqL K H a (ns.map V.int) → sp K [.ref a] H (fun v _ => v = .bl true) fun _ _ _ => False)
    (hCX : ∀ (H : Hp) (s : Shared) (e : Value) (s' : Shared), CX [] H s (fun _ _ _ => False) e s' → False) :
    PySem.W.WalkO q loose XP YP l.row.toRowW d [] (fun f vs => PySem.call f vs) :=
  L2.walk_of (n := 63) (k := k) (x := x) (CX := fun _ => CX) (sp := fun w => sp (K w.params)) hn (by decide) hdf hr hY
    (fun w mg fa h a b c => let ⟨fd, h1, h2⟩ := F w mg fa h a b c; ⟨fd, h1, fun base => h2 l.prog base⟩) (fun w H a ns => hsp (K w.params) H a ns) fun _ H s e s' => hCX H s e s'
end Cv

namespace Cv
open PySem PySem.Spec PyProof.Rows L2
/-! small facts for the readings -/
theorem pl {j : Int} (h : 0 < j := by decide) : 0 < j := h
theorem at_map (xs : List Int) (k : Nat) (h : k < xs.length) : atI (xs.map V.int) (k : Int) = some (V.int (xs.getD k 0)) := by
  refine atI_nat ?_
  rw [List.getElem?_map, List.getElem?_eq_getElem h]
  simp [List.getD_eq_getElem?_getD, List.getElem?_eq_getElem h]
theorem at_mapZ (xs : List Int) (k : Int) (h0 : 0 ≤ k) (h : k < (xs.length : Int)) : atI (xs.map V.int) k = some (V.int (xs.getD k.toNat 0)) := by
  have e : k = ((k.toNat : Nat) : Int) := by omega
  have q := at_map xs k.toNat (by omega)
  rw [← e] at q
  exact q
theorem getD_nn {xs : List Int} (h : ∀ x ∈ xs, 0 ≤ x) (k : Nat) : 0 ≤ xs.getD k 0 := by
  rw [List.getD_eq_getElem?_getD]
  cases e : xs[k]? with
  | none => simp
  | some v => exact h v (List.mem_of_getElem? e)
theorem cut_one (xs : List Int) (h : 1 ≤ xs.length) : cutV (xs.map V.int) (some 1) none = (xs.drop 1).map V.int := by
  unfold cutV
  have e : HT.sIx (xs.map V.int).length 0 (some 1) = 1 := by
    have := HT.sIx_nat (xs.map V.int).length 0 1
    rw [List.length_map] at this
    rw [List.length_map]
    exact this.trans (by omega)
  rw [e, HT.sIx_none, ← List.map_drop]
  refine List.take_of_length_le ?_
  rw [List.length_map, List.length_drop, List.length_map]
  omega
theorem atI_lt {α : Type} (xs : List α) (i : Int) (h0 : 0 ≤ i) (h1 : i < (xs.length : Int)) : ∃ v, atI xs i = some v ∧ v ∈ xs := by
  have e : i = ((i.toNat : Nat) : Int) := by omega
  have hl : i.toNat < xs.length := by omega
  refine ⟨xs[i.toNat], ?_, List.getElem_mem hl⟩
  have q := atI_nat (xs := xs) (j := i.toNat) (v := xs[i.toNat]) (List.getElem?_eq_getElem hl)
  rw [← e] at q
  exact q
theorem p30 : (10 : Int) ^ (30 : Int).toNat = 1000000000000000000000000000000 := by decide
theorem pos30 : (0 : Int) < (10 : Int) ^ (30 : Int).toNat := by rw [p30]; decide
theorem sz_of {n : Nat} {x : Int} {b : Nat} (h1 : x.natAbs ≤ b) (h2 : b < 2 ^ n) : Sz n x := ⟨Nat.lt_of_le_of_lt h1 h2⟩
/-- a drawn top -/
theorem gcd_abs (t b : Int) : Int.gcd (if t < 0 then -t else t) b = Int.gcd t b := by
  split
  · rw [Int.neg_gcd]
  · rfl
theorem emod_gcd (a b : Int) (hb : 0 < b) : Int.gcd b (a % b) = Int.gcd a b := by
  have := gcd_step a b
  rw [Int.fmod_eq_emod_of_nonneg a (by omega)] at this
  exact this
theorem Sz.million {b : Int} (h0 : 1 ≤ b) (h1 : b ≤ 1000000) : Sz 20 b := sz_of (b := 1000000) (by omega) (by decide)
theorem den_pos' (q : Rat) : (1 : Int) ≤ (q.den : Int) := by have := q.den_pos; omega
theorem dec_int_ne {a b : Int} (h : a ≠ b) : (!decide (V.int a = V.int b)) = true := by simp [h]
theorem kit_ii (K : PySem.W.Frag) : PySem.W.kitOne K (.type "int") (.type "int") = some true := rfl
theorem kit_ib (K : PySem.W.Frag) : PySem.W.kitOne K (.type "int") (.type "bool") = some false := rfl
theorem kit_tt (K : PySem.W.Frag) : PySem.W.kitOne K (.type "tuple") (.type "tuple") = some true := rfl
theorem kit_bb (K : PySem.W.Frag) : PySem.W.kitOne K (.type "bool") (.type "bool") = some true := rfl
theorem kit_ll (K : PySem.W.Frag) : PySem.W.kitOne K (.type "list") (.type "list") = some true := rfl
end Cv

namespace Cv
open PySem PySem.Spec PyProof.Rows L2
/-! ### an exception on its way, with none ahead of it -/
structure TrX (h B : Heap) (e : Addr) (cls fl : Value) : Prop where
  ex : ∃ (oe : Obj) (vs : Array Value) (T : Addr) (oT : Obj) (ts : Array Value), (h.get? e = some oe ∧ oe.cls = cls ∧ oe.data = .fields vs ∧ oe.dict = none) ∧ (vs[2]? = some .none ∧ vs[1]? = some (.ref T)) ∧ (B.get? T = none ∧ T ≠ e) ∧ h.get? T = some oT ∧ oT.data = .fields ts ∧ ts[3]? = some fl
structure FlyX (B : Heap) (l : List Env) (e : Addr) (cls fl : Value) (h : Heap) : Prop where
  stays : B.StaysIn h
  new : B.get? e = none
  frames : h.FunFrames B l
  tr : TrX h B e cls fl
theorem FlyX.there {B h : Heap} {l : List Env} {e : Addr} {cls fl : Value} (x : FlyX B l e cls fl h) : ∃ o vs, h.get? e = some o ∧ o.cls = cls ∧ o.data = .fields vs ∧ vs[2]? = some .none ∧ o.dict = none := by
  obtain ⟨o, vs, _, _, _, ⟨a, b, c, f⟩, ⟨d, _⟩, _⟩ := x.tr.ex
  exact ⟨o, vs, a, b, c, d, f⟩
section
variable {M : Model} {A : Around} {E : Value → Shared → Prop} {s : Shared} {B : Heap} {env : Env} {outer : List Env} {L e : Addr}
end
end Cv

namespace Cv
open PySem PySem.Spec PyProof.Rows L2
/-! ### an exception that flies -/
section
variable {X : Cx} {pins : List (Addr × Obj)} {σ : L2.St} {H H' : Hp} {s : Shared}
end
section
variable {P : Program} {w : World} {K : PySem.W.Frag} {mg : Str → Option Value} {base : Heap} {N : List Str} {qual : Str} {scope : Scope} {f : Addr} {cd : Value} {A : Around} {outer : List Env} {s : Shared} {H : Hp} {E : XK}
end

/-! ### a def whose exceptions fly on -/
section
variable {P : Program} {w : World} {K : PySem.W.Frag} {mg : Str → Option Value} {base : Heap}
end
/-! ### the classes of refusals -/
section
variable {X : Cx} {x : Str} {C : Addr} {np cpos pos : Pos} {E : XK} {e₀ : Expr} {ta : TA}
end

/-! ### try, except C as n -/
section
variable {X : Cx} {pins pins' : List (Addr × Obj)} {σ : L2.St} {H H' : Hp} {s : Shared}
end
section
variable {X : Cx}
end
end Cv

namespace Cv
open PySem PySem.Spec PyProof.Rows L2
/-! ### isinstance of a caught exception -/
section
variable {X : Cx}
end
end Cv
namespace Cv
open PySem PySem.Spec PyProof.Rows L2
/-! ### promises with refusals -/
theorem Bd.zero : Bd 4000 (0 : Rat) := ⟨Sz.zero.mono (by decide), Sz.one.mono (by decide)⟩
theorem Bd.one : Bd 4000 (1 : Rat) := ⟨Sz.one.mono (by decide), Sz.one.mono (by decide)⟩
end Cv

namespace Cv
open PySem PySem.Spec PyProof.Rows L2
/-! ### a list comprehension: one clause, no test -/
noncomputable abbrev cxComp (X : Cx) (scope : Scope) (cl : List (Str × Addr)) (Nc : List Str) (C : Addr) (s0 : Shared) (H0 : Hp) (fp : List Addr) : Cx where
  prog := X.prog
  w := X.w
  K := X.K
  mg := X.mg
  base := X.base
  A := X.A
  N := Nc
  s₀ := s0
  H₀ := H0
  env := compEnvC scope cl C X.env
  outer := X.stack
  stack := X.stack
  ex := fp
  fn := fun _ => false
  calm := X.calm
  pn := []
  xe := fun _ _ => False
noncomputable def capd (σ : L2.St) (ix : List Nat) : L2.St := ix.map fun j => (σ[j]?).getD none
section
variable {X : Cx}
end
end Cv

namespace Cv
open PySem PySem.Spec PyProof.Rows L2
/-! ### closures of a comprehension's block -/
theorem closure_go {env : Env} : ∀ (names : List (Str × NameKind)) (acc : List (Str × Addr)), (∀ y ∈ names, y.2 = .free → ∃ c, env.cells.lookup y.1 = some c) →
    ∃ cl, (forIn names acc fun (x : Str × NameKind) (r : List (Str × Addr)) => if (x.2 == NameKind.free) = true then (do let c ← cellOf env x.1; pure (ForInStep.yield ((x.1, c) :: r))) else pure (ForInStep.yield r) : Sem (List (Str × Addr))) = pure cl ∧
      ((∀ y c, acc.lookup y = some c → env.cells.lookup y = some c) → ∀ y c, cl.lookup y = some c → env.cells.lookup y = some c) ∧
      (∀ y, (∃ c, acc.lookup y = some c) → ∃ c, cl.lookup y = some c) ∧ ∀ y ∈ names, y.2 = .free → ∃ c, cl.lookup y.1 = some c
  | [], acc, _ => ⟨acc, by simp, fun h => h, fun _ h => h, fun _ h => nomatch h⟩
  | (n, k) :: r, acc, h => by
    rw [List.forIn_cons]
    by_cases hk : k = .free
    · subst hk
      obtain ⟨c, hc⟩ := h (n, .free) (.head _) rfl
      obtain ⟨cl, e, h1, h2, h3⟩ := closure_go (env := env) r ((n, c) :: acc) fun y hy => h y (.tail _ hy)
      refine ⟨cl, ?_, fun ha => h1 fun y d hd => ?_, fun y hy => h2 y ?_, fun y hy hf => ?_⟩
      · have ec : cellOf env n = pure c := by
          unfold cellOf
          have hc' : env.cells.lookup n = some c := hc
          rw [hc']
        simp only [ec]
        exact e
      · rw [List.lookup_cons] at hd
        by_cases hy : y == n
        · rw [hy] at hd
          cases hd
          rw [eq_of_beq hy]; exact hc
        · rw [Bool.not_eq_true] at hy
          rw [hy] at hd
          exact ha y d hd
      · rw [List.lookup_cons]
        by_cases hyn : y == n
        · rw [hyn]; exact ⟨_, rfl⟩
        · rw [Bool.not_eq_true] at hyn
          rw [hyn]; exact hy
      · rcases List.mem_cons.mp hy with rfl | hy
        · exact h2 n ⟨c, by rw [List.lookup_cons]; simp⟩
        · exact h3 y hy hf
    · obtain ⟨cl, e, h1, h2, h3⟩ := closure_go (env := env) r acc fun y hy => h y (.tail _ hy)
      refine ⟨cl, ?_, h1, h2, fun y hy hf => ?_⟩
      · have hk' : (k == NameKind.free) = false := by
          cases k <;> first | rfl | exact absurd rfl hk
        simp only [hk']
        exact e
      · rcases List.mem_cons.mp hy with rfl | hy
        · exact absurd hf hk
        · exact h3 y hy hf
theorem closure_of {scope : Scope} {env : Env} (h : ∀ y ∈ scope.names, y.2 = .free → ∃ c, env.cells.lookup y.1 = some c) :
    ∃ cl, closureFor scope env = pure cl ∧ (∀ y c, cl.lookup y = some c → env.cells.lookup y = some c) ∧ ∀ y ∈ scope.names, y.2 = .free → ∃ c, cl.lookup y.1 = some c := by
  obtain ⟨cl, e, h1, _, h3⟩ := closure_go (env := env) scope.names [] h
  refine ⟨cl, ?_, h1 (fun _ _ z => nomatch z), h3⟩
  unfold closureFor
  have := congrArg (fun (m : Sem (List (Str × Addr))) => m >>= fun r => pure r) e
  first
    | exact e
    | simpa using e
    | (simp only [bind_pure] at this ⊢; exact this)
/-- the names of the block, by their kinds in the def around it -/
theorem relabel_lookup {env : Env} : ∀ {names : List (Str × NameKind)} {y : Str} {k : NameKind}, (∀ z ∈ names, z.2 ≠ .cell) →
    (names.map fun (n, k) => if (k == NameKind.free && env.scope.kind == .function && env.kindOf n == some .cell) then (n, NameKind.cell) else (n, k)).lookup y = some k → (k = .cell ∨ k = .free) → (y, NameKind.free) ∈ names
  | [], _, _, _, h, _ => by simp at h
  | (n, q) :: r, y, k, hc, h, hk => by
    rw [List.map_cons] at h
    by_cases hy : y == n
    · have e : y = n := eq_of_beq hy
      subst e
      by_cases ht : (q == NameKind.free && env.scope.kind == .function && env.kindOf y == some .cell) = true
      · have : q = .free := by
          simp only [Bool.and_eq_true] at ht
          exact eq_of_beq ht.1.1
        rw [this]; exact .head _
      · simp only [ht] at h
        rw [List.lookup_cons] at h
        simp at h
        subst h
        rcases hk with rfl | rfl
        · exact absurd rfl (hc _ (.head _))
        · exact .head _
    · rw [Bool.not_eq_true] at hy
      refine .tail _ (relabel_lookup (env := env) (fun z hz => hc z (.tail _ hz)) ?_ hk)
      by_cases ht : (q == NameKind.free && env.scope.kind == .function && env.kindOf n == some .cell) = true
      · simp only [ht] at h
        rw [List.lookup_cons] at h
        have h' := h
        (simp [hy] at h'; simpa using h')
      · simp only [ht] at h
        rw [List.lookup_cons] at h
        have h' := h
        (simp [hy] at h'; simpa using h')
section
variable {prog : Program} {w : World} {A : Around} {R : Result → Shared → Prop} {s : Shared}
theorem compLoop_listG {elt target iter : Expr} {scope : Scope} {pos : Pos} {it acc : Value} {env : Env} (I : Nat → Shared → Prop)
    (turn : ∀ n s, I n s → wpAny (model prog w) A (pyNext it) (fun r s₁ => match r with
      | none => R (.ok .next) s₁
      | some v => wpAny (model prog w) A (letOwnedTupleGo target it v) (fun _ s₁' => wpAny (model prog w) A (assign target env v) (fun _ s₂ => wpAny (model prog w) A (eval elt env) (fun x s₃ =>
          wpAny (model prog w) A (call (.builtin "list.append") [acc, x]) (fun _ s₄ => ∃ m, m < n ∧ I m s₄) (notedBy (model prog w) A env fun e s' => R (.error e) s') s₃)
          (notedBy (model prog w) A env fun e s' => R (.error e) s') s₂) (notedBy (model prog w) A env fun e s' => R (.error e) s') s₁') (notedBy (model prog w) A env fun e s' => R (.error e) s') s₁) (notedBy (model prog w) A env fun e s' => R (.error e) s') s)
    (n : Nat) (h : I n s) :
    codeAny (model prog w) A (.compLoop (.ListComp elt [⟨target, iter, [], 0⟩] scope pos) 0 it acc env) R s := by
  refine codeAny_loop rfl I (fun n s hI => ?_) n h
  show wpAny _ _ ((compTurn (.ListComp elt [⟨target, iter, [], 0⟩] scope pos) 0 it acc env).onRaise (fun x => do noteFrame x env; theTreesLotGoes x)) _ _ s
  refine wpAny_noted ?_
  rw [compTurn_list1]
  refine wpAny_bind (wpAny_standAt (wpAny_bind (wpAny_mono (turn n s hI) (fun r s₁ h₁ => ?_) fun _ _ h' => h')))
  cases r with
  | none => exact wpAny_pure h₁
  | some v =>
    refine wpAny_bind (wpAny_mono h₁ (fun _ s₁' h₁' => ?_) fun _ _ h' => h')
    exact wpAny_bind (wpAny_mono h₁' (fun _ s₂ h₂ => wpAny_bind (wpAny_bind (wpAny_mono h₂ (fun x s₃ h₃ => wpAny_bind (wpAny_mono h₃
      (fun _ s₄ h₄ => wpAny_pure (wpAny_pure ⟨rfl, h₄⟩)) fun _ _ h' => h')) fun _ _ h' => h'))) fun _ _ h' => h')
end
noncomputable def CompGoal (k : Nat) (J : It) (H1 : Hp) (g : TG) (te : TE) (cs : L2.St) (Q : VK) : Prop := ∀ D, H1 D = none → ∃ W : Nat → Nat → List V → Hp → Prop, (∃ m, W 0 m [] (upd H1 D (.lst []))) ∧
  ∀ i m ys H2, W i m ys H2 → (J.stop i H2 ∧ Q (.ref D) H2) ∨ (J.go i H2 ∧ ∀ x H', J.yld i H2 x H' → ∀ own : L2.St, own.length = k → g x (own ++ cs) H' fun σ2 H4 => (∃ own' : L2.St, own'.length = k ∧ σ2 = own' ++ cs) ∧
    te σ2 H4 fun v H3 => H3 D = some (.lst ys) ∧ ys.length < sizeLine ∧ ∃ m', m' < m ∧ W (i + 1) m' (ys ++ [v]) (upd H3 D (.lst (ys ++ [v]))))
noncomputable def tCompG (k : Nat) (wi : TI) (g : TG) (te : TE) (ix : List Nat) : TE := fun σ H Q => wi σ H fun J H1 => CompGoal k J H1 g te (capd σ ix) Q
section
variable {X : Cx}
theorem comp_core {tg elt iter : Expr} {os : List Str} {pos ipos : Pos} {scope : Scope} {wi : TI} {g : TG} {te : TE} {caps : List (Nat × Str)} {pins : List (Addr × Obj)} {s : Shared} {σ : L2.St} {H : Hp} {Q : VK} {use : Option (Value → Sem Unit)} {R : Value → Shared → Prop} (hi : PI X tg iter wi)
    (hg : ∀ cl C s0 H0 fp, PG (cxComp X scope cl (os ++ caps.map (·.2)) C s0 H0 fp) tg g)
    (he : ∀ cl C s0 H0 fp, PE (cxComp X scope cl (os ++ caps.map (·.2)) C s0 H0 fp) elt te)
    (hfree : ∀ y ∈ scope.names, y.2 = .free → X.env.kindOf y.1 = some .cell)
    (hcap : ∀ p ∈ caps, X.N[p.1]? = some p.2 ∧ X.env.kindOf p.2 = some .cell ∧ ((relabel scope X.env).names.lookup p.2 = some .cell ∨ (relabel scope X.env).names.lookup p.2 = some .free))
    (hkind : scope.kind = .function) (hcell : ∀ y ∈ scope.names, y.2 ≠ .cell)
    (hnames : ∀ y ∈ scope.names, y.2 = .local → scope.names.lookup y.1 = some .local) (hc : X.calm = true) (hfs : ∀ v, foldedSetIterable iter X.env v = pure v)
    (hfin : ∀ D C H5 s6 m6, Inv X pins σ H5 s6 → s6.heap.Ns C m6 → FpOk X pins H5 C → Q (.ref D) H5 → compPost (model X.prog X.w) X.A X.xe use R (.ref D) C (.ok .next) s6)
    (I : Inv X pins σ H s) (h : tCompG os.length wi g te (caps.map (·.1)) σ H Q) :
    wpAny (model X.prog X.w) X.A (comprehension (.ListComp elt [⟨tg, iter, [], 0⟩] scope pos) scope X.env ipos (newList []) false (eval iter X.env) use) R X.xe s := by
  obtain ⟨cl, hclos, hcl, hin⟩ := closure_of (scope := scope) (env := X.env) fun y hy hf => I.ok.has y.1 (.inl (hfree y hy hf))
  have hhas : ∀ y, ((relabel scope X.env).names.lookup y = some .cell ∨ (relabel scope X.env).names.lookup y = some .free) → ∃ c, cl.lookup y = some c := fun y hy => by
    rcases hy with hy | hy
    · exact hin (y, .free) (relabel_lookup (env := X.env) hcell hy (.inl rfl)) rfl
    · exact hin (y, .free) (relabel_lookup (env := X.env) hcell hy (.inr rfl)) rfl
  refine wpAny_comprehension_free (use := use) rfl hfs hclos hkind hnames ?_
  refine thn (hi pins s σ H _ I h) fun v s1 h1 => thn h1 fun itv s2 h2 => ?_
  obtain ⟨it, fp, tn, J, H1, rfl, I2, T, st2, f2, rd⟩ := h2
  refine wpAny_newObj_type ?_ (by show 0 ≤ sizeLine; decide)
  have hD : H1 s2.heap.objs.size = none := I2.hok.fresh (Nat.le_refl _)
  obtain ⟨W, ⟨m0, w0⟩, turn⟩ := rd s2.heap.objs.size hD
  generalize eD : s2.heap.objs.size = D at hD w0 turn
  have I3 : Inv X pins σ (upd H1 D (.lst [])) { s2 with heap := s2.heap.push { cls := .type "list", data := .seq ([] : List Value).toArray } } := by
    subst eD
    exact I2.laid (t' := s2.toks) (fun b u e => Heap.get?_push_of_some _ e) (Nat.le_refl _) ⟨Nat.zero_le _, [], 0, .nil, Heap.get?_push_size _ rfl⟩
  generalize e3 : ({ s2 with heap := s2.heap.push { cls := .type "list", data := .seq ([] : List Value).toArray } } : Shared) = s3 at I3
  have hs3 : s3.heap.objs.size = D + 1 := by rw [← e3, ← eD]; simp
  have k23 : ∀ b o, s2.heap.get? b = some o → s3.heap.get? b = some o := fun b o e => by rw [← e3]; exact Heap.get?_push_of_some _ e
  refine wpAny_newFunctionEnv hcell (by intro y hy; simp at hy) (fun h4 hn4 hs4 => ?_) hkind
  have k34 : ∀ b o, s3.heap.get? b = some o → h4.get? b = some o := fun b o e => (hs4.2 b (Nat.ne_of_lt (Heap.lt_size e))).trans (Heap.get?_push_of_some _ e)
  generalize eC : s3.heap.objs.size = C at hn4 hs4
  have hfpC : ∀ b ∈ fp, b ≠ C := fun b hb z => by
    obtain ⟨o, e, _⟩ := T.obj 0 _ st2 b hb
    have h1 := Heap.lt_size e
    rw [z, ← eC, hs3, eD] at h1
    exact absurd h1 (Nat.not_lt.mpr (Nat.le_succ D))
  have hfps : ∀ b ∈ fp, b ∉ frs X.stack := fun b hb z => by
    rcases List.mem_cons.mp (I2.stkSub b z) with q | q
    · exact (f2 b hb).2.1 q
    · exact (f2 b hb).2.2.1 q
  have hfpD : ∀ b ∈ fp, b ≠ D := fun b hb z => by
    obtain ⟨o, e, _⟩ := T.obj 0 _ st2 b hb
    have h1 := Heap.lt_size e
    rw [z, eD] at h1
    exact Nat.lt_irrefl _ h1
  have okc : (cxComp X scope cl (os ++ caps.map (·.2)) C s3 (upd H1 D (.lst [])) fp).Ok := by
    refine ⟨I3.ok.mod, hkind, I3.ok.glob, I3.ok.blt, Nat.le_of_eq eC, fun y z c h1 h2 => I3.ok.inj y z c (hcl y c h1) (hcl z c h2), fun y hy => hhas y hy, fun y c hf => absurd hf Bool.false_ne_true, I3.ok.hd, I3.ok.frames, .inl rfl,
      fun b hb => ⟨hfpC b hb, fun y c e => (f2 b hb).2.2.2.2.1 y c (hcl y c e)⟩, I3.bs, Nat.le_trans I3.ok.bsz I3.sz, fun b o e hb => ?_, fun b hb => hfps b hb, I3.stack, I3.stkFree⟩
    rcases (f2 b hb).2.2.2.1 with z | z
    · exact I3.ok.noex b o e z
    · exact Nat.lt_irrefl _ (Nat.lt_of_lt_of_le (Heap.lt_size (I3.ok.bs b o e).1) z)
  have capS : (capd σ (caps.map (·.1))).length = caps.length := by unfold capd; rw [List.length_map, List.length_map]
  have Ic : Inv (cxComp X scope cl (os ++ caps.map (·.2)) C s3 (upd H1 D (.lst [])) fp) [] (List.replicate os.length none ++ capd σ (caps.map (·.1))) (upd H1 D (.lst [])) { s3 with heap := h4, toks := s3.toks + ([] : List (Str × Value)).length } := by
    refine ⟨okc, rfl, I3.bare, Un.kept k34, ⟨_, hn4, fun i y v e1 e2 e3' => ?_⟩, fun y c e => ?_, I3.hok.fresh (Nat.le_of_eq eC), fun y c e => I3.freeC y c (hcl y c e), fun p hp => absurd hp (by simp), I3.hok.kept k34, ?_⟩
    · by_cases hik : i < os.length
      · rw [List.getElem?_append_left (by rw [List.length_replicate]; exact hik), List.getElem?_replicate] at e2
        split at e2 <;> cases e2
      · have e1' : (caps.map (·.2))[i - os.length]? = some y := by
          have z : (os ++ caps.map (·.2))[i]? = some y := e1
          rw [List.getElem?_append_right (by omega)] at z
          exact z
        have e2' : (capd σ (caps.map (·.1)))[i - os.length]? = some (some v) := by
          rw [List.getElem?_append_right (by rw [List.length_replicate]; omega), List.length_replicate] at e2
          exact e2
        generalize i - os.length = i at e1' e2'
        rw [List.getElem?_map] at e1'
        unfold capd at e2'
        rw [List.getElem?_map, List.getElem?_map] at e2'
        cases q : caps[i]? with
        | none => rw [q] at e1'; cases e1'
        | some p =>
          rw [q] at e1' e2'
          have ey : p.2 = y := Option.some.inj e1'
          have ev : (σ[p.1]?).getD none = some v := Option.some.inj e2'
          have es : σ[p.1]? = some (some v) := by
            cases z : σ[p.1]? with
            | none => rw [z] at ev; cases ev
            | some w' => rw [z] at ev; exact congrArg some ev
          obtain ⟨hN, hk, hv⟩ := hcap p (List.mem_of_getElem? q)
          obtain ⟨m, _, hl⟩ := I3.loc
          obtain ⟨u, r, lk⟩ := hl p.1 p.2 v hN es (.inr (.inl hk))
          rw [ey] at hk hv lk
          refine ⟨u, r, .inr ⟨hv, ?_⟩⟩
          obtain ⟨c, hc'⟩ := hhas y hv
          rcases lk with ⟨z, _⟩ | ⟨_, c2, z, ic⟩
          · rw [hk] at z; cases z
          · have ec := (hcl y c hc').symm.trans z
            cases ec
            obtain ⟨o, ho, hd⟩ := ic
            exact ⟨c, hc', o, k34 _ _ ho, hd⟩
    · obtain ⟨v, o, ho, hd⟩ := I3.cell y c (hcl y c e)
      exact ⟨v, o, k34 _ _ ho, hd⟩
    · show (List.replicate os.length (none : Option V) ++ capd σ (caps.map fun p => p.1)).length = (os ++ caps.map fun p => p.2).length
      rw [List.length_append, List.length_append, List.length_replicate, capS, List.length_map]
  have fpc : ∀ H', (∀ b ∈ fp, H' b = none) → ∀ b ∈ fp, FpOk (cxComp X scope cl (os ++ caps.map (·.2)) C s3 (upd H1 D (.lst [])) fp) [] H' b := fun H' hn b hb =>
    ⟨hn b hb, hfpC b hb, hfps b hb, .inl hb, fun y c e => (f2 b hb).2.2.2.2.1 y c (hcl y c e), fun p hp => absurd hp (by simp)⟩
  have st4 : tn 0 h4 := T.keep _ _ _ (T.keep _ _ _ st2 fun b _ o e => k23 b o e) fun b _ o e => k34 b o e
  have fp0 : ∀ b ∈ fp, (upd H1 D (.lst [])) b = none := fun b hb => by rw [upd_ne (hfpD b hb)]; exact (f2 b hb).1
  have loop : codeAny (model X.prog X.w) X.A (.compLoop (.ListComp elt [⟨tg, iter, [], 0⟩] scope pos) 0 (.ref it) (.ref D) (compEnvC scope cl C X.env)) (compPost (model X.prog X.w) X.A X.xe use R (.ref D) C)
      { s3 with heap := h4, toks := s3.toks + ([] : List (Str × Value)).length } := by
    refine compLoop_listG (fun n s' => ∃ i ys own H', own.length = os.length ∧ Inv (cxComp X scope cl (os ++ caps.map (·.2)) C s3 (upd H1 D (.lst [])) fp) [] (own ++ capd σ (caps.map (·.1))) H' s' ∧ tn i s'.heap ∧ (∀ b ∈ fp, H' b = none) ∧ W i n ys H') ?_ m0 ⟨0, [], List.replicate os.length none, _, List.length_replicate, Ic, st4, fp0, w0⟩
    rintro n s5 ⟨i, ys, own, H5, ho5, I5, st5, fr5, w5⟩
    rcases turn i n ys H5 w5 with ⟨stop, qn⟩ | ⟨go, step⟩
    · refine thn (T.done (cxComp X scope cl (os ++ caps.map (·.2)) C s3 (upd H1 D (.lst [])) fp) rfl rfl rfl hc i [] s5 _ H5 _ I5 (fpc H5 fr5) st5 stop) fun r s6 ⟨hr, I6⟩ => ?_
      subst hr
      obtain ⟨m6, hn6, _⟩ := I6.loc
      have hs' : Heap.SameBut C s6.heap s6.heap := ⟨rfl, fun _ _ => rfl⟩
      generalize eh' : s6.heap = h' at hs'
      have hs' : Heap.SameBut C s6.heap h' := by rw [eh']; exact hs'
      have neC : ∀ b o, s3.heap.get? b = some o → b ≠ C := fun b o e => Nat.ne_of_lt (eC ▸ Heap.lt_size e)
      have ns : ∀ b o, s2.heap.get? b = some o → b ≠ D := fun b o e => Nat.ne_of_lt (eD ▸ Heap.lt_size e)
      have B := I6.base
      have uu : Un (frs X.stack) fp H1 H5 s2.heap h' := by
        refine ⟨fun b o e nn hb hf => ?_, fun b o e nn hb hf => ?_, fun b o e nn hf => ?_, fun b o e hf => ?_, fun b xs e => ?_, fun b o u' e => ?_, fun b ps e => ?_⟩
        · exact (hs'.2 b (neC b o (k23 b o e))).trans (B.keep b o (k23 b o e) (by show (upd H1 D _) b = none; rw [upd_ne (ns b o e)]; exact nn) hb hf)
        · obtain ⟨sl, z⟩ := B.slot b o (k23 b o e) (by show (upd H1 D _) b = none; rw [upd_ne (ns b o e)]; exact nn) hb hf
          exact ⟨sl, (hs'.2 b (neC b o (k23 b o e))).trans z⟩
        · exact B.free b o (k23 b o e) (by show (upd H1 D _) b = none; rw [upd_ne (ns b o e)]; exact nn) hf
        · obtain ⟨o', z⟩ := B.there b o (k23 b o e) hf
          exact ⟨o', (hs'.2 b (neC b o (k23 b o e))).trans z⟩
        · exact B.tups b xs (by show (upd H1 D _) b = _; rw [upd_ne (ne_of_none e hD)]; exact e)
        · exact B.frzs b o u' (by show (upd H1 D _) b = _; rw [upd_ne (ne_of_none e hD)]; exact e)
        · exact B.tbls b ps (by show (upd H1 D _) b = _; rw [upd_ne (ne_of_none e hD)]; exact e)
      have hok' : HOk X.prog X.w H5 h' := fun b o e => by
        refine (I6.hok b o e).stay (fun c' u' hc' z => (hs'.2 c' fun zz => ?_).trans z) (fun _ z => z) fun _ _ z => z
        have fr : H5 C = none := I6.free
        rcases hc' with hc' | hc'
        · rw [← zz, hc', e] at fr; cases fr
        · rw [← zz, hc'] at fr; cases fr
      have ho6 : s6.os = s2.os := I6.os.trans (by show s3.os = s2.os; rw [← e3])
      subst eh'
      have hC2 : s2.heap.objs.size ≤ C := by rw [← eC, hs3, eD]; exact Nat.le_succ D
      exact hfin D C H5 s6 m6 (I2.call' (s' := s6) (ch := fp) ho6 uu hok' I6.bare (fun b hb => ⟨(f2 b hb).2.2.2.1, (f2 b hb).2.1, (f2 b hb).2.2.2.2.1, (f2 b hb).2.2.2.2.2⟩)) hn6 (I2.fpOk hC2 I6.free) qn
    · refine thn (T.item (cxComp X scope cl (os ++ caps.map (·.2)) C s3 (upd H1 D (.lst [])) fp) rfl rfl rfl hc i [] s5 _ H5 _ I5 (fpc H5 fr5) st5 go) fun r s6 ⟨u, hr, h6⟩ => ?_
      subst hr
      refine (thn h6 fun _ s7 ⟨y, H7, I7, r7, y7, st7, fr7⟩ => ?_)
      have I7' := I7.pinned (fpc H7 fr7) (T.obj _ _ st7)
      refine wpAny_mono (hg cl C s3 _ fp _ s7 _ H7 y u _ I7' r7 (step y H7 y7 own ho5)) (fun _ s8 ⟨σ8, H8, I8, ⟨own', ho8, e8⟩, q8⟩ => ?_) fun _ _ z => z.elim
      subst e8
      refine wpAny_mono (he cl C s3 _ fp _ s8 _ H8 _ I8 q8) (fun xv s9 ⟨v9, H9, I9, r9, d9, l9, m9, lt9, w9⟩ => ?_) fun _ _ z => z.elim
      refine wpAny_mono (mt_append (X := (cxComp X scope cl (os ++ caps.map (·.2)) C s3 (upd H1 D (.lst [])) fp)) _ s9 _ H9 (.ref D) [v9] (.ref D) [xv] (fun _ H10 => H10 = upd H9 D (.lst (ys ++ [v9]))) I9 rfl (.cons r9 .nil) ⟨D, ys, v9, rfl, rfl, d9, l9, rfl⟩) (fun _ s10 ⟨_, H10, I10, _, e10⟩ => ?_) fun _ _ z => z.elim
      subst e10
      refine ⟨m9, lt9, i + 1, ys ++ [v9], own', _, ho8, I10.unpinned, T.keep _ _ _ st7 fun b hb o e => (I10.pin (b, o) (List.mem_append_right _ (List.mem_append_right _ (mem_pinsAt hb e)))).1, fun b hb => ?_, w9⟩
      obtain ⟨o, e, _⟩ := T.obj _ _ st7 b hb
      exact (I10.pin (b, o) (List.mem_append_right _ (List.mem_append_right _ (mem_pinsAt hb e)))).2.1
  exact codeAny_compStart_list loop (T.self _ 0 _ _ _ st4 loop)

theorem pe_compG {tg elt iter : Expr} {os : List Str} {pos : Pos} {scope : Scope} {wi : TI} {g : TG} {te : TE} {caps : List (Nat × Str)} (hi : PI X tg iter wi)
    (hg : ∀ cl C s0 H0 fp, PG (cxComp X scope cl (os ++ caps.map (·.2)) C s0 H0 fp) tg g)
    (he : ∀ cl C s0 H0 fp, PE (cxComp X scope cl (os ++ caps.map (·.2)) C s0 H0 fp) elt te)
    (hfree : ∀ y ∈ scope.names, y.2 = .free → X.env.kindOf y.1 = some .cell)
    (hcap : ∀ p ∈ caps, X.N[p.1]? = some p.2 ∧ X.env.kindOf p.2 = some .cell ∧ ((relabel scope X.env).names.lookup p.2 = some .cell ∨ (relabel scope X.env).names.lookup p.2 = some .free))
    (hkind : scope.kind = .function) (hcell : ∀ y ∈ scope.names, y.2 ≠ .cell)
    (hnames : ∀ y ∈ scope.names, y.2 = .local → scope.names.lookup y.1 = some .local) (hc : X.calm = true) (hfs : ∀ v, foldedSetIterable iter X.env v = pure v) :
    PE X (.ListComp elt [⟨tg, iter, [], 0⟩] scope pos) (tCompG os.length wi g te (caps.map (·.1))) := by
  intro pins s σ H Q I h
  rw [eval_ListComp]
  refine comp_core (Q := Q) (use := none) (R := EP X pins σ Q) hi hg he hfree hcap hkind hcell hnames hc hfs (fun D C H5 s6 m6 I6 n6 f6 q6 => ?_) I h
  refine ⟨m6, n6, fun h' hs' => ⟨.ref D, H5, ?_, rfl, q6⟩⟩
  exact I6.turned (t' := s6.toks) (fun b o hb e => (hs'.2 b hb).trans e) f6.1 f6.2.1 f6.2.2.2.1 f6.2.2.2.2.1 f6.2.2.2.2.2
/-- name = a comprehension, the name a plain local: the store comes ahead of the letting go -/
theorem ps_compG {tg elt iter : Expr} {os : List Str} {i : Nat} {y : Str} {py pos spos : Pos} {scope : Scope} {wi : TI} {g : TG} {te : TE} {caps : List (Nat × Str)} (hN : X.N.Nodup) (hy : X.N[i]? = some y) (hl : X.env.kindOf y = some .local) (hi : PI X tg iter wi)
    (hg : ∀ cl C s0 H0 fp, PG (cxComp X scope cl (os ++ caps.map (·.2)) C s0 H0 fp) tg g)
    (he : ∀ cl C s0 H0 fp, PE (cxComp X scope cl (os ++ caps.map (·.2)) C s0 H0 fp) elt te)
    (hfree : ∀ y ∈ scope.names, y.2 = .free → X.env.kindOf y.1 = some .cell)
    (hcap : ∀ p ∈ caps, X.N[p.1]? = some p.2 ∧ X.env.kindOf p.2 = some .cell ∧ ((relabel scope X.env).names.lookup p.2 = some .cell ∨ (relabel scope X.env).names.lookup p.2 = some .free))
    (hkind : scope.kind = .function) (hcell : ∀ y ∈ scope.names, y.2 ≠ .cell)
    (hnames : ∀ y ∈ scope.names, y.2 = .local → scope.names.lookup y.1 = some .local) (hc : X.calm = true) (hfs : ∀ v, foldedSetIterable iter X.env v = pure v)
    (hsw : swapsWith (.ListComp elt [⟨tg, iter, [], 0⟩] scope pos) (some (.Name y py)) spos.line X.env = pure true) :
    PS X (.Assign [.Name y py] (.ListComp elt [⟨tg, iter, [], 0⟩] scope pos) spos) (tAsg (tCompG os.length wi g te (caps.map (·.1))) (gName i)) := by
  intro pins s σ H D I h
  rw [exec_Assign_Name_used _ _ _ _ hsw]
  refine wpAny_bind (wpAny_standAt (wpAny_bind ?_))
  show wpAny _ X.A (do let _ ← comprehension (.ListComp elt [⟨tg, iter, [], 0⟩] scope pos) scope X.env _ (newList []) false (eval iter X.env) (some (assign (.Name y py) X.env))) _ _ s
  refine wpAny_bind (wpAny_mono (comp_core (Q := fun x H1 => gName i x σ H1 D.nx) (use := some (assign (.Name y py) X.env)) (R := fun _ s' => SP X pins D .next s') hi hg he hfree hcap hkind hcell hnames hc hfs (fun D' C H5 s6 m6 I6 n6 f6 q6 => ?_) I h) (fun _ s' hq => wpAny_pure (wpAny_pure hq)) fun _ _ e => e)
  show wpAny _ X.A (assign (.Name y py) X.env (.ref D')) _ _ s6
  obtain ⟨oC, es, ep, hoC, rC⟩ := n6
  have dC : ∀ v, oC.data ≠ .cell v := fun v z => by
    first
      | (rw [rC.2.1] at z; cases z)
      | (obtain ⟨_, hd, _⟩ := rC; rw [hd] at z; cases z)
      | (obtain ⟨hd, _⟩ := rC; rw [hd] at z; cases z)
  have Ip : Inv X (pins ++ [(C, oC)]) σ H5 s6 := I6.pins_of fun p hp => (List.mem_append.mp hp).elim (fun z => I6.pin p (List.mem_append_right _ z)) fun z => by
    have e : p = (C, oC) := by simpa using z
    subst e
    exact ⟨hoC, f6.1, f6.2.1, f6.2.2.1, dC⟩
  refine wpAny_assign_Name (store_ok Ip hN hy (.inl hl) (v := .ref D') rfl (fun s7 I7 => ?_) (.inr hl))
  have h7 := (I7.pin (C, oC) (List.mem_append_right _ (List.mem_append_right _ (by simp)))).1
  refine ⟨m6, ⟨oC, es, ep, h7, rC⟩, fun h' hs' => ⟨_, H5, ?_, q6⟩⟩
  have I8 := I7.unpinned
  exact I8.turned (t' := s7.toks) (fun b o hb e => (hs'.2 b hb).trans e) f6.1 f6.2.1 f6.2.2.2.1 f6.2.2.2.2.1 f6.2.2.2.2.2
end
end Cv

namespace Cv
open PySem PySem.Spec PyProof.Rows L2
/-! ### what a comprehension asks of the scopes, by one reckoning -/
noncomputable def compOk (N : List Str) (sc scope : Scope) (caps : List (Nat × Str)) : Bool :=
  decide (scope.kind = .function) && scope.names.all (fun y => decide (y.2 ≠ .cell) && (!decide (y.2 = .free) || decide (sc.names.lookup y.1 = some .cell)) && (!decide (y.2 = .local) || decide (scope.names.lookup y.1 = some .local))) &&
    caps.all fun p => decide (N[p.1]? = some p.2) && decide (sc.names.lookup p.2 = some .cell) && decide (scope.names.lookup p.2 = some .free)
theorem relabel_free {env : Env} : ∀ {names : List (Str × NameKind)} {y : Str}, names.lookup y = some .free →
    (names.map fun (n, k) => if (k == NameKind.free && env.scope.kind == .function && env.kindOf n == some .cell) then (n, NameKind.cell) else (n, k)).lookup y = some .cell ∨
    (names.map fun (n, k) => if (k == NameKind.free && env.scope.kind == .function && env.kindOf n == some .cell) then (n, NameKind.cell) else (n, k)).lookup y = some .free
  | [], _, h => by simp at h
  | (n, q) :: r, y, h => by
    rw [List.lookup_cons] at h
    rw [List.map_cons]
    by_cases hy : y == n
    · rw [hy] at h
      cases h
      by_cases ht : (NameKind.free == NameKind.free && env.scope.kind == .function && env.kindOf n == some .cell) = true
      · left; simp only [ht]; rw [List.lookup_cons]; simp [eq_of_beq hy]
      · right; simp only [ht]; rw [List.lookup_cons]; simp [eq_of_beq hy]
    · rw [Bool.not_eq_true] at hy
      rw [hy] at h
      have ih := relabel_free (env := env) h
      by_cases ht : (q == NameKind.free && env.scope.kind == .function && env.kindOf n == some .cell) = true
      · simp only [ht]; rw [List.lookup_cons]; simpa [hy] using ih
      · simp only [ht]; rw [List.lookup_cons]; simpa [hy] using ih
section
variable {X : Cx}
theorem pe_compS {tg elt iter : Expr} {os : List Str} {pos : Pos} {scope : Scope} {wi : TI} {g : TG} {te : TE} {caps : List (Nat × Str)} (N : List Str) (sc : Scope) (hi : PI X tg iter wi)
    (hg : ∀ cl C s0 H0 fp, PG (cxComp X scope cl (os ++ caps.map (·.2)) C s0 H0 fp) tg g)
    (he : ∀ cl C s0 H0 fp, PE (cxComp X scope cl (os ++ caps.map (·.2)) C s0 H0 fp) elt te)
    (ok : compOk N sc scope caps = true) (hN : X.N = N := by rfl) (hsc : X.env.scope = sc := by rfl) (hc : X.calm = true := by rfl) (hfs : ∀ v, foldedSetIterable iter X.env v = pure v := by intro _; rfl) :
    PE X (.ListComp elt [⟨tg, iter, [], 0⟩] scope pos) (tCompG os.length wi g te (caps.map (·.1))) := by
  subst hN hsc
  unfold compOk at ok
  simp only [Bool.and_eq_true, List.all_eq_true, decide_eq_true_eq, Bool.or_eq_true, Bool.not_eq_true', decide_eq_false_iff_not] at ok
  obtain ⟨⟨h1, h2⟩, h3⟩ := ok
  refine pe_compG hi hg he (fun y hy hf => ?_) (fun p hp => ?_) h1 (fun y hy => (h2 y hy).1.1) (fun y hy hl => ?_) hc hfs
  · rcases (h2 y hy).1.2 with z | z
    · exact absurd hf z
    · exact z
  · obtain ⟨⟨a, b⟩, c⟩ := h3 p hp
    exact ⟨a, b, relabel_free c⟩
  · rcases (h2 y hy).2 with z | z
    · exact absurd hl z
    · exact z
theorem ps_compS {tg elt iter : Expr} {os : List Str} {i : Nat} {y : Str} {py pos spos : Pos} {scope : Scope} {wi : TI} {g : TG} {te : TE} {caps : List (Nat × Str)} (N : List Str) (sc : Scope) (hNd : X.N.Nodup) (hy : X.N[i]? = some y) (hl : X.env.kindOf y = some .local) (hi : PI X tg iter wi)
    (hg : ∀ cl C s0 H0 fp, PG (cxComp X scope cl (os ++ caps.map (·.2)) C s0 H0 fp) tg g)
    (he : ∀ cl C s0 H0 fp, PE (cxComp X scope cl (os ++ caps.map (·.2)) C s0 H0 fp) elt te)
    (ok : compOk N sc scope caps = true) (hN : X.N = N := by rfl) (hsc : X.env.scope = sc := by rfl) (hc : X.calm = true := by rfl) (hfs : ∀ v, foldedSetIterable iter X.env v = pure v := by intro _; rfl)
    (hsw : swapsWith (.ListComp elt [⟨tg, iter, [], 0⟩] scope pos) (some (.Name y py)) spos.line X.env = pure true := by rfl) :
    PS X (.Assign [.Name y py] (.ListComp elt [⟨tg, iter, [], 0⟩] scope pos) spos) (tAsg (tCompG os.length wi g te (caps.map (·.1))) (gName i)) := by
  subst hN hsc
  unfold compOk at ok
  simp only [Bool.and_eq_true, List.all_eq_true, decide_eq_true_eq, Bool.or_eq_true, Bool.not_eq_true', decide_eq_false_iff_not] at ok
  obtain ⟨⟨h1, h2⟩, h3⟩ := ok
  refine ps_compG hNd hy hl hi hg he (fun y hy hf => ?_) (fun p hp => ?_) h1 (fun y hy => (h2 y hy).1.1) (fun y hy hl => ?_) hc hfs hsw
  · rcases (h2 y hy).1.2 with z | z
    · exact absurd hf z
    · exact z
  · obtain ⟨⟨a, b⟩, c⟩ := h3 p hp
    exact ⟨a, b, relabel_free c⟩
  · rcases (h2 y hy).2 with z | z
    · exact absurd hl z
    · exact z
end
/-! ### tuples never change -/
noncomputable def Tup (H H' : Hp) : Prop := ∀ b xs, H b = some (.tup xs) → H' b = some (.tup xs)
theorem _root_.L2.Same.tup {H H' : Hp} (h : Same H H') : Tup H H' := fun b xs e => h b _ e
theorem Tup.refl (H : Hp) : Tup H H := fun _ _ e => e
theorem Tup.trans {H H1 H2 : Hp} (a : Tup H H1) (b : Tup H1 H2) : Tup H H2 := fun c xs e => b c xs (a c xs e)
theorem Tup.lst {H : Hp} {D : Addr} {ys : List V} {o : HO} (h : H D = some (.lst ys)) : Tup H (upd H D o) := fun b xs e => by
  rw [upd_ne (fun z => by rw [z, h] at e; cases e)]; exact e
theorem Tup.new {H : Hp} {D : Addr} {o : HO} (h : H D = none) : Tup H (upd H D o) := L2.Same.tup (Same.new h)
theorem ShV.tup {H H' : Hp} {v : V} {q : Rat} (h : ShV H v q) (e : Tup H H') : ShV H' v q := by
  obtain ⟨a, rfl, h⟩ := h
  exact ⟨a, rfl, e _ _ h⟩
/-! ### comprehensions by what their items are -/
/-- an iterator of n items that are known ahead -/
noncomputable def Plain1 (J : It) (H1 : Hp) (n : Nat) (f : Nat → V) : Prop := ∀ H2, Same H1 H2 → ∀ i, (i < n → J.go i H2 ∧ ∀ x H', J.yld i H2 x H' → H' = H2 ∧ x = f i) ∧ (i = n → J.stop i H2)
/-- .. of n pairs (tuples that are new, or known ahead) -/
noncomputable def Plain2 (K : PySem.W.Frag) (J : It) (H1 : Hp) (n : Nat) (f g : Nat → V) : Prop := ∀ H2, Same H1 H2 → ∀ i, (i < n → J.go i H2 ∧ ∀ x H', J.yld i H2 x H' → Same H2 H' ∧ ∃ a, x = .ref a ∧ SqT K H' a [f i, g i]) ∧ (i = n → J.stop i H2)
theorem plain_list {K : PySem.W.Frag} {a : Addr} {xs : List V} {H1 : Hp} (h : SqL K H1 a xs) : Plain1 (Itl K a) H1 xs.length fun i => (xs[i]?).getD .non := fun H2 s i =>
  ⟨fun hi => ⟨⟨xs, xs[i], s.seq h, by simp [hi]⟩, fun x H' y => ⟨y.1, by show x = (xs[i]?).getD .non; rw [y.2 xs (s.seq h)]; rfl⟩⟩, fun e => by subst e; exact ⟨xs, s.seq h, Nat.le_refl _⟩⟩
theorem small_line {n : Nat} (h : n ≤ 100000) : n < sizeLine := Nat.lt_of_le_of_lt h (by rw [sizeLine_eq]; decide)
section
variable {K : PySem.W.Frag} {J : It} {H1 : Hp} {te : TE} {cs : L2.St} {Q : VK} {n : Nat}
theorem comp1 {f : Nat → V} (hJ : Plain1 J H1 n f) (hn : n ≤ 100000) (R : Nat → V → Hp → Prop) (hR : ∀ i v H H', Tup H H' → R i v H → R i v H')
    (he : ∀ i H2 (k : VK), i < n → Same H1 H2 → (∀ v H3, Same H2 H3 → R i v H3 → k v H3) → te (some (f i) :: cs) H2 k)
    (hq : ∀ D ys H2, H1 D = none → Same H1 H2 → H2 D = some (.lst ys) → ys.length = n → (∀ i v, ys[i]? = some v → R i v H2) → Q (.ref D) H2) :
    CompGoal 1 J H1 (gName 0) te cs Q := by
  intro D hD
  refine ⟨fun i m ys H2 => m = n - i ∧ i ≤ n ∧ ys.length = i ∧ Same H1 H2 ∧ H2 D = some (.lst ys) ∧ ∀ j v, ys[j]? = some v → R j v H2, ⟨n, by simp, Nat.zero_le _, rfl, Same.new hD, upd_same, fun j v e => by simp at e⟩, ?_⟩
  rintro i m ys H2 ⟨rfl, hi, hl, s2, d2, r2⟩
  by_cases hlt : i < n
  · refine .inr ⟨((hJ H2 s2 i).1 hlt).1, fun x H' y own ho => ?_⟩
    obtain ⟨rfl, rfl⟩ := ((hJ H2 s2 i).1 hlt).2 x H' y
    cases own with
    | nil => cases ho
    | cons o1 r =>
      cases r with
      | cons _ _ => cases ho
      | nil =>
        refine ⟨⟨[some (f i)], rfl, rfl⟩, he i _ _ hlt s2 fun v H3 s3 r3 => ⟨s3 _ _ d2, small_line (by omega), n - (i + 1), by omega, rfl, hlt, by rw [List.length_append, hl]; rfl, fun b o e => ?_, upd_same, fun j w e => ?_⟩⟩
        · rw [upd_ne (ne_of_none e hD)]; exact s3 _ _ (s2 _ _ e)
        · have t3 : Tup H3 (upd H3 D (.lst (ys ++ [v]))) := Tup.lst (s3 _ _ d2)
          by_cases hj : j < ys.length
          · rw [List.getElem?_append_left hj] at e
            exact hR _ _ _ _ (s3.tup.trans t3) (r2 j w e)
          · rw [List.getElem?_append_right (by omega)] at e
            have hj0 : j - ys.length = 0 := by
              cases q : j - ys.length with
              | zero => rfl
              | succ k => rw [q] at e; simp at e
            rw [hj0] at e
            have e' : v = w := by simpa using e
            have hji : j = i := by omega
            rw [← e', hji]
            exact hR _ _ _ _ t3 r3
  · have e : i = n := by omega
    subst e
    exact .inl ⟨(hJ H2 s2 i).2 rfl, hq D ys H2 hD s2 d2 hl r2⟩
theorem comp2 {f g : Nat → V} (hJ : Plain2 K J H1 n f g) (hn : n ≤ 100000) (R : Nat → V → Hp → Prop) (hR : ∀ i v H H', Tup H H' → R i v H → R i v H')
    (he : ∀ i H2 (k : VK), i < n → Same H1 H2 → (∀ v H3, Same H2 H3 → R i v H3 → k v H3) → te (some (f i) :: some (g i) :: cs) H2 k)
    (hq : ∀ D ys H2, H1 D = none → Same H1 H2 → H2 D = some (.lst ys) → ys.length = n → (∀ i v, ys[i]? = some v → R i v H2) → Q (.ref D) H2) :
    CompGoal 2 J H1 (gTup K 2 (gCons (gName 0) (gCons (gName 1) gNil))) te cs Q := by
  intro D hD
  refine ⟨fun i m ys H2 => m = n - i ∧ i ≤ n ∧ ys.length = i ∧ Same H1 H2 ∧ H2 D = some (.lst ys) ∧ ∀ j v, ys[j]? = some v → R j v H2, ⟨n, by simp, Nat.zero_le _, rfl, Same.new hD, upd_same, fun j v e => by simp at e⟩, ?_⟩
  rintro i m ys H2 ⟨rfl, hi, hl, s2, d2, r2⟩
  by_cases hlt : i < n
  · refine .inr ⟨((hJ H2 s2 i).1 hlt).1, fun x H' y own ho => ?_⟩
    obtain ⟨s2', a, rfl, ht⟩ := ((hJ H2 s2 i).1 hlt).2 x H' y
    cases own with
    | nil => cases ho
    | cons o1 r =>
      cases r with
      | nil => cases ho
      | cons o2 r =>
        cases r with
        | cons _ _ => cases ho
        | nil =>
          refine ⟨a, _, rfl, ht, rfl, _, _, rfl, _, _, rfl, rfl, ⟨[some (f i), some (g i)], rfl, rfl⟩, he i _ _ hlt (s2.trans s2') fun v H3 s3 r3 => ⟨s3 _ _ (s2' _ _ d2), small_line (by omega), n - (i + 1), by omega, rfl, hlt, by rw [List.length_append, hl]; rfl, fun b o e => ?_, upd_same, fun j w e => ?_⟩⟩
          · rw [upd_ne (ne_of_none e hD)]; exact s3 _ _ (s2' _ _ (s2 _ _ e))
          · have t3 : Tup H3 (upd H3 D (.lst (ys ++ [v]))) := Tup.lst (s3 _ _ (s2' _ _ d2))
            by_cases hj : j < ys.length
            · rw [List.getElem?_append_left hj] at e
              exact hR _ _ _ _ ((s2'.trans s3).tup.trans t3) (r2 j w e)
            · rw [List.getElem?_append_right (by omega)] at e
              have hj0 : j - ys.length = 0 := by
                cases q : j - ys.length with
                | zero => rfl
                | succ k => rw [q] at e; simp at e
              rw [hj0] at e
              have e' : v = w := by simpa using e
              have hji : j = i := by omega
              rw [← e', hji]
              exact hR _ _ _ _ t3 r3
  · have e : i = n := by omega
    subst e
    exact .inl ⟨(hJ H2 s2 i).2 rfl, hq D ys H2 hD s2 d2 hl r2⟩
end
/-! ### rules that name K plainly (a comprehension's block hands on no context) -/
section
variable {X : Cx}
theorem ix_listK (K : PySem.W.Frag) (h : X.K = K := by rfl) : IxR X (rIxL K) := by subst h; exact ix_list
theorem ix_tupK (K : PySem.W.Frag) (h : X.K = K := by rfl) : IxR X (rIxT K) := by subst h; exact ix_tup
theorem sl_listK (K : PySem.W.Frag) (h : X.K = K := by rfl) : SlR X (rSlL K) := by subst h; exact sl_list
theorem op_neDK (K : PySem.W.Frag) (hu : X.A.units + 64 < cLine) (h : X.K = K := by rfl) : OpR X (compareOp .NotEq) (rNeD K) := by subst h; exact op_neD hu
theorem call_lenK (K : PySem.W.Frag) (h : X.K = K := by rfl) : CallR X (.builtin "len") (fun xs H Q => ∃ p ys, xs = [.ref p] ∧ (SqL K H p ys ∨ SqT K H p ys) ∧ Q (.int ys.length) H) := by subst h; exact call_len_seq
theorem call_isiK (K : PySem.W.Frag) (h : X.K = K := by rfl) : CallR X (.builtin "isinstance") (fun xs H Q => ∃ x T t b, xs = [x, .ty T] ∧ TyOf K H x t ∧ PySem.W.kitOne K t (.type T) = some b ∧ Q (.bl b) H) := by subst h; exact call_isi
theorem pg_tupK (K : PySem.W.Frag) {es : List Expr} {k : Nat} {t : TGs} {n : Nat} {pos : Pos} (hc : X.calm = true) (h : PGs X es t) (hK : X.K = K := by rfl)
    (hn : (assignEach es X.env).length = n := by rfl) (hst : (assignEach es X.env).findIdx? (·.1) = none := by rfl) : PG X (.Tuple es k pos) (gTup K n t) := by subst hK; exact pg_tup hc h hn hst
end
end Cv

namespace Cv
open PySem PySem.Spec PyProof.Rows L2
/-! ### reversed of a list, walked -/
section
variable {X : Cx} {tg : Expr}
end
end Cv

namespace Cv
open PySem PySem.Spec PyProof.Rows L2
section
variable {prog : Program} {w : World} {A : Around} {E : Value → Shared → Prop} {s : Shared}
end
section
variable {X : Cx}
/-- e[::-1], a list -/
noncomputable def tBack (K : PySem.W.Frag) (te : TE) (ts : TO) : TE := fun σ H Q => te σ H fun x H1 => ts σ H1 fun o H2 => o = some (-1) ∧ ∃ (a : Addr) (xs : List V), x = .ref a ∧ SqL K H2 a xs ∧ ∀ l, H2 l = none → Q (.ref l) (upd H2 l (.lst xs.reverse))
theorem pe_backward (K : PySem.W.Frag) {e : Expr} {st : Expr} {te : TE} {ts : TO} {p2 pos : Pos} (he : PE X e te) (hs : PO X (some st) ts) (hK : X.K = K := by rfl) : PE X (.Subscript e (.Slice none none (some st) p2) pos) (tBack K te ts) := by
  subst hK
  intro pins s σ H Q I h
  refine Subscript_ (thn (he pins s σ H _ I h) fun v s1 ⟨x, H1, I1, r1, q1⟩ => ?_)
  refine wpAny_Slice ?_
  rw [evalPart_none]
  refine wpAny_pure ?_
  refine wpAny_pure ?_
  refine thn (hs pins s1 σ H1 _ I1 q1) fun vs s3 ⟨o, H3, I3, pu, q3⟩ => ?_
  obtain ⟨rfl, a, xs, rfl, hq, q⟩ := q3
  cases r1
  have I4 : Inv X pins σ H3 { s3 with heap := s3.heap.push { cls := .type "slice", data := .fields #[.none, .none, vs] } } := I3.kept (t' := s3.toks) fun b ob q => Heap.get?_push_of_some _ q
  obtain ⟨its, r, ht, hz⟩ := I4.list hq
  have hlen := r.length
  have hg : wpAny (model X.prog X.w) X.A (getItem (.ref a) (.ref s3.heap.objs.size)) (EP X pins σ Q) X.xe { s3 with heap := s3.heap.push { cls := .type "slice", data := .fields #[.none, .none, vs] } } := by
    refine wpAny_getItem_list_slice ht.isList (Heap.IsSliceOf.new ..) .none .none pu (by decide) ?_ (by rw [List.size_toArray] <;> omega)
    rw [PySem.W.krv_pick]
    refine ⟨.ref _, _, I4.laid (t' := s3.toks) (o := .lst xs.reverse) (fun b ob q => Heap.get?_push_of_some _ q) (Nat.le_refl _) ?_, rfl, q _ (I4.hok.fresh (Nat.le_refl _))⟩
    exact ⟨by rw [List.length_reverse]; exact hz, _, 0, r.reverse, Heap.get?_push_size _ rfl⟩
  show wpAny (model X.prog X.w) X.A (subscriptTail e (.Slice none none (some st) p2) (.ref a) (.ref s3.heap.objs.size)) (EP X pins σ Q) X.xe { s3 with heap := s3.heap.push { cls := .type "slice", data := .fields #[.none, .none, vs] } }
  exact tail_any (ops := [.ref a, .ref s3.heap.objs.size]) ht.isList.typeIs slot_list_getitem.lookup hg (by with_unfolding_all rfl)
end
end Cv

namespace Cv
open PySem PySem.Spec PyProof.Rows L2
section
variable {X : Cx} {pins : List (Addr × Obj)} {σ : L2.St} {H : Hp} {s : Shared} {h' : Heap}
/-- untracked records of ours have turned, a new object is laid and tracked -/
theorem turnedLay {t' : Nat} {ch : List Addr} {a : Addr} {o : HO} (I : Inv X pins σ H s) (hf : ∀ b ∈ ch, FpOk X pins H b) (k : ∀ b o, b ∉ ch → s.heap.get? b = some o → h'.get? b = some o)
    (ha : s.heap.objs.size ≤ a) (new : ObjOk X.prog X.w (upd H a o) h' a o) : Inv X pins σ (upd H a o) { s with heap := h', toks := t' } := by
  have hna : H a = none := I.hok.fresh ha
  have nit : ∀ b u, H b = some u → b ∉ ch := fun b u e z => by rw [(hf b z).1] at e; cases e
  have up : ∀ b u, H b = some u → upd H a o b = some u := fun b u e => by rw [upd_ne (ne_of_none e hna)]; exact e
  refine I.step (g' := s.gens) (d' := s.drawn) (ch := ch) (fun b hb => ⟨(hf b hb).2.2.2.1, (hf b hb).2.1, (hf b hb).2.2.2.2.1, (hf b hb).2.2.2.2.2⟩) (fun b o _ _ hc e _ => k b o hc e) (fun b o _ _ hc e _ => ⟨o.slots, k b o hc e⟩) (fun b o _ e n => ?_)
    (fun b o hc e => ⟨o, k b o hc e⟩) (fun _ _ e => up _ _ e) (fun _ _ _ e => up _ _ e) (fun b ps e => ⟨#[], by rw [up _ _ e]; simp⟩) (fun m hm => ?_) (fun b u e => ?_) I.bare
  · rw [upd_ne (fun z => by rw [z] at e; exact absurd (Heap.lt_size e) (Nat.not_lt.mpr ha))]; exact n
  · obtain ⟨o, es, ep, ho, r⟩ := hm
    exact ⟨o, es, ep, k _ o (fun z => (hf _ z).2.1 rfl) ho, r⟩
  · by_cases hb : b = a
    · subst hb
      rw [upd_same] at e
      cases e
      exact new
    · rw [upd_ne hb] at e
      refine (I.hok b u e).stay (fun c v hc q => k c v ?_ q) (fun _ q => up _ _ q) fun _ _ q => up _ _ q
      rcases hc with z | z
      · rw [z]; exact nit b u e
      · exact nit c _ z
theorem turnedL {t' : Nat} {ch : List Addr} (I : Inv X pins σ H s) (hf : ∀ b ∈ ch, FpOk X pins H b) (k : ∀ b o, b ∉ ch → s.heap.get? b = some o → h'.get? b = some o) : Inv X pins σ H { s with heap := h', toks := t' } := by
  have nit : ∀ b u, H b = some u → b ∉ ch := fun b u e z => by rw [(hf b z).1] at e; cases e
  refine I.step (g' := s.gens) (d' := s.drawn) (ch := ch) (fun b hb => ⟨(hf b hb).2.2.2.1, (hf b hb).2.1, (hf b hb).2.2.2.2.1, (hf b hb).2.2.2.2.2⟩) (fun b o _ _ hc e _ => k b o hc e) (fun b o _ _ hc e _ => ⟨o.slots, k b o hc e⟩) (fun _ _ _ _ n => n)
    (fun b o hc e => ⟨o, k b o hc e⟩) (fun _ _ e => e) (fun _ _ _ e => e) (fun b ps e => ⟨#[], by rw [e]; simp⟩) (fun m hm => ?_) (fun b u e => ?_) I.bare
  · obtain ⟨o, es, ep, ho, r⟩ := hm
    exact ⟨o, es, ep, k _ o (fun z => (hf _ z).2.1 rfl) ho, r⟩
  · refine (I.hok b u e).stay (fun c v hc q => k c v ?_ q) (fun _ q => q) fun _ _ q => q
    rcases hc with z | z
    · rw [z]; exact nit b u e
    · exact nit c _ z
end
/-! ### zip of two lists, walked by pairs of names -/
noncomputable def Itz (K : PySem.W.Frag) (l1 l2 : Addr) : It :=
  ⟨fun i H => ∃ xs ys x y, SqL K H l1 xs ∧ SqL K H l2 ys ∧ xs[i]? = some x ∧ ys[i]? = some y,
   fun i H v H' => ∃ T a b, v = .ref T ∧ H T = none ∧ H' = upd H T (.tup [a, b]) ∧ (∀ xs, SqL K H l1 xs → xs[i]? = some a) ∧ ∀ ys, SqL K H l2 ys → ys[i]? = some b,
   fun i H => ∃ xs ys, SqL K H l1 xs ∧ SqL K H l2 ys ∧ (xs[i]? = none ∨ ys[i]? = none)⟩
theorem turn_zip {P : Program} {w : World} {K : PySem.W.Frag} {elts : List Expr} {k0 : Nat} {pos : Pos} {z TI TO i1 i2 l1 l2 : Addr} (D : ZipApart z TI TO i1 i2 l1 l2) : Turn P w K (.Tuple elts k0 pos) (Itz K l1 l2) [z, TI, TO, i1, i2] z
    (fun i h => IsZip h z TI TO .none ∧ IsPair h TI (.ref i1) (.ref i2) ∧ (∃ a b, IsPair h TO a b) ∧ h.IsListIter i1 l1 i ∧ h.IsListIter i2 l2 i) where
  mem := by simp
  obj := fun i h st b hb => by
    obtain ⟨hz, hTI, ⟨a, b', hTO⟩, ⟨o1, e1, c1, d1⟩, ⟨o2, e2, c2, d2⟩⟩ := st
    simp only [List.mem_cons, List.not_mem_nil, or_false] at hb
    rcases hb with rfl | rfl | rfl | rfl | rfl
    · exact ⟨_, hz, fun v q => by have q' : Data.fields _ = Data.cell v := q; cases q'⟩
    · exact ⟨_, hTI, fun v q => by have q' : Data.seq _ _ = Data.cell v := q; cases q'⟩
    · exact ⟨_, hTO, fun v q => by have q' : Data.seq _ _ = Data.cell v := q; cases q'⟩
    · exact ⟨_, e1, fun v q => by rw [d1] at q; cases q⟩
    · exact ⟨_, e2, fun v q => by rw [d2] at q; cases q⟩
  keep := fun i h h' st k => by
    obtain ⟨hz, hTI, ⟨a, b, hTO⟩, h1, h2⟩ := st
    exact ⟨k z (by simp) _ hz, k TI (by simp) _ hTI, ⟨a, b, k TO (by simp) _ hTO⟩, h1.at fun o e => k i1 (by simp) o e, h2.at fun o e => k i2 (by simp) o e⟩
  item := by
    intro X hP hw hK hc i pins s σ H E I hf st hg
    subst hP hw hK
    obtain ⟨xs, ys, x, y, hq1, hq2, hx, hy⟩ := hg
    obtain ⟨hz, hTI, ⟨a, b, hTO⟩, h1, h2⟩ := st
    obtain ⟨its1, rv1, p1, hz1⟩ := I.list hq1
    obtain ⟨its2, rv2, p2, hz2⟩ := I.list hq2
    obtain ⟨u1, hu1, ru1⟩ := rv1.get hx
    obtain ⟨u2, hu2, ru2⟩ := rv2.get hy
    refine wpAny_pyNext_zip_item D hz hTI hTO h1 h2 p1.isList p2.isList (x := u1) (y := u2) (by simpa using hu1) (by simpa using hu2) fun h' a1 a2 a3 a4 a5 a6 a7 => ?_
    refine ⟨_, rfl, wpAny_letOwnedTupleGo_zip a1 fun h'' b1 b2 => ?_⟩
    have hT : H s.heap.objs.size = none := I.hok.fresh (Nat.le_refl _)
    have neT : ∀ {c o}, s.heap.get? c = some o → c ≠ s.heap.objs.size := fun e => Nat.ne_of_lt (Heap.lt_size e)
    have kk : ∀ b o, b ∉ [z, TI, TO, i1, i2] → s.heap.get? b = some o → h''.get? b = some o := fun b o hb e => by
      simp only [List.mem_cons, List.not_mem_nil, or_false, not_or] at hb
      exact b2.extBut b o hb.1 (a7 b o hb.1 hb.2.2.1 hb.2.2.2.1 hb.2.2.2.2 e)
    have tT : h''.get? s.heap.objs.size = some { cls := .type "tuple", data := .seq #[u1, u2] } := b2.extBut _ _ (Ne.symm (neT hz)) a5
    have I1 := turnedLay (t' := s.toks) (a := s.heap.objs.size) (o := .tup [x, y]) (h' := h'') I hf kk (Nat.le_refl _) ⟨by show 2 ≤ sizeLine; decide, [u1, u2], .cons ru1 (.cons ru2 .nil), ⟨_, tT, rfl, _, rfl⟩⟩
    refine ⟨.ref s.heap.objs.size, _, I1, rfl, ⟨s.heap.objs.size, x, y, rfl, hT, rfl, fun xs' hx' => by rw [I.list_inj hx' hq1]; exact hx, fun ys' hy' => by rw [I.list_inj hy' hq2]; exact hy⟩, ?_, fun c hc => ?_⟩
    · exact ⟨b1, b2.extBut _ _ D.TIz (a7 _ _ D.TIz D.TITO D.TIi1 D.TIi2 hTI), ⟨_, _, b2.extBut _ _ D.TOz a2⟩, a3.extBut b2.extBut D.i1z, a4.extBut b2.extBut D.i2z⟩
    · have e0 := (hf c hc).1
      rw [upd_ne ?_]
      · exact e0
      · intro q
        obtain ⟨o1, e1, _⟩ := h1
        obtain ⟨o2, e2, _⟩ := h2
        simp only [List.mem_cons, List.not_mem_nil, or_false] at hc
        rcases hc with rfl | rfl | rfl | rfl | rfl
        · exact neT hz q
        · exact neT hTI q
        · exact neT hTO q
        · exact neT e1 q
        · exact neT e2 q
  done := by
    intro X hP hw hK hc i pins s σ H E I hf st hg
    subst hP hw hK
    obtain ⟨xs, ys, hq1, hq2, hend⟩ := hg
    obtain ⟨hz, hTI, ⟨a, b, hTO⟩, h1, h2⟩ := st
    obtain ⟨its1, rv1, p1, hz1⟩ := I.list hq1
    obtain ⟨its2, rv2, p2, hz2⟩ := I.list hq2
    refine wpAny_pyNext_zip_end (I.ok.hd hc) D hz hTI hTO h1 h2 p1.isList p2.isList (hend.imp (fun e => by simpa using rv1.none_of e) fun e => by simpa using rv2.none_of e) fun h' kk => ⟨rfl, turnedL (t' := s.toks) I hf fun b o hb e => ?_⟩
    simp only [List.mem_cons, List.not_mem_nil, or_false, not_or] at hb
    exact kk b o hb.1 hb.2.2.1 hb.2.2.2.1 hb.2.2.2.2 e
  self := fun _ _ _ _ _ st h => wpAny_pyIter_zip st.1 h
section
variable {X : Cx}
noncomputable def iZip (K : PySem.W.Frag) (ta : TA) : TI := fun σ H R => ta σ H fun vs H1 => ∃ l1 l2, vs = [.ref l1, .ref l2] ∧ (∃ xs, SqL K H1 l1 xs) ∧ (∃ ys, SqL K H1 l2 ys) ∧ R (Itz K l1 l2) H1
theorem pi_zip {a b : Expr} {ta : TA} {p pos ppos : Pos} {elts : List Expr} {k0 : Nat} (hg : Gl X "zip") (hm : X.mg "zip" = none) (ha : PA X [a, b] ta) (he : starEach [a, b] X.env = (false, eval a X.env) :: starEach [b] X.env := by rfl)
    (hpl : (backTo pos (starEach [b] X.env)).any (·.1) = false := by rfl) : PI X (.Tuple elts k0 ppos) (.Call (.Name "zip" p) [a, b] [] pos) (iZip X.K ta) := by
  intro pins s σ H R I h
  refine wpAny_Call_Name_kw (ld_blt I hg hm boot_zip ?_ (by decide) (by decide))
  refine PyProof.Rows.callWith_type1 (thn (ha pos pins s σ H _ I h) fun us s1 ⟨vs, H1, I1, r1, q1⟩ => ?_) he hpl
  obtain ⟨l1, l2, rfl, ⟨xs, hq1⟩, ⟨ys, hq2⟩, q⟩ := q1
  obtain ⟨u1, u2, rfl, e1, e2⟩ := vals_two r1
  cases e1; cases e2
  obtain ⟨its1, rv1, p1, hz1⟩ := I1.list hq1
  obtain ⟨its2, rv2, p2, hz2⟩ := I1.list hq2
  have a1 : l1 < s1.heap.objs.size := by obtain ⟨_, e, _⟩ := p1.isList; exact Heap.lt_size e
  have a2 : l2 < s1.heap.objs.size := by obtain ⟨_, e, _⟩ := p2.isList; exact Heap.lt_size e
  refine call_zip_2 p1.isList p2.isList fun h' hz hTI hTO hi1 hi2 _ hk => ?_
  refine wpAny_pyIter_zip hz ?_
  refine ⟨_, [s1.heap.objs.size + 4, s1.heap.objs.size + 2, s1.heap.objs.size + 3, s1.heap.objs.size, s1.heap.objs.size + 1], _, _, H1, rfl, I1.kept (t' := s1.toks) hk, turn_zip (zipApart_new a1 a2), ⟨hz, hTI, ⟨_, _, hTO⟩, hi1, hi2⟩, fun c hc => ?_, q⟩
  have hge : s1.heap.objs.size ≤ c := by
    simp only [List.mem_cons, List.not_mem_nil, or_false] at hc
    rcases hc with rfl | rfl | rfl | rfl | rfl <;> omega
  exact I1.fpOk hge (I1.hok.fresh hge)
theorem plain_zip {K : PySem.W.Frag} {l1 l2 : Addr} {xs ys : List V} {H1 : Hp} (h1 : SqL K H1 l1 xs) (h2 : SqL K H1 l2 ys) : Plain2 K (Itz K l1 l2) H1 (min xs.length ys.length) (fun i => (xs[i]?).getD .non) (fun i => (ys[i]?).getD .non) := fun H2 s i => by
  refine ⟨fun hi => ⟨⟨xs, ys, xs[i]'(by omega), ys[i]'(by omega), s.seq h1, s.seq h2, by simp [show i < xs.length by omega], by simp [show i < ys.length by omega]⟩, fun x H' y => ?_⟩, fun e => ⟨xs, ys, s.seq h1, s.seq h2, ?_⟩⟩
  · obtain ⟨T, a, b, rfl, hT, rfl, e1, e2⟩ := y
    refine ⟨Same.new hT, T, rfl, ?_⟩
    show SqT K _ T [(xs[i]?).getD .non, (ys[i]?).getD .non]
    rw [e1 xs (s.seq h1), e2 ys (s.seq h2)]
    exact SqT.of upd_same
  · rcases Nat.le_total xs.length ys.length with h | h
    · exact .inl (List.getElem?_eq_none (by omega))
    · exact .inr (List.getElem?_eq_none (by omega))
/-! ### all, any of a list of truths -/
theorem all_range (bs : List Bool) : (List.range bs.length).all (fun i => (bs[i]?).getD false) = bs.all id := by
  rw [Bool.eq_iff_iff, List.all_eq_true, List.all_eq_true]
  constructor
  · intro h b hb
    obtain ⟨i, hi, rfl⟩ := List.getElem_of_mem hb
    have := h i (List.mem_range.mpr hi)
    simpa [hi] using this
  · intro h i hi
    have hi' := List.mem_range.mp hi
    have := h bs[i] (List.getElem_mem hi')
    simpa [hi'] using this
theorem rel_bools {bs : List Bool} {us : List Value} (r : Vals (bs.map V.bl) us) : us = bs.map Value.bool := by
  induction bs generalizing us with
  | nil => cases r; rfl
  | cons b r' ih =>
    cases r with
    | cons p q => rw [List.map_cons, ← ih q]; cases p; rfl
theorem call_allB (hc : X.calm = true) : CallR X (.builtin "all") (fun xs H Q => ∃ (p : Addr) (bs : List Bool), xs = [.ref p] ∧ SqL X.K H p (bs.map V.bl) ∧ Q (.bl (bs.all id)) H) := by
  intro pins s σ H xs us Q I r h
  obtain ⟨p, bs, rfl, hq, q⟩ := h
  obtain ⟨u, rfl, ru⟩ := vals_one r
  cases ru
  obtain ⟨its, rv, pl, hz⟩ := I.list hq
  have e := rel_bools rv
  subst e
  have a1 : p < s.heap.objs.size := by obtain ⟨_, e, _⟩ := pl.isList; exact Heap.lt_size e
  have hne : p ≠ s.heap.objs.size := Nat.ne_of_lt a1
  refine call_all_walk (wpAny_pyIter_list pl.isList ⟨_, _, _, _, _, _, fun i => (bs[i]?).getD false, rfl, Walks.list (A := X.A.in1) (show X.A.in1.handled = none from I.ok.hd hc) _ p hne _, ⟨⟨_, Heap.get?_push_size _ rfl, rfl, rfl⟩, Heap.IsList.push pl.isList _⟩, fun i v s' Q' E' hv hQ => ?_, fun h' tk hk => ?_⟩)
  · have hv' : (bs.map Value.bool)[i]? = some v := by simpa using hv
    have hQ : Q' ((bs[i]?).getD false) s' := hQ
    rw [List.getElem?_map] at hv'
    cases eb : bs[i]? with
    | none => rw [eb] at hv'; cases hv'
    | some b =>
      rw [eb] at hv' hQ
      cases hv'
      exact wpAny_truthy_bool hQ
  · have ea : (List.range (bs.map Value.bool).toArray.size).all (fun i => (bs[i]?).getD false) = bs.all id := by
      rw [← all_range bs]; simp
    rw [ea]
    exact ⟨.bl _, H, I.kept (h' := h') (t' := tk) (fun b o eb => hk b o (by
      intro hm
      have : b = s.heap.objs.size := by simpa using hm
      rw [this] at eb
      exact absurd (Heap.lt_size eb) (Nat.lt_irrefl _)) (Heap.get?_push_of_some _ eb)), rfl, q⟩
end
end Cv

namespace Cv
open PySem PySem.Spec PyProof.Rows L2
/-! ### the end of a list while an exception is handled; any of a list of truths there -/
section
variable {prog : Program} {w : World} {A : Around} {E : Value → Shared → Prop} {s : Shared}
end
section
variable {X : Cx}
end
end Cv

namespace Cv
open PySem PySem.Spec PyProof.Rows L2
/-! ### promises of what is refused -/
/-! ### is, is not of two truths -/
section
variable {X : Cx}
end
end Cv
namespace Cv
open PySem PySem.Spec PyProof.Rows L2
/-! ### what goes on is read once -/
end Cv

namespace Cv
open PySem PySem.Spec PyProof.Rows L2
section
set_option autoImplicit true
@[irreducible] noncomputable def PEi (X : Cx) (e : Expr) (t : TE) : Prop := PE X e t
@[irreducible] noncomputable def PAi (X : Cx) (e : List Expr) (t : TA) : Prop := PA X e t
@[irreducible] noncomputable def PTi (X : Cx) (e : Expr) (t : TT) : Prop := PT X e t
@[irreducible] noncomputable def PWi (X : Cx) (e : Expr) (t : TT) : Prop := PW X e t
@[irreducible] noncomputable def PSi (X : Cx) (e : Stmt) (t : TS) : Prop := PS X e t
@[irreducible] noncomputable def PSsi (X : Cx) (e : List Stmt) (t : TS) : Prop := PSs X e t
@[irreducible] noncomputable def PGi (X : Cx) (e : Expr) (t : TG) : Prop := PG X e t
@[irreducible] noncomputable def PGsi (X : Cx) (e : List Expr) (t : TGs) : Prop := PGs X e t
@[irreducible] noncomputable def PIi (X : Cx) (tg e : Expr) (t : TI) : Prop := PI X tg e t
@[irreducible] noncomputable def POi (X : Cx) (e : Option Expr) (t : TO) : Prop := PO X e t
theorem pvI  (i : Nat) {x : Str} {pos : Pos} (hN : X.N[i]? = some x := by rfl) (hv : Vis X.env.scope x := by first | exact Or.inl rfl | exact Or.inr (Or.inl rfl) | exact Or.inr (Or.inr rfl)) (hd : (x == ("__debug__" : Str)) = false := by decide) (hcd : (x == ("__classdict__" : Str)) = false := by decide) : PEi X (.Name x pos) (tVar i) := by with_unfolding_all exact pv (i := i) (hN := hN) (hv := hv) (hd := hd) (hcd := hcd)
theorem pe_intI  {i j pos} : PEi X (.Constant (.int i) j pos) (tC (.int i)) := by with_unfolding_all exact pe_int 
theorem pe_blI  {b j pos} : PEi X (.Constant (.bool b) j pos) (tC (.bl b)) := by with_unfolding_all exact pe_bl 
theorem pe_bltnI  {x : Str} {v : V} {u : Value} {pos : Pos} (hg : Gl X x) (hm : X.mg x = none) (hv : bootBuiltins x = some u) (r : RelV v u) (hn : x ≠ "__name__" := by decide) (hd : (x == ("__debug__" : Str)) = false := by decide) : PEi X (.Name x pos) (tC v) := by with_unfolding_all exact pe_bltn (hg := hg) (hm := hm) (hv := hv) (r := r) (hn := hn) (hd := hd)
theorem pe_opI  {op : Operator} {r : R2} (ho : OpR X (binaryOp op) r) (ha : PEi X a ta) (hb : PEi X b tb) : PEi X (.BinOp a op b pos) (tOp r ta tb) := by with_unfolding_all exact pe_op (ho := ho) (ha := ha) (hb := hb)
theorem pe_unI  {op : UnaryOp} {r : V → Hp → VK → Prop} (ho : UnR X (unaryOp op) r) (ha : PEi X a ta) : PEi X (.UnaryOp op a pos) (tUn r ta) := by with_unfolding_all exact pe_un (ho := ho) (ha := ha)
theorem pe_cmpRI  {op : CmpOp} {r : R2} (ho : OpR X (compareOp op) r) (ha : PEi X a ta) (hb : PEi X b tb) (hm : behindInMarks op b = false) : PEi X (.Compare a [op] [b] pos) (tOp r ta tb) := by with_unfolding_all exact pe_cmpR (ho := ho) (ha := ha) (hb := hb) (hm := hm)
theorem pe_andI {rest : List Expr} (ha : PEi X a ta) (hb : PEi X (.BoolOp .And (b :: rest) pos) tb) : PEi X (.BoolOp .And (a :: b :: rest) pos) (tAndV ta tb) := by with_unfolding_all exact pe_and (ha := ha) (hb := hb)
theorem pe_oneI  {op} {t : TE} (h : PEi X a t) : PEi X (.BoolOp op [a] pos) t := by with_unfolding_all exact pe_one (h := h)
theorem pe_notI  (ha : PEi X a ta) : PEi X (.UnaryOp .Not a pos) (tNotV ta) := by with_unfolding_all exact pe_not (ha := ha)
theorem pe_fnI  (D : DefOk X.prog X.w X.K X.mg X.base CX k x ps sp) (hr : Room j X.A) (hx : Passes CX X E) (ha : PAi X (e :: es) t) (hk : k ≤ j := by decide) (hg : Gl X x := by rfl) (hdb : (x == ("__debug__" : Str)) = false := by decide) (he : starEach (e :: es) X.env = (false, eval e X.env) :: starEach es X.env := by rfl) (hpl : (backTo pos (starEach es X.env)).any (·.1) = false := by rfl) : PEi X (.Call (.Name x p) (e :: es) [] pos) (tFn sp E t) := by with_unfolding_all exact pe_fn (D := D) (hr := hr) (hx := hx) (ha := ha) (hk := hk) (hg := hg) (hdb := hdb) (he := he) (hpl := hpl)
theorem pe_callBI {id : String} (hc : CallR X (.builtin id) r) (hg : Gl X x) (hm : X.mg x = none) (hv : bootBuiltins x = some (.builtin id)) (ha : PAi X (e :: es) t) (hn : x ≠ "__name__" := by decide) (hdb : (x == ("__debug__" : Str)) = false := by decide) (he : starEach (e :: es) X.env = (false, eval e X.env) :: starEach es X.env := by rfl) (hpl : (backTo pos (starEach es X.env)).any (·.1) = false := by rfl) : PEi X (.Call (.Name x p) (e :: es) [] pos) (tCB r t) := by with_unfolding_all exact pe_callB (hc := hc) (hg := hg) (hm := hm) (hv := hv) (ha := ha) (hn := hn) (hdb := hdb) (he := he) (hpl := hpl)
theorem pe_callTyI  (hc : CallR X (.type T) r) (hg : Gl X x) (hm : X.mg x = none) (hv : bootBuiltins x = some (.type T)) (ha : PAi X (e :: es) t) (hn : x ≠ "__name__" := by decide) (hdb : (x == ("__debug__" : Str)) = false := by decide) (he : starEach (e :: es) X.env = (false, eval e X.env) :: starEach es X.env := by rfl) (hpl : (backTo pos (starEach es X.env)).any (·.1) = false := by rfl) : PEi X (.Call (.Name x p) (e :: es) [] pos) (tCB r t) := by with_unfolding_all exact pe_callTy (hc := hc) (hg := hg) (hm := hm) (hv := hv) (ha := ha) (hn := hn) (hdb := hdb) (he := he) (hpl := hpl)
theorem pe_bmI {id : String} (pa : PlainAttrs T) (slot : Slot T name id) (hty : typeOf (.builtin id) = pure (.type "method_descriptor")) (hm : MtR X id r) (ho : PEi X o to) (ha : PAi X (e :: es) t) (hbase : attributeBase o name X.env (eval o X.env) = eval o X.env := by rfl) (hfew : ((backTo cpos (starEach (e :: es) X.env)).all (fun x => !x.1) && (backToKw cpos (keywordEach [] X.env)).all (fun x => x.1.isSome)
      && decide ((e :: es).length + ([] : List Keyword).length + (if ([] : List Keyword).isEmpty then 0 else 1) < 30)) = true := by rfl) (hline : (apos.endLine == cpos.line) = true := by rfl) (hs : starEach (e :: es) X.env = (false, eval e X.env) :: starEach es X.env := by rfl) (hplain : (backTo cpos (starEach es X.env)).any (·.1) = false := by rfl) : PEi X (.Call (.Attribute o name apos) (e :: es) [] cpos) (tBM X.K T r to t) := by with_unfolding_all exact pe_bm (pa := pa) (slot := slot) (hty := hty) (hm := hm) (ho := ho) (ha := ha) (hbase := hbase) (hfew := hfew) (hline := hline) (hs := hs) (hplain := hplain)
theorem pe_bm0I {id : String} (pa : PlainAttrs T) (slot : Slot T name id) (hty : typeOf (.builtin id) = pure (.type "method_descriptor")) (hm : MtR X id r) (ho : PEi X o to) (hbase : attributeBase o name X.env (eval o X.env) = eval o X.env := by rfl) (hline : (apos.endLine == cpos.line) = true := by rfl) : PEi X (.Call (.Attribute o name apos) [] [] cpos) (tBM0 X.K T r to) := by with_unfolding_all exact pe_bm0 (pa := pa) (slot := slot) (hty := hty) (hm := hm) (ho := ho) (hbase := hbase) (hline := hline)
theorem pe_ixI  {r : R2} (hr : IxR X r) (ha : PEi X a ta) (hb : PEi X b tb) (hs : PlainIx b) : PEi X (.Subscript a b pos) (tOp r ta tb) := by with_unfolding_all exact pe_ix (hr := hr) (ha := ha) (hb := hb) (hs := hs)
theorem pe_sliceI {lo hi : Option Expr} {r : V → Option Int → Option Int → Hp → VK → Prop} (hr : SlR X r) (he : PEi X e te) (hl : POi X lo tl) (hu : POi X hi th) : PEi X (.Subscript e (.Slice lo hi none p2) pos) (tSl r te tl th) := by with_unfolding_all exact pe_slice (hr := hr) (he := he) (hl := hl) (hu := hu)
theorem pe_tupI  {x1} (h : PAi X es t) : PEi X (.Tuple es x1 pos) (tTup t) := by with_unfolding_all exact pe_tup (h := h)
theorem pe_lstI  (h : PAi X es t) : PEi X (.List es pos) (tLst t) := by with_unfolding_all exact pe_lst (h := h)
theorem pe_compSI  {tg elt iter : Expr} {os : List Str} {pos : Pos} {scope : Scope} {wi : TI} {g : TG} {te : TE} {caps : List (Nat × Str)} (N : List Str) (sc : Scope) (hi : PIi X tg iter wi) (hg : ∀ cl C s0 H0 fp, PGi (cxComp X scope cl (os ++ caps.map (·.2)) C s0 H0 fp) tg g) (he : ∀ cl C s0 H0 fp, PEi (cxComp X scope cl (os ++ caps.map (·.2)) C s0 H0 fp) elt te) (ok : compOk N sc scope caps = true) (hN : X.N = N := by rfl) (hsc : X.env.scope = sc := by rfl) (hc : X.calm = true := by rfl) (hfs : ∀ v, foldedSetIterable iter X.env v = pure v := by intro _; rfl) : PEi X (.ListComp elt [⟨tg, iter, [], 0⟩] scope pos) (tCompG os.length wi g te (caps.map (·.1))) := by with_unfolding_all exact pe_compS (N := N) (sc := sc) (hi := hi) (hg := hg) (he := he) (ok := ok) (hN := hN) (hsc := hsc) (hc := hc) (hfs := hfs)
theorem pe_backwardI  (K : PySem.W.Frag) {e : Expr} {st : Expr} {te : TE} {ts : TO} {p2 pos : Pos} (he : PEi X e te) (hs : POi X (some st) ts) (hK : X.K = K := by rfl) : PEi X (.Subscript e (.Slice none none (some st) p2) pos) (tBack K te ts) := by with_unfolding_all exact pe_backward (K := K) (he := he) (hs := hs) (hK := hK)
theorem pa_nilI   : PAi X [] tNil := by with_unfolding_all exact pa_nil 
theorem pa_consI  (ha : PEi X e te) (hr : PAi X es t) (hs : starEach (e :: es) X.env = (false, eval e X.env) :: starEach es X.env := by rfl) : PAi X (e :: es) (tCons te t) := by with_unfolding_all exact pa_cons (ha := ha) (hr := hr) (hs := hs)
theorem pt_cmpRI  {op : CmpOp} {r : R2} (ho : OpR X (compareOp op) r) (ha : PEi X a ta) (hb : PEi X b tb) (hm : behindInMarks op b = false) : PTi X (.Compare a [op] [b] pos) (tTest (tOp r ta tb)) := by with_unfolding_all exact pt_cmpR (ho := ho) (ha := ha) (hb := hb) (hm := hm)
theorem pt_notI  (ha : PTi X a tA) : PTi X (.UnaryOp .Not a pos) (tNot tA) := by with_unfolding_all exact pt_not (ha := ha)
theorem pt_valI  {e : Expr} {t : TE} (h : PEi X e t) (he : ∀ whole, isTrue e X.env whole = (do let v ← whole; standAt e.pos; holding [v] (truthy v)) := by intro _; rfl) : PTi X e (tB t) := by with_unfolding_all exact pt_val (h := h) (he := he)
theorem PW_ptI  {X : Cx} {e : Expr} {t : TT} (h : PWi X e t) : PTi X e t := by with_unfolding_all exact L2.PW.pt (h := h)
theorem pw_and1I  (ha : PTi X a tA) : PWi X (.BoolOp .And [a] pos) tA := by with_unfolding_all exact pw_and1 (ha := ha)
theorem pw_or1I  (ha : PTi X a tA) : PWi X (.BoolOp .Or [a] pos) tA := by with_unfolding_all exact pw_or1 (ha := ha)
theorem pw_andI {rest : List Expr} (ha : PTi X a tA) (hb : PWi X (.BoolOp .And (b :: rest) pos) tB') : PWi X (.BoolOp .And (a :: b :: rest) pos) (tAnd tA tB') := by with_unfolding_all exact pw_and (ha := ha) (hb := hb)
theorem pw_orI {rest : List Expr} (ha : PTi X a tA) (hb : PWi X (.BoolOp .Or (b :: rest) pos) tB') : PWi X (.BoolOp .Or (a :: b :: rest) pos) (tOr tA tB') := by with_unfolding_all exact pw_or (ha := ha) (hb := hb)
theorem pss_nilI   : PSsi X [] tNext := by with_unfolding_all exact pss_nil 
theorem pss_consI {st : Stmt} {rest : List Stmt} (h1 : PSi X st t) (h2 : PSsi X rest u) : PSsi X (st :: rest) (tSeq t u) := by with_unfolding_all exact pss_cons (h1 := h1) (h2 := h2)
theorem pss_oneI {st : Stmt} (h1 : PSi X st t) : PSsi X [st] t := by with_unfolding_all exact pss_one (h1 := h1)
theorem ps_exprI  (he : PEi X e te) (hs : swapsWith e none pos.line X.env = pure false := by rfl) : PSi X (.Expr e pos) (tDrop te) := by with_unfolding_all exact ps_expr (he := he) (hs := hs)
theorem ps_retI  (he : PEi X e te) : PSi X (.Return (some e) pos) (tRet te) := by with_unfolding_all exact ps_ret (he := he)
theorem ps_ifI  {c : Expr} {a b : List Stmt} {tc : TT} (hc : PTi X c tc) (ha : PSsi X a t) (hb : PSsi X b u) : PSi X (.If c a b pos) (tIfS tc t u) := by with_unfolding_all exact ps_if (hc := hc) (ha := ha) (hb := hb)
theorem ps_asgI  {tg e : Expr} {te : TE} {g : TG} (he : PEi X e te) (hg : PGi X tg g) (hs : swapsWithSole [tg] e pos.line X.env = pure false := by rfl) (hw : swappedStores [tg] e X.env = pure none := by rfl) (h1 : (assignEach [tg] X.env).map (·.2) = [assign tg X.env] := by rfl) : PSi X (.Assign [tg] e pos) (tAsg te g) := by with_unfolding_all exact ps_asg (he := he) (hg := hg) (hs := hs) (hw := hw) (h1 := h1)
theorem ps_setI  {i : Nat} {x : Str} {e : Expr} {te : TE} {pos' : Pos} (hN : X.N.Nodup) (hi : X.N[i]? = some x) (hx : Loc X.env.scope x) (he : PEi X e te) (hs : swapsWith e (some (.Name x pos')) pos.line X.env = pure false := by rfl) (hf : X.fn x = true ∨ X.env.scope.names.lookup x = some .local := by first | exact .inl rfl | exact .inr rfl | assumption) : PSi X (.Assign [.Name x pos'] e pos) (tAsg te (gName i)) := by with_unfolding_all exact ps_set (hN := hN) (hi := hi) (hx := hx) (he := he) (hs := hs) (hf := hf)
theorem ps_parI  {i j : Nat} {x y : Str} {a b : Expr} {ta : TA} {px py pt : Pos} {kt k2 pt2} (hc : X.calm = true) (hN : X.N.Nodup) (hi : X.N[i]? = some x) (hj : X.N[j]? = some y) (hij : i ≠ j) (hx : X.env.scope.names.lookup x = some .local) (hy : X.env.scope.names.lookup y = some .local) (ha : PAi X [a, b] ta) (hw : swappedStores [.Tuple [.Name x px, .Name y py] kt pt] (.Tuple [a, b] k2 pt2) X.env = pure (some [x, y])) (hs : swapsWithSole [.Tuple [.Name x px, .Name y py] kt pt] (.Tuple [a, b] k2 pt2) pos.line X.env = pure false := by rfl) : PSi X (.Assign [.Tuple [.Name x px, .Name y py] kt pt] (.Tuple [a, b] k2 pt2) pos) (tPar i j ta) := by with_unfolding_all exact ps_par (hc := hc) (hN := hN) (hi := hi) (hj := hj) (hij := hij) (hx := hx) (hy := hy) (ha := ha) (hw := hw) (hs := hs)
theorem ps_whileI  {c : Expr} {body : List Stmt} {tc : TT} {tb : TS} (hp : PassesOwn (model X.prog X.w) X.A X.env X.xe) (hc : PTi X c tc) (hb : PSsi X body tb) : PSi X (.While c body [] pos) (tWhile tc tb) := by with_unfolding_all exact ps_while (hp := hp) (hc := hc) (hb := hb)
theorem ps_forI  {iter : Expr} {body : List Stmt} {wi : TI} {g : TG} {tb : TS} {pos : Pos} (hp : PassesOwn (model X.prog X.w) X.A X.env X.xe) (hc : X.calm = true) (hi : PIi X tg iter wi) (hg : PGi X tg g) (hb : PSsi X body tb) (hs : ∀ x, foldedSetIterable iter X.env x = pure x := by intro _; rfl) : PSi X (.For tg iter body [] pos) (tFor wi g tb) := by with_unfolding_all exact ps_for (hp := hp) (hc := hc) (hi := hi) (hg := hg) (hb := hb) (hs := hs)
theorem ps_compSI  {tg elt iter : Expr} {os : List Str} {i : Nat} {y : Str} {py pos spos : Pos} {scope : Scope} {wi : TI} {g : TG} {te : TE} {caps : List (Nat × Str)} (N : List Str) (sc : Scope) (hNd : X.N.Nodup) (hy : X.N[i]? = some y) (hl : X.env.kindOf y = some .local) (hi : PIi X tg iter wi) (hg : ∀ cl C s0 H0 fp, PGi (cxComp X scope cl (os ++ caps.map (·.2)) C s0 H0 fp) tg g) (he : ∀ cl C s0 H0 fp, PEi (cxComp X scope cl (os ++ caps.map (·.2)) C s0 H0 fp) elt te) (ok : compOk N sc scope caps = true) (hN : X.N = N := by rfl) (hsc : X.env.scope = sc := by rfl) (hc : X.calm = true := by rfl) (hfs : ∀ v, foldedSetIterable iter X.env v = pure v := by intro _; rfl) (hsw : swapsWith (.ListComp elt [⟨tg, iter, [], 0⟩] scope pos) (some (.Name y py)) spos.line X.env = pure true := by rfl) : PSi X (.Assign [.Name y py] (.ListComp elt [⟨tg, iter, [], 0⟩] scope pos) spos) (tAsg (tCompG os.length wi g te (caps.map (·.1))) (gName i)) := by with_unfolding_all exact ps_compS (N := N) (sc := sc) (hNd := hNd) (hy := hy) (hl := hl) (hi := hi) (hg := hg) (he := he) (ok := ok) (hN := hN) (hsc := hsc) (hc := hc) (hfs := hfs) (hsw := hsw)
theorem pg_nameI  {i : Nat} {x : Str} (hN : X.N.Nodup) (hi : X.N[i]? = some x) (hx : Loc X.env.scope x) (hf : X.fn x = true ∨ X.env.scope.names.lookup x = some .local := by first | exact .inl rfl | exact .inr rfl | assumption) : PGi X (.Name x pos) (gName i) := by with_unfolding_all exact pg_name (hN := hN) (hi := hi) (hx := hx) (hf := hf)
theorem pgs_nilI   : PGsi X [] gNil := by with_unfolding_all exact pgs_nil 
theorem pgs_consI  {e : Expr} {es : List Expr} {t : TG} {u : TGs} (h1 : PGi X e t) (h2 : PGsi X es u) (hs : (assignEach (e :: es) X.env).map (·.2) = assign e X.env :: (assignEach es X.env).map (·.2) := by rfl) : PGsi X (e :: es) (gCons t u) := by with_unfolding_all exact pgs_cons (h1 := h1) (h2 := h2) (hs := hs)
theorem pg_tupKI  (K : PySem.W.Frag) {es : List Expr} {k : Nat} {t : TGs} {n : Nat} {pos : Pos} (hc : X.calm = true) (h : PGsi X es t) (hK : X.K = K := by rfl) (hn : (assignEach es X.env).length = n := by rfl) (hst : (assignEach es X.env).findIdx? (·.1) = none := by rfl) : PGi X (.Tuple es k pos) (gTup K n t) := by with_unfolding_all exact pg_tupK (K := K) (hc := hc) (h := h) (hK := hK) (hn := hn) (hst := hst)
theorem pg_subI  {o i : Expr} {to ti : TE} {t : TSet} (ho : PEi X o to) (hi : PEi X i ti) (hs : PSet X t) (ha : ∀ v, assign (.Subscript o i pos) X.env v = (do
      let ov ← holding [v] (eval o X.env)
      let iv ← holding [v, ov] (eval i X.env)
      standAt pos
      holding [v, ov, iv] (setItem ov iv v)
      release [v, ov, iv] []) := by intro _; rfl) : PGi X (.Subscript o i pos) (gSub to ti t) := by with_unfolding_all exact pg_sub (ho := ho) (hi := hi) (hs := hs) (ha := ha)
theorem pi_listI  {l : Expr} {tl : TE} (hl : PEi X l tl) : PIi X tg l (iList X.K tl) := by with_unfolding_all exact pi_list (hl := hl)
theorem pi_tupI  {l : Expr} {tl : TE} (hl : PEi X l tl) : PIi X tg l (iTup X.K tl) := by with_unfolding_all exact pi_tup (hl := hl)
theorem pi_range1I  {a : Expr} {ta : TA} {p pos : Pos} (hg : Gl X "range") (hm : X.mg "range" = none) (ha : PAi X [a] ta) (hs : starEach [a] X.env = [(false, eval a X.env)] := by rfl) : PIi X tg (.Call (.Name "range" p) [a] [] pos) (iRng1 ta) := by with_unfolding_all exact pi_range1 (hg := hg) (hm := hm) (ha := ha) (hs := hs)
theorem pi_zipI  {a b : Expr} {ta : TA} {p pos ppos : Pos} {elts : List Expr} {k0 : Nat} (hg : Gl X "zip") (hm : X.mg "zip" = none) (ha : PAi X [a, b] ta) (he : starEach [a, b] X.env = (false, eval a X.env) :: starEach [b] X.env := by rfl) (hpl : (backTo pos (starEach [b] X.env)).any (·.1) = false := by rfl) : PIi X (.Tuple elts k0 ppos) (.Call (.Name "zip" p) [a, b] [] pos) (iZip X.K ta) := by with_unfolding_all exact pi_zip (hg := hg) (hm := hm) (ha := ha) (he := he) (hpl := hpl)
theorem po_noneI   : POi X none tNoPart := by with_unfolding_all exact po_none 
theorem po_someI  (h : PEi X e te) : POi X (some e) (tPart te) := by with_unfolding_all exact po_some (h := h)
theorem def_okI {P : Program} {w : World} {K : PySem.W.Frag} {mg : Str → Option Value} {base : Heap} {x : Str} {st : Stmt} {N ps : List Str} {k : Nat} {sp : Sp} (F : FunAt K mg x st ps) (S : FnScope N ps (defScope st)) (len : ∀ vs H Q E, sp vs H Q E → vs.length = ps.length) (hbody : ∀ (f : Addr) (cdv : Value) (A : Around) (outer : List Env) (s : Shared) (H : Hp) (vs : List V) (Q : VK) (E : XK), Room k (A.deeper (envOfC x (defScope st) s.heap.objs.size f cdv)) → sp vs H Q E →
      ∃ t, PSsi (cxOf CX0 P w K mg base N x (defScope st) f cdv A outer s H E).nox (defBody st) t ∧ t { nx := fun _ H' => Q .non H', rt := Q } (start N vs) H) : DefOk P w K mg base CX0 (k + 1) x ps sp := by with_unfolding_all exact def_ok (F := F) (S := S) (len := len) (hbody := hbody)
end
end Cv

namespace Cv
open PySem PySem.Spec PyProof.Rows L2
/-- a def's body read in two parts: the second one is hidden while the first one is read -/
theorem if_mergeN {c : Bool} {body : TS} {D : Ends} {σ : L2.St} {H : Hp} (S : L2.St → Hp → Prop) (h : ∀ σ' H', S σ' H' → D.nx σ' H') (h1 : ∀ N : L2.St → Hp → Prop, (∀ σ' H', S σ' H' → N σ' H') → c = true → body { D with nx := N } σ H) (h2 : c = false → S σ H) : if c = true then body D σ H else tNext D σ H := by
  cases c with
  | true => rw [if_pos rfl]; exact h1 D.nx h rfl
  | false => rw [if_neg Bool.false_ne_true]; exact h σ H (h2 rfl)
theorem uln0 {α : Type} {P : List α → Prop} (h : P []) : ∀ us : List α, us.length = 0 → P us
  | [], _ => h
theorem ulnS {α : Type} {n : Nat} {P : List α → Prop} (h : ∀ a, ∀ us : List α, us.length = n → P (a :: us)) : ∀ us : List α, us.length = n + 1 → P us
  | [], e => nomatch e
  | a :: us, e => h a us (Nat.succ.inj e)
@[elab_as_elim] theorem uln1 {α : Type} {P : List α → Prop} (h : ∀ a, P [a]) (us : List α) (hl : us.length = 1) : P us := (ulnS fun a => uln0 (h a)) us hl
@[elab_as_elim] theorem uln2 {α : Type} {P : List α → Prop} (h : ∀ a b, P [a, b]) (us : List α) (hl : us.length = 2) : P us := (ulnS fun a => ulnS fun b => uln0 (h a b)) us hl
@[elab_as_elim] theorem uln3 {α : Type} {P : List α → Prop} (h : ∀ a b c, P [a, b, c]) (us : List α) (hl : us.length = 3) : P us := (ulnS fun a => ulnS fun b => ulnS fun c => uln0 (h a b c)) us hl
@[elab_as_elim] theorem uln4 {α : Type} {P : List α → Prop} (h : ∀ a b c d, P [a, b, c, d]) (us : List α) (hl : us.length = 4) : P us := (ulnS fun a => ulnS fun b => ulnS fun c => ulnS fun d => uln0 (h a b c d)) us hl
end Cv

namespace Cv
open PySem PySem.Spec PyProof.Rows L2
/-! ### points and steps -/
noncomputable def PtV (H : Hp) (v : V) (x y : Rat) : Prop := ∃ a vx vy, v = .ref a ∧ H a = some (.tup [vx, vy]) ∧ ShV H vx x ∧ ShV H vy y
theorem PtV.same {H H' : Hp} {v : V} {x y : Rat} (h : PtV H v x y) (e : Same H H') : PtV H' v x y := by
  obtain ⟨a, vx, vy, rfl, h, h1, h2⟩ := h
  exact ⟨a, vx, vy, rfl, e _ _ h, h1.same e, h2.same e⟩
end Cv
namespace Cv
open PySem PySem.Spec PyProof.Rows L2
/-! ### pairs that are not in lowest terms, as the law reckons them -/
noncomputable def RwV (H : Hp) (v : V) (t b : Int) : Prop := ∃ a, v = .ref a ∧ H a = some (.tup [.int t, .int b])
theorem RwV.same {H H' : Hp} {v : V} {t b : Int} (h : RwV H v t b) (e : Same H H') : RwV H' v t b := by
  obtain ⟨a, rfl, h⟩ := h
  exact ⟨a, rfl, e _ _ h⟩
theorem ShV.rw {H : Hp} {v : V} {q : Rat} (h : ShV H v q) : RwV H v q.num q.den := h
end Cv

namespace Cv
open PySem PySem.Spec PyProof.Rows L2
theorem upd_keep {H : Hp} {p b : Addr} {o x : HO} (h : H p = none) (e : H b = some x) : upd H p o b = some x := by rw [upd_ne (ne_of_none e h)]; exact e
theorem Bd.zero' : Bd 1 (0 : Rat) := ⟨⟨by decide⟩, ⟨by decide⟩⟩
theorem Bd.one' : Bd 1 (1 : Rat) := ⟨⟨by decide⟩, ⟨by decide⟩⟩
theorem PtV.tup {H H' : Hp} {v : V} {x y : Rat} (h : PtV H v x y) (e : Tup H H') : PtV H' v x y := by
  obtain ⟨a, vx, vy, rfl, h, h1, h2⟩ := h
  exact ⟨a, vx, vy, rfl, e _ _ h, h1.tup e, h2.tup e⟩
theorem RwV.tup {H H' : Hp} {v : V} {x y : Int} (h : RwV H v x y) (e : Tup H H') : RwV H' v x y := by
  obtain ⟨a, rfl, h⟩ := h
  exact ⟨a, rfl, e _ _ h⟩
theorem SqL.same' {K : PySem.W.Frag} {H H' : Hp} {a : Addr} {xs : List V} (h : SqL K H a xs) (e : Same H H') : SqL K H' a xs := e.seq h
theorem SqT.same' {K : PySem.W.Frag} {H H' : Hp} {a : Addr} {xs : List V} (h : SqT K H a xs) (e : Same H H') : SqT K H' a xs := SqT.same e h
end Cv

namespace Cv
open PySem PySem.Spec PyProof.Rows L2
/-! ### pairs not in lowest terms, by what they are worth -/
noncomputable def RwQ (H : Hp) (v : V) (r : Rat) (n : Nat) : Prop := ∃ t b : Int, RwV H v t b ∧ 0 < b ∧ (t : Rat) = r * (b : Rat) ∧ Sz n t ∧ Sz n b
theorem RwQ.same {H H' : Hp} {v : V} {r : Rat} {n : Nat} (h : RwQ H v r n) (e : Same H H') : RwQ H' v r n := by
  obtain ⟨t, b, h1, h2⟩ := h
  exact ⟨t, b, h1.same e, h2⟩
theorem RwQ.tup {H H' : Hp} {v : V} {r : Rat} {n : Nat} (h : RwQ H v r n) (e : Tup H H') : RwQ H' v r n := by
  obtain ⟨t, b, h1, h2⟩ := h
  exact ⟨t, b, h1.tup e, h2⟩
theorem mulN {n m : Nat} {i j : Int} (h1 : Sz n i) (h2 : Sz m j) (h : n + m ≤ 100000000) : CMulA i j := mulB h1 h2 h
end Cv

namespace Cv
/-! ### curves by rows, over Rat -/
noncomputable abbrev Pt := Rat × Rat
noncomputable def btw (t a b : Rat) : Rat := a + t * (b - a)
noncomputable def btwP (t : Rat) (p q : Pt) : Pt := (btw t p.1 q.1, btw t p.2 q.2)
noncomputable def nxP (t : Rat) (ps : List Pt) : List Pt := List.zipWith (btwP t) ps (ps.drop 1)
noncomputable def rowP (t : Rat) (ps : List Pt) : Nat → List Pt
  | 0 => ps
  | r + 1 => nxP t (rowP t ps r)
theorem nxP_len (t : Rat) (ps : List Pt) : (nxP t ps).length = ps.length - 1 := by
  unfold nxP
  rw [List.length_zipWith, List.length_drop]
  omega
theorem nxP_get (t : Rat) (ps : List Pt) (i : Nat) {p q : Pt} (h1 : ps[i]? = some p) (h2 : ps[i + 1]? = some q) : (nxP t ps)[i]? = some (btwP t p q) := by
  unfold nxP
  rw [List.getElem?_zipWith, List.getElem?_drop, h1, Nat.add_comm 1 i, h2]
theorem rowP_len (t : Rat) (ps : List Pt) : ∀ r, (rowP t ps r).length = ps.length - r
  | 0 => rfl
  | r + 1 => by
    show (nxP t (rowP t ps r)).length = _
    rw [nxP_len, rowP_len t ps r]
    omega
/-- the curve's point -/
noncomputable def ptP (t : Rat) (ps : List Pt) : Pt := ((rowP t ps (ps.length - 1))[0]?).getD (0, 0)
theorem ptP_get (t : Rat) (ps : List Pt) (h : 1 ≤ ps.length) : rowP t ps (ps.length - 1) = [ptP t ps] := by
  have hl := rowP_len t ps (ps.length - 1)
  have e : (rowP t ps (ps.length - 1)).length = 1 := by omega
  match hq : rowP t ps (ps.length - 1), e with
  | [x], _ => unfold ptP; rw [hq]; rfl
/-! ### sizes: tops over one bottom -/
noncomputable def Ov (D : Int) (n : Nat) (x : Rat) : Prop := ∃ m : Int, x * (D : Rat) = (m : Rat) ∧ Sz n m
theorem Ov.mono {D : Int} {n k : Nat} {x : Rat} (h : Ov D n x) (hk : n ≤ k) : Ov D k x := by
  obtain ⟨m, e, z⟩ := h
  exact ⟨m, e, z.mono hk⟩
theorem Ov.bd {D : Int} {n d : Nat} {x : Rat} (h : Ov D n x) (hD : D ≠ 0) (hd : Sz d D) : Bd (max n d) x := by
  obtain ⟨m, e, z⟩ := h
  rw [eq_divInt hD e]
  exact Bd.of z hd hD
theorem Ov.add {D E : Int} {n m d e : Nat} {x y : Rat} (hx : Ov D n x) (hy : Ov E m y) (hd : Sz d D) (he : Sz e E) : Ov (D * E) (max (n + e) (m + d) + 1) (x + y) := by
  obtain ⟨m1, e1, z1⟩ := hx
  obtain ⟨m2, e2, z2⟩ := hy
  refine ⟨m1 * E + m2 * D, ?_, ?_⟩
  · simp only [Rat.intCast_add, Rat.intCast_mul]
    rw [← e1, ← e2]; grind
  · exact ((z1.mul he).add (z2.mul hd)).mono (by omega)
theorem Ov.mul {D E : Int} {n m : Nat} {x y : Rat} (hx : Ov D n x) (hy : Ov E m y) : Ov (D * E) (n + m) (x * y) := by
  obtain ⟨m1, e1, z1⟩ := hx
  obtain ⟨m2, e2, z2⟩ := hy
  refine ⟨m1 * m2, ?_, z1.mul z2⟩
  simp only [Rat.intCast_mul]
  rw [← e1, ← e2]; grind
noncomputable def OvP (D : Int) (n : Nat) (p : Pt) : Prop := Ov D n p.1 ∧ Ov D n p.2
theorem sz_pow {a : Nat} {x : Int} (h : Sz a x) : ∀ r : Nat, Sz (r * a + 1) (x ^ r)
  | 0 => ⟨by simp⟩
  | r + 1 => by
    rw [Int.pow_succ]
    exact ((sz_pow h r).mul h).mono (by rw [Nat.succ_mul]; omega)
theorem pow_pos' {x : Int} (h : 0 < x) : ∀ r : Nat, 0 < x ^ r
  | 0 => by simp
  | r + 1 => by rw [Int.pow_succ]; exact Int.mul_pos (pow_pos' h r) h
end Cv

namespace Cv
open PySem PySem.Spec PyProof.Rows L2
/-! ### lists of points -/
structure PtsV (H : Hp) (vs : List V) (ps : List Pt) : Prop where
  len : vs.length = ps.length
  get : ∀ (i : Nat) v p, vs[i]? = some v → ps[i]? = some p → PtV H v p.1 p.2
theorem PtsV.tup {H H' : Hp} {vs : List V} {ps : List Pt} (h : PtsV H vs ps) (t : Tup H H') : PtsV H' vs ps := ⟨h.len, fun i v p e1 e2 => (h.get i v p e1 e2).tup t⟩
theorem PtsV.same {H H' : Hp} {vs : List V} {ps : List Pt} (h : PtsV H vs ps) (t : Same H H') : PtsV H' vs ps := h.tup t.tup
theorem PtsV.nil (H : Hp) : PtsV H [] [] := ⟨rfl, fun i v p e _ => by simp at e⟩
theorem PtsV.snoc {H : Hp} {vs : List V} {ps : List Pt} {v : V} {p : Pt} (h : PtsV H vs ps) (hv : PtV H v p.1 p.2) : PtsV H (vs ++ [v]) (ps ++ [p]) := by
  refine ⟨by simp [h.len], fun i w q e1 e2 => ?_⟩
  by_cases hi : i < vs.length
  · rw [List.getElem?_append_left hi] at e1
    rw [List.getElem?_append_left (by rw [← h.len]; exact hi)] at e2
    exact h.get i w q e1 e2
  · rw [List.getElem?_append_right (by omega)] at e1
    rw [List.getElem?_append_right (by rw [← h.len]; omega), ← h.len] at e2
    cases hk : i - vs.length with
    | zero =>
      rw [hk] at e1 e2
      simp at e1 e2
      subst e1 e2
      exact hv
    | succ k => rw [hk] at e1; simp at e1
theorem PtsV.at {H : Hp} {vs : List V} {ps : List Pt} (h : PtsV H vs ps) {i : Nat} {p : Pt} (hp : ps[i]? = some p) : ∃ v, vs[i]? = some v ∧ PtV H v p.1 p.2 := by
  have hi : i < ps.length := (List.getElem?_eq_some_iff.mp hp).1
  have e : vs[i]? = some (vs[i]'(by rw [h.len]; exact hi)) := List.getElem?_eq_getElem _
  exact ⟨_, e, h.get i _ p e hp⟩
theorem PtsV.of {H : Hp} {vs : List V} {ps : List Pt} (hl : vs.length = ps.length) (h : ∀ (i : Nat) v p, vs[i]? = some v → ps[i]? = some p → PtV H v p.1 p.2) : PtsV H vs ps := ⟨hl, h⟩
noncomputable def datPt (p : Pt) : PySem.W.Dat := .tuple [datSh p.1, datSh p.2]
noncomputable def datPts (ps : List Pt) : PySem.W.Dat := .list (ps.map datPt)
theorem datPt_ok (p : Pt) (n : Nat) : PySem.W.kqdOk (n + 2) (datPt p) = true := by
  have h1 := datSh_ok p.1 n
  have h2 := datSh_ok p.2 n
  simp [datPt, PySem.W.kqdOk, h1, h2]
theorem datPts_ok (ps : List Pt) (n : Nat) : PySem.W.kqdOk (n + 3) (datPts ps) = true := by
  have h : ∀ p : Pt, PySem.W.kqdOk (n + 2) (datPt p) = true := fun p => datPt_ok p n
  simp [datPts, PySem.W.kqdOk, h]
theorem PtV.dn {K : PySem.W.Frag} {H : Hp} {v : V} {p : Pt} (h : PtV H v p.1 p.2) : Dn K H (datPt p) v := by
  obtain ⟨a, vx, vy, rfl, h, h1, h2⟩ := h
  unfold datPt
  simp only [Dn, DnAll]
  exact ⟨a, _, rfl, SqT.of h, _, _, rfl, h1.dn, _, _, rfl, h2.dn, rfl⟩
theorem dnAll_pts {K : PySem.W.Frag} {H : Hp} : ∀ {ps : List Pt} {vs : List V}, PtsV H vs ps → DnAll K H (ps.map datPt) vs
  | [], vs, h => by
    have : vs = [] := List.length_eq_zero_iff.mp h.len
    subst this
    simp [DnAll]
  | p :: ps, vs, h => by
    cases vs with
    | nil => have := h.len; simp at this
    | cons v vs =>
      simp only [List.map_cons, DnAll]
      exact ⟨v, vs, rfl, (h.get 0 v p rfl rfl).dn, dnAll_pts ⟨by have := h.len; simpa using this, fun i w q e1 e2 => h.get (i + 1) w q (by simpa using e1) (by simpa using e2)⟩⟩
theorem PtsV.dn {K : PySem.W.Frag} {H : Hp} {a : Addr} {vs : List V} {ps : List Pt} (h : PtsV H vs ps) (hs : SqL K H a vs) : Dn K H (datPts ps) (.ref a) := by
  unfold datPts
  simp only [Dn]
  exact ⟨a, vs, rfl, hs, dnAll_pts h⟩
/-! ### promises of the law's helpers -/
theorem atI_last' {α : Type} (xs : List α) (v : α) (h : xs[xs.length - 1]? = some v) (hl : 1 ≤ xs.length) : atI xs (-1) = some v := by
  rcases List.eq_nil_or_concat xs with rfl | ⟨ys, y, rfl⟩
  · simp at hl
  · have : (ys ++ [y])[ys.length]? = some v := by simpa using h
    have e : y = v := by simpa using this
    subst e
    have := atI_last ys y
    simpa using this
theorem atI_nat' {α : Type} {xs : List α} {j : Nat} {i : Int} {v : α} (e : i = (j : Int)) (h : xs[j]? = some v) : atI xs i = some v := by subst e; exact atI_nat h
end Cv

namespace Cv
open PySem PySem.Spec PyProof.Rows L2
theorem cut_from {α : Type} (f : α → V) (xs : List α) (k : Nat) (h : k ≤ xs.length) : cutV (xs.map f) (some (k : Int)) none = (xs.drop k).map f := by
  unfold cutV
  have e : HT.sIx (xs.map f).length 0 (some (k : Int)) = k := by
    have := HT.sIx_nat (xs.map f).length 0 k
    rw [List.length_map] at this
    rw [List.length_map]
    exact this.trans (by omega)
  rw [e, HT.sIx_none, ← List.map_drop]
  refine List.take_of_length_le ?_
  rw [List.length_map, List.length_drop, List.length_map]
  omega
theorem cut_fromI {α : Type} (f : α → V) (xs : List α) (k : Int) (n : Nat) (e : k = (n : Int)) (h : n ≤ xs.length) : cutV (xs.map f) (some k) none = (xs.drop n).map f := by subst e; exact cut_from f xs n h
theorem ov_divInt {B m : Int} {n : Nat} (hB : B ≠ 0) (h : Sz n m) : Ov B n (Rat.divInt m B) := by
  refine ⟨m, ?_, h⟩
  rw [Rat.divInt_eq_div]
  have hb' : (B : Rat) ≠ 0 := by
    intro z
    exact hB (by exact_mod_cast z)
  grind
/-- an item of a written table of numbers, and its bounds -/
theorem sh_int (i : Int) : ((i : Rat).num = i) ∧ ((i : Rat).den = 1) := ⟨by simp, by simp⟩
theorem ShV.int {H : Hp} {a : Addr} {i : Int} (h : H a = some (.tup [.int i, .int 1])) : ShV H (.ref a) (i : Rat) := ⟨a, rfl, by rw [(sh_int i).1, (sh_int i).2]; exact h⟩
theorem Bd.intc {n : Nat} {i : Int} (h : Sz (n + 1) i) : Bd (n + 1) (i : Rat) := ⟨by rw [(sh_int i).1]; exact h, by rw [(sh_int i).2]; exact Sz.one.mono (by omega)⟩
theorem all_true (n : Nat) : (List.replicate n true).all id = true := by
  induction n with
  | zero => rfl
  | succ n ih => simp [List.replicate_succ]
end Cv

namespace Cv
open PySem PySem.Spec PyProof.Rows L2
/-! ### maps -/
structure Mp where
  a : Rat
  b : Rat
  c : Rat
  d : Rat
  e : Rat
  f : Rat
noncomputable def MpV (H : Hp) (v : V) (m : Mp) : Prop := ∃ x v0 v1 v2 v3 v4 v5, v = .ref x ∧ H x = some (.tup [v0, v1, v2, v3, v4, v5]) ∧ ShV H v0 m.a ∧ ShV H v1 m.b ∧ ShV H v2 m.c ∧ ShV H v3 m.d ∧ ShV H v4 m.e ∧ ShV H v5 m.f
theorem MpV.tup {H H' : Hp} {v : V} {m : Mp} (h : MpV H v m) (t : Tup H H') : MpV H' v m := by
  obtain ⟨x, v0, v1, v2, v3, v4, v5, rfl, h, h0, h1, h2, h3, h4, h5⟩ := h
  exact ⟨x, v0, v1, v2, v3, v4, v5, rfl, t _ _ h, h0.tup t, h1.tup t, h2.tup t, h3.tup t, h4.tup t, h5.tup t⟩
theorem MpV.same {H H' : Hp} {v : V} {m : Mp} (h : MpV H v m) (t : Same H H') : MpV H' v m := h.tup t.tup
/-! the mathematics -/
/-! shares in a list, each of a bounded size -/
noncomputable def ShsV (n : Nat) (H : Hp) (vs : List V) : Prop := ∀ (i : Nat) v, vs[i]? = some v → ∃ q, ShV H v q ∧ Bd n q
theorem ShsV.tup {n : Nat} {H H' : Hp} {vs : List V} (h : ShsV n H vs) (t : Tup H H') : ShsV n H' vs := fun i v e => let ⟨q, w, b⟩ := h i v e; ⟨q, w.tup t, b⟩
theorem ShsV.mono {n m : Nat} {H : Hp} {vs : List V} (h : ShsV n H vs) (hm : n ≤ m) : ShsV m H vs := fun i v e => let ⟨q, w, b⟩ := h i v e; ⟨q, w, b.mono hm⟩
theorem same_upd {H H' : Hp} {D : Addr} {o : HO} (h : H D = none) (s : Same H H') : Same H (upd H' D o) := fun b u e => by rw [upd_ne (ne_of_none e h)]; exact s b u e
theorem PtsV.one {H : Hp} {v : V} {p : Pt} (h : PtV H v p.1 p.2) : PtsV H [v] [p] := ⟨rfl, fun i w q e1 e2 => by
  cases i with
  | zero => simp at e1 e2; subst e1 e2; exact h
  | succ i => simp at e1⟩
theorem dnP {K : PySem.W.Frag} {H : Hp} {a : Addr} {vs : List V} {ps : List Pt} (hs : H a = some (.lst vs)) (h : PtsV H vs ps) : Dn K H (datPts ps) (.ref a) := h.dn (SqL.of hs)
end Cv

namespace Cv
/-! ### axes: tops over all the bottoms -/
noncomputable def prodI : List Int → Int
  | [] => 1
  | b :: r => b * prodI r
theorem prodI_append (xs ys : List Int) : prodI (xs ++ ys) = prodI xs * prodI ys := by
  induction xs with
  | nil => simp [prodI]
  | cons x r ih => simp only [List.cons_append, prodI, ih, Int.mul_assoc]
theorem prodI_snoc (xs : List Int) (y : Int) : prodI (xs ++ [y]) = prodI xs * y := by rw [prodI_append]; simp [prodI]
theorem prodI_pos {xs : List Int} (h : ∀ x ∈ xs, 0 < x) : 0 < prodI xs := by
  induction xs with
  | nil => decide
  | cons x r ih => exact Int.mul_pos (h x (.head _)) (ih fun y hy => h y (.tail _ hy))
noncomputable def axR (tops bs : List Int) : List Rat := tops.map fun x => Rat.divInt x (prodI bs)
/-! ### lowest terms, bottom by bottom -/
theorem int_dvd {y x u : Int} (hc : Int.gcd y x = 1) (h : y ∣ x * u) : y ∣ u := by
  have h2 : y.natAbs ∣ x.natAbs * u.natAbs := by rw [← Int.natAbs_mul]; exact Int.natAbs_dvd_natAbs.mpr h
  exact Int.natAbs_dvd_natAbs.mp (Nat.Coprime.dvd_of_dvd_mul_left hc h2)
theorem gcd_parts (a b : Int) (hb : 0 < b) : ∃ g x y : Int, (Int.gcd a b : Int) = g ∧ 0 < g ∧ a = g * x ∧ b = g * y ∧ Int.gcd x y = 1 ∧ 0 < y ∧ a.fdiv g = x ∧ b.fdiv g = y := by
  have g0 : 0 < (Int.gcd a b : Int) := by
    have := Int.gcd_pos_of_ne_zero_right a (show b ≠ 0 by omega)
    omega
  obtain ⟨x, hx⟩ : (Int.gcd a b : Int) ∣ a := Int.gcd_dvd_left ..
  obtain ⟨y, hy⟩ : (Int.gcd a b : Int) ∣ b := Int.gcd_dvd_right ..
  have hc : Int.gcd x y = 1 := by
    have h1 : Int.gcd a b = Int.gcd ((Int.gcd a b : Int) * x) ((Int.gcd a b : Int) * y) := by rw [← hx, ← hy]
    rw [Int.gcd_mul_left, Int.natAbs_natCast] at h1
    have h2 : 0 < Int.gcd a b := by omega
    have h3 : Int.gcd a b * 1 = Int.gcd a b * Int.gcd x y := by rw [Nat.mul_one]; exact h1
    exact (Nat.eq_of_mul_eq_mul_left h2 h3).symm
  generalize (Int.gcd a b : Int) = g at g0 hx hy
  have hyp : 0 < y := by
    rw [hy] at hb
    rcases Int.lt_trichotomy y 0 with h | h | h
    · have := Int.mul_neg_of_pos_of_neg g0 h; omega
    · rw [h, Int.mul_zero] at hb; omega
    · exact h
  refine ⟨g, x, y, rfl, g0, hx, hy, hc, hyp, ?_, ?_⟩
  · rw [Int.fdiv_eq_ediv_of_nonneg _ (Int.le_of_lt g0), hx]
    exact Int.mul_ediv_cancel_left _ (by omega)
  · rw [Int.fdiv_eq_ediv_of_nonneg _ (Int.le_of_lt g0), hy]
    exact Int.mul_ediv_cancel_left _ (by omega)
theorem over_step {top below b : Int} (hb : 0 < b) (hbe : 0 < below) (hg : Int.gcd top below = 1) :
    Int.gcd (top.fdiv (Int.gcd top b)) (below * b.fdiv (Int.gcd top b)) = 1 ∧ 0 < below * b.fdiv (Int.gcd top b) ∧ top.fdiv (Int.gcd top b) * b = top * b.fdiv (Int.gcd top b) ∧ 0 < (Int.gcd top b : Int) ∧ (Int.gcd top b : Int) ∣ b := by
  obtain ⟨g, x, y, eg, g0, hx, hy, hc, hyp, ex, ey⟩ := gcd_parts top b hb
  rw [eg, ex, ey]
  refine ⟨?_, Int.mul_pos hbe hyp, ?_, g0, ⟨y, hy⟩⟩
  · have h1 : Int.gcd x below = 1 := by
      have d1 : ((Int.gcd x below : Nat) : Int) ∣ top := Int.dvd_trans (Int.gcd_dvd_left ..) ⟨g, by rw [hx]; exact Int.mul_comm ..⟩
      have d2 : ((Int.gcd x below : Nat) : Int) ∣ below := Int.gcd_dvd_right ..
      have d3 : Int.gcd x below ∣ Int.gcd top below := Nat.dvd_gcd (by simpa using Int.natAbs_dvd_natAbs.mpr d1) (by simpa using Int.natAbs_dvd_natAbs.mpr d2)
      rw [hg] at d3
      exact Nat.dvd_one.mp d3
    show Nat.gcd x.natAbs (below * y).natAbs = 1
    rw [Int.natAbs_mul]
    exact Nat.Coprime.mul_right (show Nat.Coprime x.natAbs below.natAbs from h1) (show Nat.Coprime x.natAbs y.natAbs from hc)
  · rw [hx, hy]; grind
theorem low_unique {top below P T : Int} (hb : 0 < below) (hP : 0 < P) (hg : Int.gcd top below = 1) (e : top * P = T * below) : (Rat.divInt T P).num = top ∧ ((Rat.divInt T P).den : Int) = below := by
  have hc : Nat.Coprime top.natAbs below.natAbs := hg
  have hc' : Nat.Coprime top.natAbs below.toNat := by
    have : below.toNat = below.natAbs := by omega
    rw [this]; exact hc
  have q : (⟨top, below.toNat, by omega, hc'⟩ : Rat) = Rat.divInt T P := by
    rw [Rat.mk_eq_divInt]
    have e2 : ((below.toNat : Nat) : Int) = below := by omega
    rw [e2]
    exact (Rat.divInt_eq_divInt_iff (by omega) (by omega)).mpr e
  rw [← q]
  exact ⟨rfl, by show ((below.toNat : Nat) : Int) = below; omega⟩
/-! ### a common bottom -/
theorem den_dvd {q : Rat} {D : Int} {n : Nat} (h : Ov D n q) : (q.den : Int) ∣ D := by
  obtain ⟨m, e, _⟩ := h
  have h1 := num_cast q
  have hd := den_cast_ne q
  have e2 : (q.num : Rat) * (D : Rat) = (m : Rat) * ((q.den : Int) : Rat) := by rw [h1, ← e]; grind
  have e3 : q.num * D = m * q.den := by exact_mod_cast e2
  have hr : Int.gcd q.den q.num = 1 := by rw [Int.gcd_comm]; exact q.reduced
  exact int_dvd hr ⟨m, by rw [e3]; exact Int.mul_comm ..⟩
theorem lcm_step {W d D : Int} (hd : 0 < d) (h1 : W ∣ D) (h2 : d ∣ D) : d ∣ W * d.fdiv (Int.gcd W d) ∧ W * d.fdiv (Int.gcd W d) ∣ D ∧ 0 < d.fdiv (Int.gcd W d) ∧ 0 < (Int.gcd W d : Int) ∧ (Int.gcd W d : Int) ∣ d := by
  obtain ⟨g, x, y, eg, g0, hx, hy, hc, hyp, ex, ey⟩ := gcd_parts W d hd
  rw [eg, ey]
  refine ⟨⟨x, by rw [hx, hy]; grind⟩, ?_, hyp, g0, ⟨y, hy⟩⟩
  obtain ⟨u, hu⟩ := h1
  obtain ⟨v, hv⟩ := h2
  have e : x * u = y * v := by
    have : g * (x * u) = g * (y * v) := by rw [← Int.mul_assoc, ← Int.mul_assoc, ← hx, ← hy, ← hu, hv]
    exact Int.eq_of_mul_eq_mul_left (by omega) this
  obtain ⟨w, hw⟩ := int_dvd (y := y) (x := x) (u := u) (by rw [Int.gcd_comm]; exact hc) ⟨v, e⟩
  exact ⟨w, by rw [hu, hw]; grind⟩
theorem sz_dvd {n : Nat} {x D : Int} (hD : D ≠ 0) (h : x ∣ D) (z : Sz n D) : Sz n x := z.le (Nat.le_of_dvd (by omega) (Int.natAbs_dvd_natAbs.mpr h))
end Cv

namespace Cv
open PySem PySem.Spec PyProof.Rows L2
/-! ### lists of shares, axes -/
structure ShL (H : Hp) (vs : List V) (qs : List Rat) : Prop where
  len : vs.length = qs.length
  get : ∀ (i : Nat) v q, vs[i]? = some v → qs[i]? = some q → ShV H v q
theorem ShL.tup {H H' : Hp} {vs : List V} {qs : List Rat} (h : ShL H vs qs) (t : Tup H H') : ShL H' vs qs := ⟨h.len, fun i v q e1 e2 => (h.get i v q e1 e2).tup t⟩
theorem ShL.same {H H' : Hp} {vs : List V} {qs : List Rat} (h : ShL H vs qs) (t : Same H H') : ShL H' vs qs := h.tup t.tup
theorem ShL.at {H : Hp} {vs : List V} {qs : List Rat} (h : ShL H vs qs) {i : Nat} {q : Rat} (hq : qs[i]? = some q) : ∃ v, vs[i]? = some v ∧ ShV H v q := by
  have hi : i < qs.length := (List.getElem?_eq_some_iff.mp hq).1
  have e : vs[i]? = some (vs[i]'(by rw [h.len]; exact hi)) := List.getElem?_eq_getElem _
  exact ⟨_, e, h.get i _ q e hq⟩
theorem ShL.atV {H : Hp} {vs : List V} {qs : List Rat} (h : ShL H vs qs) {i : Nat} {v : V} (hv : vs[i]? = some v) : ∃ q, qs[i]? = some q ∧ ShV H v q := by
  have hi : i < vs.length := (List.getElem?_eq_some_iff.mp hv).1
  have e : qs[i]? = some (qs[i]'(by rw [← h.len]; exact hi)) := List.getElem?_eq_getElem _
  exact ⟨_, e, h.get i v _ hv e⟩
theorem PtsV.atV {H : Hp} {vs : List V} {ps : List Pt} (h : PtsV H vs ps) {i : Nat} {v : V} (hv : vs[i]? = some v) : ∃ p, ps[i]? = some p ∧ PtV H v p.1 p.2 := by
  have hi : i < vs.length := (List.getElem?_eq_some_iff.mp hv).1
  have e : ps[i]? = some (ps[i]'(by rw [← h.len]; exact hi)) := List.getElem?_eq_getElem _
  exact ⟨_, e, h.get i v _ hv e⟩
noncomputable def AxV (H : Hp) (v : V) (n : Nat) (tops bs : List Int) : Prop := ∃ a lt lb, v = .ref a ∧ H a = some (.tup [.ref lt, .ref lb]) ∧ H lt = some (.lst (tops.map V.int)) ∧ H lb = some (.lst (bs.map V.int)) ∧ (∀ x ∈ tops, Sz n x) ∧ (∀ b ∈ bs, 0 < b ∧ Sz 9000 b) ∧ bs.length ≤ 100 ∧ tops.length ≤ 1000
theorem AxV.same {H H' : Hp} {v : V} {n : Nat} {tops bs : List Int} (h : AxV H v n tops bs) (s : Same H H') : AxV H' v n tops bs := by
  obtain ⟨a, lt, lb, e, h1, h2, h3, h4⟩ := h
  exact ⟨a, lt, lb, e, s _ _ h1, s _ _ h2, s _ _ h3, h4⟩
noncomputable def spCommon (K : PySem.W.Frag) : Sp := fun vs H Q _ => ∃ (a : Addr) (ws : List V) (qs : List Rat) (D : Int), vs = [.ref a] ∧ SqL K H a ws ∧ ShL H ws qs ∧ 0 < D ∧ Sz 9000 D ∧ (∀ q ∈ qs, (q.den : Int) ∣ D) ∧ qs.length ≤ 40 ∧
  ∀ (l : Addr) (bs : List Int) (H' : Hp), Same H H' → H' l = some (.lst (bs.map V.int)) → (∀ b ∈ bs, 0 < b ∧ Sz 9000 b) → (∀ q ∈ qs, (q.den : Int) ∣ prodI bs) → prodI bs ∣ D → bs.length ≤ qs.length → Q (.ref l) H'
noncomputable def spProduct (K : PySem.W.Frag) : Sp := fun vs H Q _ => ∃ (a : Addr) (bs : List Int), vs = [.ref a] ∧ SqL K H a (bs.map V.int) ∧ (∀ b ∈ bs, 0 < b ∧ Sz 9000 b) ∧ bs.length ≤ 100 ∧ Q (.int (prodI bs)) H
noncomputable def spOverAll (K : PySem.W.Frag) : Sp := fun vs H Q _ => ∃ (top : Int) (a : Addr) (bs : List Int), vs = [.int top, .ref a] ∧ SqL K H a (bs.map V.int) ∧ (∀ b ∈ bs, 0 < b ∧ Sz 9000 b) ∧ bs.length ≤ 100 ∧ ∀ v H', Same H H' → ShV H' v (Rat.divInt top (prodI bs)) → Q v H'
noncomputable def spPointsOf : Sp := fun vs H Q _ => ∃ x y n t1 b1 t2 b2, vs = [x, y] ∧ AxV H x n t1 b1 ∧ AxV H y n t2 b2 ∧ t1.length = t2.length ∧
  ∀ (l : Addr) (us : List V) (ps : List Pt) (H' : Hp), Same H H' → H l = none → H' l = some (.lst us) → PtsV H' us ps → ps.map (·.1) = axR t1 b1 → ps.map (·.2) = axR t2 b2 → Q (.ref l) H'
/-! the mathematics of the loops -/
theorem prod_sz {bs : List Int} (h : ∀ b ∈ bs, 0 < b ∧ Sz 9000 b) : Sz (9000 * bs.length + 1) (prodI bs) := by
  induction bs with
  | nil => exact ⟨by decide⟩
  | cons b r ih =>
    show Sz _ (b * prodI r)
    exact ((h b (.head _)).2.mul (ih fun c hc => h c (.tail _ hc))).mono (by rw [List.length_cons]; omega)
theorem top_of {q : Rat} {W : Int} (hW : 0 < W) (h : (q.den : Int) ∣ W) : Rat.divInt (q.num * W.fdiv q.den) W = q := by
  have hd : 0 < (q.den : Int) := by have := q.den_pos; omega
  obtain ⟨w, hw⟩ := h
  have e : W.fdiv q.den = w := by
    rw [Int.fdiv_eq_ediv_of_nonneg _ (Int.le_of_lt hd)]
    conv => lhs; rw [hw]
    exact Int.mul_ediv_cancel_left _ (by omega)
  rw [e]
  symm
  refine eq_divInt (by omega) ?_
  have h1 := num_cast q
  rw [hw]
  simp only [Rat.intCast_mul]
  rw [h1]; grind
theorem quo_sz {n : Nat} {W d : Int} (hW : 0 < W) (hd : 0 < d) (h : d ∣ W) (z : Sz n W) : Sz n (W.fdiv d) := by
  obtain ⟨w, hw⟩ := h
  have e : W.fdiv d = w := by
    rw [Int.fdiv_eq_ediv_of_nonneg _ (Int.le_of_lt hd)]
    conv => lhs; rw [hw]
    exact Int.mul_ediv_cancel_left _ (by omega)
  rw [e]
  exact sz_dvd (by omega) ⟨d, by rw [hw]; exact Int.mul_comm ..⟩ z
theorem ints_at {bs : List Int} {i : Nat} {x : V} (h : (bs.map V.int)[i]? = some x) : ∃ b, bs[i]? = some b ∧ x = .int b := by
  rw [List.getElem?_map] at h
  cases e : bs[i]? with
  | none => rw [e] at h; cases h
  | some b => rw [e] at h; cases h; exact ⟨b, rfl, rfl⟩
theorem take_snoc {α : Type} {bs : List α} {i : Nat} {b : α} (h : bs[i]? = some b) : bs.take (i + 1) = bs.take i ++ [b] := by rw [List.take_succ, h]; rfl
theorem pairs_eq {ps : List Pt} {xs ys : List Rat} (h1 : ps.map (·.1) = xs) (h2 : ps.map (·.2) = ys) {qs : List Pt} (h3 : qs.map (·.1) = xs) (h4 : qs.map (·.2) = ys) : ps = qs := by
  subst h1 h2
  induction ps generalizing qs with
  | nil => cases qs with
    | nil => rfl
    | cons q r => simp at h3
  | cons p r ih =>
    cases qs with
    | nil => simp at h3
    | cons q s =>
      simp only [List.map_cons, List.cons.injEq] at h3 h4
      rw [ih h3.2 h4.2]
      rw [Prod.ext h3.1.symm h4.1.symm]
theorem axR_len (t b : List Int) : (axR t b).length = t.length := by unfold axR; rw [List.length_map]
theorem ints_of {α : Type} {ys : List V} {qs : List α} {f : α → Int} (hl : ys.length = qs.length) (h : ∀ (i : Nat) v, ys[i]? = some v → ∀ q, qs[i]? = some q → v = .int (f q)) : ys = (qs.map f).map V.int := by
  refine List.ext_getElem? fun i => ?_
  rw [List.getElem?_map, List.getElem?_map]
  cases e : ys[i]? with
  | none =>
    have : qs[i]? = none := List.getElem?_eq_none (by have := List.getElem?_eq_none_iff.mp e; omega)
    rw [this]; rfl
  | some v =>
    have hi : i < qs.length := by have := (List.getElem?_eq_some_iff.mp e).1; omega
    have e2 : qs[i]? = some qs[i] := List.getElem?_eq_getElem hi
    rw [h i v e _ e2, e2]; rfl
theorem axR_tops {qs : List Rat} {bs : List Int} (hb : 0 < prodI bs) (h : ∀ q ∈ qs, (q.den : Int) ∣ prodI bs) : axR (qs.map fun q => q.num * (prodI bs).fdiv q.den) bs = qs := by
  unfold axR
  rw [List.map_map]
  conv => rhs; rw [← List.map_id qs]
  refine List.map_congr_left fun q hq => ?_
  exact top_of hb (h q hq)
theorem ShL.map {H : Hp} {ys : List V} {ps : List Pt} {f : Pt → Rat} (hl : ys.length = ps.length) (h : ∀ (i : Nat) v, ys[i]? = some v → ∀ p, ps[i]? = some p → ShV H v (f p)) : ShL H ys (ps.map f) := by
  refine ⟨by rw [hl, List.length_map], fun i v q e1 e2 => ?_⟩
  rw [List.getElem?_map] at e2
  cases e3 : ps[i]? with
  | none => rw [e3] at e2; cases e2
  | some p => rw [e3] at e2; cases e2; exact h i v e1 p e3
theorem int_at {t : List Int} {i : Nat} {x : Int} (h : t[i]? = some x) : ((t.map V.int)[i]?).getD V.non = .int x := by rw [List.getElem?_map, h]; rfl
theorem pts_zip {H : Hp} {us : List V} {t1 b1 t2 b2 : List Int} (hl : us.length = t1.length) (h12 : t1.length = t2.length)
    (h : ∀ (i : Nat) v, us[i]? = some v → ∀ x y, t1[i]? = some x → t2[i]? = some y → PtV H v (Rat.divInt x (prodI b1)) (Rat.divInt y (prodI b2))) : ∃ ps : List Pt, PtsV H us ps ∧ ps.map (·.1) = axR t1 b1 ∧ ps.map (·.2) = axR t2 b2 := by
  refine ⟨(axR t1 b1).zip (axR t2 b2), ⟨?_, fun i v p e1 e2 => ?_⟩, ?_, ?_⟩
  · rw [List.length_zip, axR_len, axR_len, hl]; omega
  · rw [List.getElem?_zip_eq_some] at e2
    obtain ⟨a1, a2⟩ := e2
    unfold axR at a1 a2
    rw [List.getElem?_map] at a1 a2
    cases c1 : t1[i]? with
    | none => rw [c1] at a1; cases a1
    | some x =>
      cases c2 : t2[i]? with
      | none => rw [c2] at a2; cases a2
      | some y =>
        rw [c1] at a1; rw [c2] at a2
        have g1 : Rat.divInt x (prodI b1) = p.1 := by simpa using a1
        have g2 : Rat.divInt y (prodI b2) = p.2 := by simpa using a2
        rw [← g1, ← g2]
        exact h i v e1 x y c1 c2
  · exact List.map_fst_zip (by rw [axR_len, axR_len]; omega)
  · exact List.map_snd_zip (by rw [axR_len, axR_len]; omega)
end Cv

namespace Cv
open PySem PySem.Spec PyProof.Rows L2
/-! ### rows, polar points, cuts and stretches of the program -/
/-- a curve as the program takes it: its seats, a common bottom, sizes -/
noncomputable def rowsBy (ts : List Rat) (ps : List Pt) : List Pt := ts.foldl (fun r t => nxP t r) ps
noncomputable def polP (ts : List Rat) (ps : List Pt) : Pt := ((rowsBy ts ps)[0]?).getD (0, 0)
theorem rowsBy_snoc (ts : List Rat) (t : Rat) (ps : List Pt) : rowsBy (ts ++ [t]) ps = nxP t (rowsBy ts ps) := by unfold rowsBy; rw [List.foldl_append]; rfl
theorem rowsBy_len (ts : List Rat) (ps : List Pt) : (rowsBy ts ps).length = ps.length - ts.length := by
  induction ts generalizing ps with
  | nil => simp [rowsBy]
  | cons t r ih =>
    show (rowsBy r (nxP t ps)).length = _
    rw [ih, nxP_len, List.length_cons]; omega
theorem rowsBy_rep (t : Rat) (ps : List Pt) : ∀ r, rowsBy (List.replicate r t) ps = rowP t ps r
  | 0 => rfl
  | r + 1 => by
    rw [List.replicate_succ', rowsBy_snoc, rowsBy_rep t ps r]; rfl
theorem polP_get (ts : List Rat) (ps : List Pt) (h : ps.length = ts.length + 1) : rowsBy ts ps = [polP ts ps] := by
  have hl := rowsBy_len ts ps
  have e : (rowsBy ts ps).length = 1 := by omega
  match hq : rowsBy ts ps, e with
  | [x], _ => unfold polP; rw [hq]; rfl
theorem AxV.lst {H : Hp} {v : V} {n : Nat} {tops bs : List Int} {l : Addr} {ls : List Addr} {o : HO} (h : AxV H v n tops bs) (hl : H l = some (.lst (ls.map V.ref))) (h1 : 1 ≤ ls.length) : AxV (upd H l o) v n tops bs := by
  obtain ⟨a, lt, lb, e, g1, g2, g3, g4⟩ := h
  have ne : ∀ (b : Addr) (xs : List Int), H b = some (.lst (xs.map V.int)) → b ≠ l := fun b xs e z => by
    rw [z, hl] at e
    have e' : ls.map V.ref = xs.map V.int := by simpa using e
    cases ls with
    | nil => simp at h1
    | cons x r =>
      cases xs with
      | nil => simp at e'
      | cons y s => simp at e'
  have na : a ≠ l := fun z => by rw [z, hl] at g1; cases g1
  exact ⟨a, lt, lb, e, by rw [upd_ne na]; exact g1, by rw [upd_ne (ne _ _ g2)]; exact g2, by rw [upd_ne (ne _ _ g3)]; exact g3, g4⟩
noncomputable def strP (s t : Rat) (ps : List Pt) (k : Nat) : Pt := polP (List.replicate (ps.length - 1 - k) s ++ List.replicate k t) ps
/-- the first points of the rows, the last points from the last row back -/
noncomputable def firstP (t : Rat) (ps : List Pt) : List Pt := (List.range ps.length).map fun r => ((rowP t ps r)[0]?).getD (0, 0)
noncomputable def lastP (t : Rat) (ps : List Pt) : List Pt := (List.range ps.length).map fun k => ((rowP t ps (ps.length - 1 - k))[k]?).getD (0, 0)
end Cv

namespace Cv
open PySem PySem.Spec PyProof.Rows L2
/-! ### the order of the shares does not matter -/
theorem btw_comm (s t a b c : Rat) : btw s (btw t a b) (btw t b c) = btw t (btw s a b) (btw s b c) := by unfold btw; grind
theorem nxP_comm (s t : Rat) (ps : List Pt) : nxP s (nxP t ps) = nxP t (nxP s ps) := by
  have hl : (nxP s (nxP t ps)).length = (nxP t (nxP s ps)).length := by simp only [nxP_len]
  refine List.ext_getElem? fun i => ?_
  by_cases hi : i + 2 < ps.length
  · have e0 : ps[i]? = some (ps[i]'(by omega)) := List.getElem?_eq_getElem _
    have e1 : ps[i + 1]? = some (ps[i + 1]'(by omega)) := List.getElem?_eq_getElem _
    have e2 : ps[i + 1 + 1]? = some (ps[i + 1 + 1]'(by omega)) := List.getElem?_eq_getElem _
    rw [nxP_get s _ i (nxP_get t ps i e0 e1) (nxP_get t ps (i + 1) e1 e2), nxP_get t _ i (nxP_get s ps i e0 e1) (nxP_get s ps (i + 1) e1 e2)]
    unfold btwP
    simp only [btw_comm]
  · have h1 : (nxP s (nxP t ps))[i]? = none := List.getElem?_eq_none (by simp only [nxP_len]; omega)
    have h2 : (nxP t (nxP s ps))[i]? = none := List.getElem?_eq_none (by simp only [nxP_len]; omega)
    rw [h1, h2]
theorem rowsBy_cons (t : Rat) (ts : List Rat) (ps : List Pt) : rowsBy (t :: ts) ps = rowsBy ts (nxP t ps) := rfl
theorem rowsBy_perm {ts us : List Rat} (h : ts.Perm us) (ps : List Pt) : rowsBy ts ps = rowsBy us ps := by
  induction h generalizing ps with
  | nil => rfl
  | cons x _ ih => rw [rowsBy_cons, rowsBy_cons]; exact ih _
  | swap x y l => rw [rowsBy_cons, rowsBy_cons, rowsBy_cons, rowsBy_cons, nxP_comm]
  | trans _ _ ih1 ih2 => rw [ih1, ih2]
theorem polP_perm {ts us : List Rat} (h : ts.Perm us) (ps : List Pt) : polP ts ps = polP us ps := by unfold polP; rw [rowsBy_perm h ps]
/-! ### sizes -/
end Cv

namespace Cv
/-! ### polar points share by share: each goes between as the share does -/
noncomputable def comb (u : Rat) (A B : List Pt) : List Pt := List.zipWith (btwP u) A B
theorem comb_len (u : Rat) (A B : List Pt) : (comb u A B).length = min A.length B.length := by unfold comb; rw [List.length_zipWith]
theorem comb_get {u : Rat} {A B : List Pt} {i : Nat} {a b : Pt} (h1 : A[i]? = some a) (h2 : B[i]? = some b) : (comb u A B)[i]? = some (btwP u a b) := by unfold comb; rw [List.getElem?_zipWith, h1, h2]
theorem btw_mix (u s t a b : Rat) : btw (btw u s t) a b = btw u (btw s a b) (btw t a b) := by unfold btw; grind
theorem btw_swap (u t a b c d : Rat) : btw t (btw u a b) (btw u c d) = btw u (btw t a c) (btw t b d) := by unfold btw; grind
theorem nxP_mix (u s t : Rat) (ps : List Pt) : nxP (btw u s t) ps = comb u (nxP s ps) (nxP t ps) := by
  refine List.ext_getElem? fun i => ?_
  by_cases hi : i + 1 < ps.length
  · have e0 : ps[i]? = some (ps[i]'(by omega)) := List.getElem?_eq_getElem _
    have e1 : ps[i + 1]? = some (ps[i + 1]'(by omega)) := List.getElem?_eq_getElem _
    rw [nxP_get _ ps i e0 e1, comb_get (nxP_get s ps i e0 e1) (nxP_get t ps i e0 e1)]
    unfold btwP
    simp only [btw_mix]
  · rw [List.getElem?_eq_none (by rw [nxP_len]; omega), List.getElem?_eq_none (by rw [comb_len, nxP_len, nxP_len]; omega)]
theorem nxP_comb (t u : Rat) (A B : List Pt) (h : A.length = B.length) : nxP t (comb u A B) = comb u (nxP t A) (nxP t B) := by
  refine List.ext_getElem? fun i => ?_
  by_cases hi : i + 1 < A.length
  · have a0 : A[i]? = some (A[i]'(by omega)) := List.getElem?_eq_getElem _
    have a1 : A[i + 1]? = some (A[i + 1]'(by omega)) := List.getElem?_eq_getElem _
    have b0 : B[i]? = some (B[i]'(by omega)) := List.getElem?_eq_getElem _
    have b1 : B[i + 1]? = some (B[i + 1]'(by omega)) := List.getElem?_eq_getElem _
    rw [nxP_get t _ i (comb_get a0 b0) (comb_get a1 b1), comb_get (nxP_get t A i a0 a1) (nxP_get t B i b0 b1)]
    unfold btwP
    simp only [btw_swap]
  · rw [List.getElem?_eq_none (by rw [nxP_len, comb_len]; omega), List.getElem?_eq_none (by rw [comb_len, nxP_len, nxP_len]; omega)]
theorem rowsBy_comb (u : Rat) : ∀ (ts : List Rat) (A B : List Pt), A.length = B.length → rowsBy ts (comb u A B) = comb u (rowsBy ts A) (rowsBy ts B)
  | [], _, _, _ => rfl
  | t :: r, A, B, h => by
    rw [rowsBy_cons, rowsBy_cons, rowsBy_cons, nxP_comb t u A B h]
    exact rowsBy_comb u r _ _ (by rw [nxP_len, nxP_len, h])
theorem polP_mix (u s t : Rat) (ts : List Rat) (ps : List Pt) (h : ps.length = ts.length + 2) : polP (btw u s t :: ts) ps = btwP u (polP (s :: ts) ps) (polP (t :: ts) ps) := by
  have e : rowsBy (btw u s t :: ts) ps = comb u (rowsBy (s :: ts) ps) (rowsBy (t :: ts) ps) := by
    rw [rowsBy_cons, nxP_mix, rowsBy_comb u ts _ _ (by rw [nxP_len, nxP_len])]; rfl
  have h1 := polP_get (s :: ts) ps (by rw [List.length_cons]; omega)
  have h2 := polP_get (t :: ts) ps (by rw [List.length_cons]; omega)
  have h3 := polP_get (btw u s t :: ts) ps (by rw [List.length_cons]; omega)
  rw [h1, h2, h3] at e
  simp [comb] at e
  exact e
/-! ### a stretch's rows -/
noncomputable def strL (s t : Rat) (ps : List Pt) : List Pt := (List.range ps.length).map (strP s t ps)
theorem strL_len (s t : Rat) (ps : List Pt) : (strL s t ps).length = ps.length := by unfold strL; rw [List.length_map, List.length_range]
theorem perm_mid (r n k : Nat) (w s t : Rat) : (List.replicate r w ++ (List.replicate (n + 1) s ++ List.replicate k t)).Perm (s :: (List.replicate r w ++ (List.replicate n s ++ List.replicate k t))) := by
  rw [List.replicate_succ, List.cons_append]
  exact List.perm_middle
theorem perm_end (r n k : Nat) (w s t : Rat) : (List.replicate r w ++ (List.replicate n s ++ List.replicate (k + 1) t)).Perm (t :: (List.replicate r w ++ (List.replicate n s ++ List.replicate k t))) := by
  rw [List.replicate_succ, ← List.append_assoc]
  refine List.perm_middle.trans ?_
  rw [List.append_assoc]
theorem strL_row (u s t : Rat) (ps : List Pt) : ∀ r k, r + k < ps.length → (rowP u (strL s t ps) r)[k]? = some (polP (List.replicate r (btw u s t) ++ (List.replicate (ps.length - 1 - r - k) s ++ List.replicate k t)) ps)
  | 0, k, h => by
    show (strL s t ps)[k]? = _
    unfold strL
    rw [List.getElem?_map, List.getElem?_range (by omega)]
    rfl
  | r + 1, k, h => by
    have h1 := strL_row u s t ps r k (by omega)
    have h2 := strL_row u s t ps r (k + 1) (by omega)
    show (nxP u (rowP u (strL s t ps) r))[k]? = _
    rw [nxP_get u _ k h1 h2]
    have e1 : ps.length - 1 - r - k = (ps.length - 1 - (r + 1) - k) + 1 := by omega
    have e2 : ps.length - 1 - r - (k + 1) = ps.length - 1 - (r + 1) - k := by omega
    rw [e1, e2, polP_perm (perm_mid r _ k _ s t) ps, polP_perm (perm_end r _ k _ s t) ps]
    have hm := polP_mix u s t (List.replicate r (btw u s t) ++ (List.replicate (ps.length - 1 - (r + 1) - k) s ++ List.replicate k t)) ps (by simp; omega)
    rw [← hm]
    rw [List.replicate_succ, List.cons_append]
theorem strL_pt (u s t : Rat) (ps : List Pt) (h : 1 ≤ ps.length) : ptP u (strL s t ps) = ptP (btw u s t) ps := by
  have h1 := strL_row u s t ps (ps.length - 1) 0 (by omega)
  have h2 := ptP_get u (strL s t ps) (by rw [strL_len]; exact h)
  rw [strL_len] at h2
  rw [h2] at h1
  have e0 : ps.length - 1 - (ps.length - 1) - 0 = 0 := by omega
  rw [e0] at h1
  simp only [List.replicate_zero, List.append_nil, List.getElem?_cons_zero, Option.some.injEq] at h1
  rw [h1]
  have h3 := rowsBy_rep (btw u s t) ps (ps.length - 1)
  unfold polP ptP
  rw [h3]
/-! ### at 0 and at 1 -/
theorem btw_zero (a b : Rat) : btw 0 a b = a := by unfold btw; grind
theorem btw_one (a b : Rat) : btw 1 a b = b := by unfold btw; grind
theorem nxP_zero (ps : List Pt) (i : Nat) (h : i + 1 < ps.length) : (nxP 0 ps)[i]? = ps[i]? := by
  have e0 : ps[i]? = some (ps[i]'(by omega)) := List.getElem?_eq_getElem _
  have e1 : ps[i + 1]? = some (ps[i + 1]'(by omega)) := List.getElem?_eq_getElem _
  rw [nxP_get 0 ps i e0 e1, e0]
  unfold btwP
  simp only [btw_zero]
theorem nxP_one (ps : List Pt) (i : Nat) (h : i + 1 < ps.length) : (nxP 1 ps)[i]? = ps[i + 1]? := by
  have e0 : ps[i]? = some (ps[i]'(by omega)) := List.getElem?_eq_getElem _
  have e1 : ps[i + 1]? = some (ps[i + 1]'(by omega)) := List.getElem?_eq_getElem _
  rw [nxP_get 1 ps i e0 e1, e1]
  unfold btwP
  simp only [btw_one]
theorem rows_zero (ps : List Pt) : ∀ r i, r + i < ps.length → (rowsBy (List.replicate r 0) ps)[i]? = ps[i]?
  | 0, i, h => rfl
  | r + 1, i, h => by
    rw [List.replicate_succ', rowsBy_snoc, nxP_zero _ i (by rw [rowsBy_len, List.length_replicate]; omega)]
    exact rows_zero ps r i (by omega)
theorem rows_one (ps : List Pt) : ∀ r i, r + i < ps.length → (rowsBy (List.replicate r 1) ps)[i]? = ps[i + r]?
  | 0, i, h => rfl
  | r + 1, i, h => by
    rw [List.replicate_succ', rowsBy_snoc, nxP_one _ i (by rw [rowsBy_len, List.length_replicate]; omega), rows_one ps r (i + 1) (by omega)]
    congr 1; omega
theorem rowsBy_append (ts us : List Rat) (ps : List Pt) : rowsBy (ts ++ us) ps = rowsBy us (rowsBy ts ps) := by unfold rowsBy; rw [List.foldl_append]
theorem firstP_str (t : Rat) (ps : List Pt) : firstP t ps = strL 0 t ps := by
  unfold firstP strL
  refine List.map_congr_left fun k hk => ?_
  have hk' := List.mem_range.mp hk
  unfold strP polP
  rw [rowsBy_perm (List.perm_append_comm) ps, rowsBy_append, rowsBy_rep t ps k, rows_zero _ _ 0 (by rw [rowP_len]; omega)]
theorem lastP_str (t : Rat) (ps : List Pt) : lastP t ps = strL t 1 ps := by
  unfold lastP strL
  refine List.map_congr_left fun k hk => ?_
  have hk' := List.mem_range.mp hk
  unfold strP polP
  rw [rowsBy_append, rowsBy_rep t ps, rows_one _ _ 0 (by rw [rowP_len]; omega), Nat.zero_add]
theorem first_pt (u t : Rat) (ps : List Pt) (h : 1 ≤ ps.length) : ptP u (firstP t ps) = ptP (t * u) ps := by
  rw [firstP_str, strL_pt u 0 t ps h]
  congr 1; unfold btw; grind
theorem last_pt (u t : Rat) (ps : List Pt) (h : 1 ≤ ps.length) : ptP u (lastP t ps) = ptP (btw u t 1) ps := by
  rw [lastP_str, strL_pt u t 1 ps h]
end Cv

namespace Cv
/-! ### sizes of the halves -/
end Cv

namespace Cv
open PySem PySem.Spec PyProof.Rows L2
/-! ### curves the other way round, stretches of stretches -/
/-! ### the bottoms of a stretch's seats -/
end Cv

namespace Cv
open PySem PySem.Spec PyProof.Rows L2
/-! ### curves and shares drawn from the script's cells -/
section
variable {X : Cx}
end
noncomputable def spIsPoint : Sp := fun vs H Q _ => ∃ x a b, vs = [x] ∧ PtV H x a b ∧ Q (.bl true) H
theorem ShL.nil (H : Hp) : ShL H [] [] := ⟨rfl, fun i v q e => by simp at e⟩
theorem ShL.snoc {H : Hp} {vs : List V} {qs : List Rat} {v : V} {q : Rat} (h : ShL H vs qs) (hv : ShV H v q) : ShL H (vs ++ [v]) (qs ++ [q]) := by
  refine ⟨by rw [List.length_append, List.length_append, h.len]; rfl, fun i x y e1 e2 => ?_⟩
  have hl := h.len
  by_cases hi : i < vs.length
  · rw [List.getElem?_append_left hi] at e1
    rw [List.getElem?_append_left (by omega)] at e2
    exact h.get i x y e1 e2
  · rw [List.getElem?_append_right (by omega)] at e1 e2
    rw [hl] at e1
    match hj : i - qs.length, e1, e2 with
    | 0, e1, e2 => cases e1; cases e2; exact hv
    | j + 1, e1, e2 => simp at e1
theorem len2 {α : Type} {l : List α} (h : l.length = 2) : ∃ x y, l = [x, y] := by
  match l, h with
  | [x, y], _ => exact ⟨x, y, rfl⟩
end Cv

namespace Cv
open PySem PySem.Spec PyProof.Rows L2
/-! ### how many ways, sums, powers -/
noncomputable def ch : Nat → Nat → Nat
  | _, 0 => 1
  | 0, _ + 1 => 0
  | n + 1, k + 1 => ch n k + ch n (k + 1)
theorem ch_zero (n : Nat) : ch n 0 = 1 := by cases n <;> rfl
theorem ch_gt : ∀ n k, n < k → ch n k = 0
  | 0, k + 1, _ => rfl
  | n + 1, k + 1, h => by
    show ch n k + ch n (k + 1) = 0
    rw [ch_gt n k (by omega), ch_gt n (k + 1) (by omega)]
theorem ch_up : ∀ n k, (k + 1) * ch (n + 1) (k + 1) = (n + 1) * ch n k
  | 0, 0 => rfl
  | 0, k + 1 => by
    show (k + 1 + 1) * (ch 0 (k + 1) + ch 0 (k + 1 + 1)) = _
    rfl
  | n + 1, 0 => by
    have h := ch_up n 0
    show (0 + 1) * (ch (n + 1) 0 + ch (n + 1) 1) = (n + 1 + 1) * ch (n + 1) 0
    rw [ch_zero] at h
    rw [ch_zero]
    have h' : ch (n + 1) (0 + 1) = ch (n + 1) 1 := rfl
    rw [h'] at h
    omega
  | n + 1, j + 1 => by
    have h1 := ch_up n j
    have h2 := ch_up n (j + 1)
    show (j + 1 + 1) * (ch (n + 1) (j + 1) + ch (n + 1) (j + 1 + 1)) = (n + 1 + 1) * ch (n + 1) (j + 1)
    have e : ch (n + 1) (j + 1) = ch n j + ch n (j + 1) := rfl
    rw [Nat.mul_add, h2, Nat.add_mul (n + 1) 1, Nat.add_mul (j + 1) 1, h1]
    rw [e]
    grind
theorem ch_next (n k : Nat) : (ch n (k + 1) : Int) * ((k : Int) + 1) = (ch n k : Int) * ((n : Int) - k) := by
  have h := ch_up n k
  have e : ch (n + 1) (k + 1) = ch n k + ch n (k + 1) := rfl
  rw [e] at h
  have h' : (((k + 1) * (ch n k + ch n (k + 1)) : Nat) : Int) = (((n + 1) * ch n k : Nat) : Int) := by rw [h]
  simp only [Int.natCast_mul, Int.natCast_add, Int.natCast_one] at h'
  grind
theorem ch_div (n k : Nat) : ((ch n k : Int) * ((n : Int) - k)).fdiv ((k : Int) + 1) = (ch n (k + 1) : Int) := by
  rw [← ch_next, Int.fdiv_eq_ediv_of_nonneg _ (by omega), Int.mul_ediv_cancel _ (by omega)]
theorem ch_le : ∀ n k, ch n k ≤ 2 ^ n
  | n, 0 => by rw [ch_zero]; exact Nat.one_le_two_pow
  | 0, k + 1 => Nat.zero_le _
  | n + 1, k + 1 => by
    have h1 := ch_le n k
    have h2 := ch_le n (k + 1)
    show ch n k + ch n (k + 1) ≤ _
    rw [Nat.pow_succ]; omega
theorem ch_sz (n k : Nat) : Sz (n + 1) (ch n k : Int) := ⟨by
  rw [Int.natAbs_natCast]
  have := ch_le n k
  rw [Nat.pow_succ]
  have := Nat.one_le_two_pow (n := n)
  omega⟩
noncomputable def pw (x : Rat) : Nat → Rat
  | 0 => 1
  | n + 1 => pw x n * x
theorem pw_mul (x y : Rat) : ∀ n, pw (x * y) n = pw x n * pw y n
  | 0 => by show (1 : Rat) = 1 * 1; grind
  | n + 1 => by
    show pw (x * y) n * (x * y) = pw x n * x * (pw y n * y)
    rw [pw_mul x y n]; grind
theorem pw_add (x : Rat) (m : Nat) : ∀ n, pw x (m + n) = pw x m * pw x n
  | 0 => by show pw x m = pw x m * 1; grind
  | n + 1 => by
    show pw x (m + n) * x = pw x m * (pw x n * x)
    rw [pw_add x m n]; grind
theorem pw_int (a : Int) : ∀ n : Nat, ((a ^ n : Int) : Rat) = pw (a : Rat) n
  | 0 => by rw [Int.pow_zero]; rfl
  | n + 1 => by
    rw [Int.pow_succ, Rat.intCast_mul, pw_int a n]; rfl
noncomputable def sm (f : Nat → Rat) : Nat → Rat
  | 0 => 0
  | n + 1 => sm f n + f n
theorem sm_shift (f : Nat → Rat) : ∀ n, sm f (n + 1) = f 0 + sm (fun j => f (j + 1)) n
  | 0 => by show (0 : Rat) + f 0 = f 0 + 0; grind
  | n + 1 => by
    show sm f (n + 1) + f (n + 1) = f 0 + (sm (fun j => f (j + 1)) n + f (n + 1))
    rw [sm_shift f n]; grind
theorem sm_congr {f g : Nat → Rat} : ∀ n, (∀ j, j < n → f j = g j) → sm f n = sm g n
  | 0, _ => rfl
  | n + 1, h => by
    show sm f n + f n = sm g n + g n
    rw [sm_congr n fun j hj => h j (by omega), h n (by omega)]
theorem sm_add (f g : Nat → Rat) : ∀ n, sm (fun j => f j + g j) n = sm f n + sm g n
  | 0 => by show (0 : Rat) = 0 + 0; grind
  | n + 1 => by
    show sm (fun j => f j + g j) n + (f n + g n) = sm f n + f n + (sm g n + g n)
    rw [sm_add f g n]; grind
theorem sm_mul (c : Rat) (f : Nat → Rat) : ∀ n, sm (fun j => c * f j) n = c * sm f n
  | 0 => by show (0 : Rat) = c * 0; grind
  | n + 1 => by
    show sm (fun j => c * f j) n + c * f n = c * (sm f n + f n)
    rw [sm_mul c f n]; grind
/-! ### the weighted sum -/
noncomputable def bn (x y : Rat) (r j : Nat) : Rat := ((ch r j : Int) : Rat) * pw x j * pw y (r - j)
theorem bn_zero (x y : Rat) (r : Nat) : bn x y (r + 1) 0 = y * bn x y r 0 := by
  unfold bn
  rw [ch_zero, ch_zero]
  show _ * pw x 0 * (pw y r * y) = _
  rw [Nat.sub_zero]; grind
theorem bn_succ (x y : Rat) (r j : Nat) (h : j ≤ r) : bn x y (r + 1) (j + 1) = x * bn x y r j + y * bn x y r (j + 1) := by
  unfold bn
  have e : ch (r + 1) (j + 1) = ch r j + ch r (j + 1) := rfl
  have e2 : r + 1 - (j + 1) = r - j := by omega
  rw [e, e2, Int.natCast_add, Rat.intCast_add]
  have e3 : ((ch r (j + 1) : Int) : Rat) * pw y (r - j) = ((ch r (j + 1) : Int) : Rat) * (y * pw y (r - (j + 1))) := by
    by_cases hj : j = r
    · subst hj
      rw [ch_gt j (j + 1) (by omega)]
      have : (((0 : Nat) : Int) : Rat) = 0 := rfl
      rw [this]; grind
    · have : r - j = (r - (j + 1)) + 1 := by omega
      rw [this]
      show _ * (pw y (r - (j + 1)) * y) = _
      grind
  show _ * (pw x j * x) * _ = _
  have e4 : ((ch r j : Int) : Rat) * (pw x j * x) * pw y (r - j) + (((ch r (j + 1) : Int) : Rat) * pw y (r - j)) * (pw x j * x) = x * (((ch r j : Int) : Rat) * pw x j * pw y (r - j)) + y * (((ch r (j + 1) : Int) : Rat) * (pw x j * x) * pw y (r - (j + 1))) := by
    rw [e3]; grind
  show _ = x * _ + y * (_ * (pw x j * x) * _)
  rw [← e4]; grind
theorem bn_over (x y : Rat) (r : Nat) : bn x y r (r + 1) = 0 := by
  unfold bn
  rw [ch_gt r (r + 1) (by omega)]
  have : (((0 : Nat) : Int) : Rat) = 0 := rfl
  rw [this]; grind
noncomputable def dcj (t : Rat) (g : Nat → Rat) : Nat → Nat → Rat
  | 0, i => g i
  | r + 1, i => btw t (dcj t g r i) (dcj t g r (i + 1))
theorem dcj_sum (t : Rat) (g : Nat → Rat) : ∀ r i, dcj t g r i = sm (fun j => bn t (1 - t) r j * g (i + j)) (r + 1)
  | 0, i => by
    show g i = 0 + bn t (1 - t) 0 0 * g (i + 0)
    have : bn t (1 - t) 0 0 = 1 := by
      unfold bn
      show (((1 : Nat) : Int) : Rat) * 1 * 1 = 1
      have : (((1 : Nat) : Int) : Rat) = 1 := rfl
      rw [this]; grind
    rw [this, Nat.add_zero]; grind
  | r + 1, i => by
    show btw t (dcj t g r i) (dcj t g r (i + 1)) = _
    rw [dcj_sum t g r i, dcj_sum t g r (i + 1), sm_shift _ (r + 1)]
    have h1 : sm (fun j => bn t (1 - t) (r + 1) (j + 1) * g (i + (j + 1))) (r + 1) = sm (fun j => t * (bn t (1 - t) r j * g (i + 1 + j)) + (1 - t) * (bn t (1 - t) r (j + 1) * g (i + (j + 1)))) (r + 1) := by
      refine sm_congr _ fun j hj => ?_
      rw [bn_succ _ _ _ _ (by omega)]
      have : i + 1 + j = i + (j + 1) := by omega
      rw [this]; grind
    rw [h1, sm_add, sm_mul, sm_mul]
    have h2 := sm_shift (fun j => bn t (1 - t) r j * g (i + j)) (r + 1)
    have h3 : sm (fun j => bn t (1 - t) r j * g (i + j)) (r + 1 + 1) = sm (fun j => bn t (1 - t) r j * g (i + j)) (r + 1) + bn t (1 - t) r (r + 1) * g (i + (r + 1)) := rfl
    rw [bn_over] at h3
    rw [bn_zero]
    unfold btw
    grind
noncomputable def gX (ps : List Pt) (j : Nat) : Rat := ((ps[j]?).getD (0, 0)).1
noncomputable def gY (ps : List Pt) (j : Nat) : Rat := ((ps[j]?).getD (0, 0)).2
theorem row_dc (t : Rat) (ps : List Pt) : ∀ r i, r + i < ps.length → (rowP t ps r)[i]? = some (dcj t (gX ps) r i, dcj t (gY ps) r i)
  | 0, i, h => by
    show ps[i]? = some (gX ps i, gY ps i)
    unfold gX gY
    rw [List.getElem?_eq_getElem (by omega)]; rfl
  | r + 1, i, h => by
    have h1 := row_dc t ps r i (by omega)
    have h2 := row_dc t ps r (i + 1) (by omega)
    show (nxP t (rowP t ps r))[i]? = _
    rw [nxP_get t _ i h1 h2]; rfl
theorem pt_sum (t : Rat) (ps : List Pt) (h : 1 ≤ ps.length) : ptP t ps = (sm (fun j => bn t (1 - t) (ps.length - 1) j * gX ps j) ps.length, sm (fun j => bn t (1 - t) (ps.length - 1) j * gY ps j) ps.length) := by
  have h1 := row_dc t ps (ps.length - 1) 0 (by omega)
  rw [ptP_get t ps h, dcj_sum, dcj_sum] at h1
  have e : ps.length - 1 + 1 = ps.length := by omega
  simp only [Nat.zero_add, e] at h1
  simpa using h1
noncomputable def topI (n : Nat) (t : Rat) (k : Nat) : Int := (ch n k : Int) * t.num ^ k * ((t.den : Int) - t.num) ^ (n - k)
theorem top_bn (n : Nat) (t : Rat) (k : Nat) (h : k ≤ n) : bn t (1 - t) n k * (((t.den : Int) ^ n : Int) : Rat) = ((topI n t k : Int) : Rat) := by
  unfold bn topI
  have e : n = k + (n - k) := by omega
  have h1 : pw t k * pw ((t.den : Int) : Rat) k = pw (t.num : Rat) k := by rw [← pw_mul, ← num_cast t]
  have h2 : pw (1 - t) (n - k) * pw ((t.den : Int) : Rat) (n - k) = pw ((((t.den : Int) - t.num : Int)) : Rat) (n - k) := by
    rw [← pw_mul]
    congr 1
    have h3 := num_cast t
    rw [Rat.intCast_sub, h3]; grind
  have h4 : pw ((t.den : Int) : Rat) n = pw ((t.den : Int) : Rat) k * pw ((t.den : Int) : Rat) (n - k) := by rw [← pw_add, ← e]
  simp only [Rat.intCast_mul, pw_int]
  rw [h4, ← h1, ← h2]; grind
theorem pt_top (t : Rat) (ps : List Pt) (h : 1 ≤ ps.length) (n : Nat) (hn : ps.length = n + 1) :
    (ptP t ps).1 * (((t.den : Int) ^ n : Int) : Rat) = sm (fun j => ((topI n t j : Int) : Rat) * gX ps j) ps.length ∧ (ptP t ps).2 * (((t.den : Int) ^ n : Int) : Rat) = sm (fun j => ((topI n t j : Int) : Rat) * gY ps j) ps.length := by
  have e : ps.length - 1 = n := by omega
  rw [pt_sum t ps h, e]
  constructor
  · show sm _ _ * _ = _
    rw [Rat.mul_comm, ← sm_mul]
    refine sm_congr _ fun j hj => ?_
    rw [← top_bn n t j (by omega)]; grind
  · show sm _ _ * _ = _
    rw [Rat.mul_comm, ← sm_mul]
    refine sm_congr _ fun j hj => ?_
    rw [← top_bn n t j (by omega)]; grind
/-! ### a walk over pairs -/
theorem for_plain2 {K : PySem.W.Frag} {J : It} {H1 : Hp} {n : Nat} {f f' : Nat → V} {g : TG} {tb : TS} {D : Ends} {σ : L2.St} (hJ : Plain2 K J H1 n f f') (Pv : Nat → L2.St → Hp → Prop) (h0 : Pv 0 σ H1) (hS : ∀ i σ H, Pv i σ H → Same H1 H)
    (hs : ∀ i a σ H H', i < n → Pv i σ H → Same H H' → SqT K H' a [f i, f' i] → g (.ref a) σ H' fun σ2 H2 => tb { D with nx := Pv (i + 1), ct := Pv (i + 1), bk := D.nx } σ2 H2) (hd : ∀ σ H, Pv n σ H → D.nx σ H) :
    ∃ W : Nat → Nat → L2.St → Hp → Prop, (∃ m, W 0 m σ H1) ∧ ∀ i m σ H, W i m σ H →
      (J.stop i H ∧ D.nx σ H) ∨ (J.go i H ∧ ∃ N : L2.St → Hp → Prop, (∀ σ' H', N σ' H' → ∃ m', m' < m ∧ W (i + 1) m' σ' H') ∧ ∀ x H', J.yld i H x H' → g x σ H' fun σ2 H2 => tb { D with nx := N, ct := N, bk := D.nx } σ2 H2) := by
  refine ⟨fun i m σ H => m = n - i ∧ i ≤ n ∧ Pv i σ H, ⟨n, by simp, Nat.zero_le _, h0⟩, ?_⟩
  rintro i m σ H ⟨rfl, hi, p⟩
  have q := hJ H (hS i σ H p) i
  by_cases hlt : i < n
  · refine .inr ⟨(q.1 hlt).1, Pv (i + 1), fun σ' H' p' => ⟨n - (i + 1), by omega, rfl, hlt, p'⟩, fun x H' y => ?_⟩
    obtain ⟨s, a, rfl, ht⟩ := (q.1 hlt).2 x H' y
    exact hs i a σ H H' hlt p s ht
  · have e : i = n := by omega
    subst e
    exact .inl ⟨q.2 rfl, hd σ H p⟩
/-! ### promises -/
noncomputable def spPw : Sp := fun vs H Q _ => ∃ (x : Int) (n : Nat), vs = [.int x, .int (n : Int)] ∧ n ≤ 12 ∧ Sz 300 x ∧ ∀ (l : Addr) (H' : Hp), Same H H' → H' l = some (.lst (((List.range (n + 1)).map (fun k => x ^ k)).map V.int)) → Q (.ref l) H'
noncomputable def spTops : Sp := fun vs H Q _ => ∃ (z : V) (n : Nat) (t : Rat), vs = [.int (n : Int), z] ∧ n ≤ 12 ∧ ShV H z t ∧ Bd 110 t ∧ ∀ (l : Addr) (H' : Hp), Same H H' → H' l = some (.lst (((List.range (n + 1)).map (topI n t)).map V.int)) → Q (.ref l) H'
noncomputable def spWPt (K : PySem.W.Frag) : Sp := fun vs H Q _ => ∃ (a : Addr) (z : V) (ws : List V) (ps : List Pt) (t : Rat), vs = [.ref a, z] ∧ SqL K H a ws ∧ PtsV H ws ps ∧ ShV H z t ∧ Bd 110 t ∧ 1 ≤ ps.length ∧ ps.length ≤ 12 ∧ (∀ p ∈ ps, Bd 340 p.1 ∧ Bd 340 p.2) ∧
  ∀ v H', Same H H' → PtV H' v (ptP t ps).1 (ptP t ps).2 → Q v H'
theorem pw_sz {x : Int} (h : Sz 300 x) {n : Nat} (hn : n ≤ 12) : Sz 4000 (x ^ n) := by
  have := sz_pow h n
  exact this.mono (by have : n * 300 ≤ 12 * 300 := Nat.mul_le_mul_right _ hn; omega)
theorem top_szI {n k : Nat} {t : Rat} (ht : Bd 110 t) (hn : n ≤ 12) (hk : k ≤ n) : Sz 8100 (topI n t k) := by
  unfold topI
  have h1 := ch_sz n k
  have h2 := pw_sz (ht.num.mono (m := 300) (by decide)) (n := k) (by omega)
  have h3 := pw_sz (n := n - k) ((ht.den.sub ht.num).mono (m := 300) (by decide)) (by omega)
  exact ((h1.mul h2).mul h3).mono (by omega)
theorem range_snoc {α : Type} (f : Nat → α) (n : Nat) : (List.range (n + 1)).map f = (List.range n).map f ++ [f n] := by rw [List.range_succ, List.map_append]; rfl
theorem cut_rest (xs : List V) (h : 1 ≤ xs.length) : cutV xs (some 1) none = xs.drop 1 := by
  have := cut_fromI (fun v : V => v) xs 1 1 rfl h
  simpa using this
end Cv

namespace Cv
open PySem PySem.Spec PyProof.Rows L2
section
variable {X : Cx}
end
/-! ### the weights -/
end Cv

namespace Cv
open PySem PySem.Spec PyProof.Rows L2
/-! ### enumerate of a list -/
section
variable {X : Cx}
end
/-! ### least and greatest of a list of whole numbers -/
section
variable {X : Cx}
end
end Cv

namespace Cv
open PySem PySem.Spec PyProof.Rows L2
/-! ### tuples that never change: ours, or the module's -/
noncomputable def TK (K : PySem.W.Frag) (H : Hp) (a : Addr) (xs : List V) : Prop := H a = some (.tup xs) ∨ ∃ (o : Obj) (its : Array Value) (n : Nat), K.lookup a = some o ∧ o.cls = .type "tuple" ∧ o.data = .seq its n ∧ its.size ≤ sizeLine ∧ Vals xs its.toList
theorem TK.of {K : PySem.W.Frag} {H : Hp} {a : Addr} {xs : List V} (h : H a = some (.tup xs)) : TK K H a xs := .inl h
theorem TK.sq {K : PySem.W.Frag} {H : Hp} {a : Addr} {xs : List V} (h : TK K H a xs) : SqT K H a xs := by
  rcases h with h | h
  · exact SqT.of h
  · exact .inr h
theorem TK.tup {K : PySem.W.Frag} {H H' : Hp} {a : Addr} {xs : List V} (h : TK K H a xs) (t : Tup H H') : TK K H' a xs := by
  rcases h with h | h
  · exact .inl (t _ _ h)
  · exact .inr h
theorem TK.same {K : PySem.W.Frag} {H H' : Hp} {a : Addr} {xs : List V} (h : TK K H a xs) (t : Same H H') : TK K H' a xs := h.tup t.tup
theorem TK.same' {K : PySem.W.Frag} {H H' : Hp} {a : Addr} {xs : List V} (t : Same H H') (h : TK K H a xs) : TK K H' a xs := h.tup t.tup
structure ShK (K : PySem.W.Frag) (H : Hp) (v : V) (q : Rat) : Prop where
  ex : ∃ a, v = .ref a ∧ TK K H a [.int q.num, .int (q.den : Int)]
structure PtK (K : PySem.W.Frag) (H : Hp) (v : V) (x y : Rat) : Prop where
  ex : ∃ a vx vy, v = .ref a ∧ TK K H a [vx, vy] ∧ ShK K H vx x ∧ ShK K H vy y
structure PtsK (K : PySem.W.Frag) (H : Hp) (vs : List V) (ps : List Pt) : Prop where
  len : vs.length = ps.length
  get : ∀ (i : Nat) v p, vs[i]? = some v → ps[i]? = some p → PtK K H v p.1 p.2
section
variable {K : PySem.W.Frag} {H H' : Hp} {v : V} {q x y : Rat} {vs : List V} {ps : List Pt}
theorem ShK.tup (h : ShK K H v q) (t : Tup H H') : ShK K H' v q := by obtain ⟨a, rfl, h⟩ := h; exact ⟨a, rfl, h.tup t⟩
theorem ShK.same (h : ShK K H v q) (t : Same H H') : ShK K H' v q := h.tup t.tup
theorem ShV.k (h : ShV H v q) : ShK K H v q := by obtain ⟨a, rfl, h⟩ := h; exact ⟨a, rfl, .inl h⟩
theorem PtK.tup (h : PtK K H v x y) (t : Tup H H') : PtK K H' v x y := by obtain ⟨a, vx, vy, rfl, h, h1, h2⟩ := h; exact ⟨a, vx, vy, rfl, h.tup t, h1.tup t, h2.tup t⟩
theorem PtK.same (h : PtK K H v x y) (t : Same H H') : PtK K H' v x y := h.tup t.tup
theorem PtV.k (h : PtV H v x y) : PtK K H v x y := by obtain ⟨a, vx, vy, rfl, h, h1, h2⟩ := h; exact ⟨a, vx, vy, rfl, .inl h, h1.k, h2.k⟩
theorem PtsK.tup (h : PtsK K H vs ps) (t : Tup H H') : PtsK K H' vs ps := ⟨h.len, fun i v p e1 e2 => (h.get i v p e1 e2).tup t⟩
theorem PtsK.same (h : PtsK K H vs ps) (t : Same H H') : PtsK K H' vs ps := h.tup t.tup
theorem PtsV.k (h : PtsV H vs ps) : PtsK K H vs ps := ⟨h.len, fun i v p e1 e2 => (h.get i v p e1 e2).k⟩
theorem PtsK.nil (K : PySem.W.Frag) (H : Hp) : PtsK K H [] [] := ⟨rfl, fun i v p e _ => by simp at e⟩
theorem PtsK.at (h : PtsK K H vs ps) {i : Nat} {p : Pt} (hp : ps[i]? = some p) : ∃ v, vs[i]? = some v ∧ PtK K H v p.1 p.2 := by
  have hi : i < ps.length := (List.getElem?_eq_some_iff.mp hp).1
  have e : vs[i]? = some (vs[i]'(by rw [h.len]; exact hi)) := List.getElem?_eq_getElem _
  exact ⟨_, e, h.get i _ p e hp⟩
end
/-! ### differences -/
/-! sizes -/
theorem Ov.zero (D : Int) (n : Nat) : Ov D (n + 1) 0 := ⟨0, by simp, ⟨by show 0 < _; exact Nat.two_pow_pos _⟩⟩
/-! ### isinstance, also of the module's tuples -/
section
variable {X : Cx}
end
/-! ### promises -/
theorem ovp_bd4 {D : Int} {n d : Nat} {p : Pt} (hD : 0 < D) (zD : Sz d D) (h : OvP D n p) (k : Nat) (h1 : n ≤ k) (h2 : d ≤ k) : Bd k p.1 ∧ Bd k p.2 :=
  ⟨(h.1.bd (by omega) zD).mono (by omega), (h.2.bd (by omega) zD).mono (by omega)⟩
end Cv

namespace Cv
open PySem PySem.Spec PyProof.Rows L2
/-! ### a list is unpacked -/
section
variable {prog : Program} {w : World} {A : Around} {E : Value → Shared → Prop}
variable {s : Shared}
end
section
variable {X : Cx}
end
end Cv

namespace Cv
open PySem PySem.Spec PyProof.Rows L2
/-! ### places: pairs of whole numbers, in lists -/
noncomputable abbrev Pl := Int × Int
structure PlsV (H : Hp) (vs : List V) (pl : List Pl) : Prop where
  len : vs.length = pl.length
  get : ∀ (i : Nat) v p, vs[i]? = some v → pl[i]? = some p → RwV H v p.1 p.2
section
variable {H H' : Hp} {vs : List V} {pl : List Pl}
theorem PlsV.tup (h : PlsV H vs pl) (t : Tup H H') : PlsV H' vs pl := ⟨h.len, fun i v p e1 e2 => (h.get i v p e1 e2).tup t⟩
theorem PlsV.same (h : PlsV H vs pl) (t : Same H H') : PlsV H' vs pl := h.tup t.tup
theorem PlsV.at (h : PlsV H vs pl) {i : Nat} {p : Pl} (hp : pl[i]? = some p) : ∃ a, vs[i]? = some (.ref a) ∧ H a = some (.tup [.int p.1, .int p.2]) := by
  have hi : i < pl.length := (List.getElem?_eq_some_iff.mp hp).1
  have e : vs[i]? = some (vs[i]'(by rw [h.len]; exact hi)) := List.getElem?_eq_getElem _
  obtain ⟨a, e2, h2⟩ := h.get i _ p e hp
  exact ⟨a, by rw [e, e2], h2⟩
end
theorem plain_pls {K : PySem.W.Frag} {a : Addr} {ws : List V} {pl : List Pl} {H1 : Hp} (h : SqL K H1 a ws) (hP : PlsV H1 ws pl) : Plain2 K (Itl K a) H1 pl.length (fun i => .int ((pl[i]?).getD (0, 0)).1) (fun i => .int ((pl[i]?).getD (0, 0)).2) := fun H2 s i => by
  refine ⟨fun hi => ?_, fun e => ⟨ws, s.seq h, by rw [hP.len]; omega⟩⟩
  obtain ⟨b, e1, hb⟩ := hP.at (List.getElem?_eq_getElem hi)
  refine ⟨⟨ws, _, s.seq h, e1⟩, fun x H' y => ?_⟩
  obtain ⟨rfl, y2⟩ := y
  have := y2 ws (s.seq h)
  rw [e1] at this
  refine ⟨L2.Same.refl _, b, (Option.some.inj this).symm, SqT.of ?_⟩
  show H' b = some (.tup [.int ((pl[i]?).getD (0, 0)).1, .int ((pl[i]?).getD (0, 0)).2])
  rw [List.getElem?_eq_getElem hi]
  exact s _ _ hb
structure WayV (H : Hp) (v : V) (B kd : Int) : Prop where
  ex : ∃ (a s b : Addr) (sx sy bx by_ : Int), v = .ref a ∧ H a = some (.tup [.int B, .int kd, .ref s, .ref b]) ∧ H s = some (.tup [.int sx, .int sy]) ∧ H b = some (.tup [.int bx, .int by_]) ∧ 1 ≤ B ∧ B ≤ 1000000007 ∧ sx.natAbs ≤ 20 ∧ sy.natAbs ≤ 20 ∧ bx.natAbs ≤ 3 ∧ by_.natAbs ≤ 3
theorem WayV.same {H H' : Hp} {v : V} {B kd : Int} (h : WayV H v B kd) (t : Same H H') : WayV H' v B kd := by
  obtain ⟨a, s, b, sx, sy, bx, by_, rfl, h1, h2, h3, r⟩ := h
  exact ⟨a, s, b, sx, sy, bx, by_, rfl, t _ _ h1, t _ _ h2, t _ _ h3, r⟩
/-! ### least and greatest -/
noncomputable def LeastQ (qs : List Rat) (m : Rat) : Prop := m ∈ qs ∧ ∀ q ∈ qs, m ≤ q
noncomputable def GreatQ (qs : List Rat) (m : Rat) : Prop := m ∈ qs ∧ ∀ q ∈ qs, q ≤ m
theorem LeastQ.one {qs : List Rat} {a b : Rat} (h1 : LeastQ qs a) (h2 : LeastQ qs b) : a = b := Rat.le_antisymm (h1.2 b h2.1) (h2.2 a h1.1)
theorem GreatQ.one {qs : List Rat} {a b : Rat} (h1 : GreatQ qs a) (h2 : GreatQ qs b) : a = b := Rat.le_antisymm (h2.2 a h1.1) (h1.2 b h2.1)
theorem LeastQ.of {qs rs : List Rat} {a : Rat} (h : LeastQ qs a) (e : ∀ q, q ∈ qs ↔ q ∈ rs) : LeastQ rs a := ⟨(e a).mp h.1, fun q hq => h.2 q ((e q).mpr hq)⟩
theorem GreatQ.of {qs rs : List Rat} {a : Rat} (h : GreatQ qs a) (e : ∀ q, q ∈ qs ↔ q ∈ rs) : GreatQ rs a := ⟨(e a).mp h.1, fun q hq => h.2 q ((e q).mpr hq)⟩
structure BoxV (H : Hp) (v : V) (xs ys : List Rat) : Prop where
  ex : ∃ (a : Addr) (v1 v2 v3 v4 : V) (q1 q2 q3 q4 : Rat), v = .ref a ∧ H a = some (.tup [v1, v2, v3, v4]) ∧ ShV H v1 q1 ∧ ShV H v2 q2 ∧ ShV H v3 q3 ∧ ShV H v4 q4 ∧ LeastQ xs q1 ∧ LeastQ ys q2 ∧ GreatQ xs q3 ∧ GreatQ ys q4
theorem BoxV.same {H H' : Hp} {v : V} {xs ys : List Rat} (h : BoxV H v xs ys) (t : Same H H') : BoxV H' v xs ys := by
  obtain ⟨a, v1, v2, v3, v4, q1, q2, q3, q4, rfl, h0, h1, h2, h3, h4, r⟩ := h
  exact ⟨a, v1, v2, v3, v4, q1, q2, q3, q4, rfl, t _ _ h0, h1.same t, h2.same t, h3.same t, h4.same t, r⟩
theorem BoxV.of {H : Hp} {v : V} {xs ys xs' ys' : List Rat} (h : BoxV H v xs ys) (e1 : ∀ q, q ∈ xs ↔ q ∈ xs') (e2 : ∀ q, q ∈ ys ↔ q ∈ ys') : BoxV H v xs' ys' := by
  obtain ⟨a, v1, v2, v3, v4, q1, q2, q3, q4, rfl, h0, h1, h2, h3, h4, r1, r2, r3, r4⟩ := h
  exact ⟨a, v1, v2, v3, v4, q1, q2, q3, q4, rfl, h0, h1, h2, h3, h4, r1.of e1, r2.of e2, r3.of e1, r4.of e2⟩
/-! ### lists of whole numbers -/
end Cv

namespace Cv
open PySem PySem.Spec PyProof.Rows L2
/-! ### list(zip(a, b)): a zip whose tuples are kept -/
section
variable {prog : Program} {w : World} {A : Around} {E : Value → Shared → Prop} {s : Shared}
end
section
variable {X : Cx} {pins : List (Addr × Obj)} {σ : L2.St} {A : Around}
end
end Cv

namespace Cv
open PySem PySem.Spec PyProof.Rows L2
/-! ### powers of an axis: whole numbers -/
/-! ### seats of powers: sums -/
/-! ### the point by powers -/
/-! ### sizes -/
/-! ### promises -/
theorem AxV.mono {H : Hp} {v : V} {n m : Nat} {t b : List Int} (h : AxV H v n t b) (hn : n ≤ m) : AxV H v m t b := by
  obtain ⟨a, lt, lb, e, h1, h2, h3, h4, r⟩ := h
  exact ⟨a, lt, lb, e, h1, h2, h3, fun x hx => (h4 x hx).mono hn, r⟩
end Cv

namespace Cv
open PySem PySem.Spec PyProof.Rows L2
/-! ### range that goes down by one -/
section
variable {X : Cx} {tg : Expr}
end
/-! ### raising -/
/-- the k-th raised number -/
noncomputable def rr (N : Nat) (g : Nat → Rat) (k : Nat) : Rat := ((((N : Int) : Rat) - ((k : Int) : Rat)) * g k + ((k : Int) : Rat) * g (k - 1)) / ((N : Int) : Rat)
/-! promises -/
end Cv

namespace Cv
open PySem PySem.Spec PyProof.Rows L2
/-! ### joins: powers behind the end -/
noncomputable def sg : Nat → Rat
  | 0 => 1
  | k + 1 => -(sg k)
/-! ### speeds by whole numbers -/
/-- how often they are alike -/
structure Cnt (E : Nat → Prop) (most : Nat) (r : Int) : Prop where
  lo : -1 ≤ r
  hi : r ≤ most
  all : ∀ j : Nat, (j : Int) ≤ r → E j
  stop : r = most ∨ ¬ E (r + 1).toNat
theorem Cnt.one {E : Nat → Prop} {most : Nat} {r s : Int} (h1 : Cnt E most r) (h2 : Cnt E most s) : r = s := by
  have key : ∀ {r s : Int}, Cnt E most r → Cnt E most s → ¬ r < s := fun {r s} h1 h2 hlt => by
    have := h1.lo
    have := h2.hi
    rcases h1.stop with q | q
    · omega
    · exact q (h2.all _ (by omega))
  have a := key h1 h2
  have b := key h2 h1
  omega
/-! ### differences of places -/
theorem PlsV.snoc {H : Hp} {vs : List V} {pl : List Pl} {v : V} {p : Pl} (h : PlsV H vs pl) (hv : RwV H v p.1 p.2) : PlsV H (vs ++ [v]) (pl ++ [p]) := by
  refine ⟨by simp [h.len], fun i w q e1 e2 => ?_⟩
  have hl := h.len
  by_cases hi : i < vs.length
  · rw [List.getElem?_append_left hi] at e1
    rw [List.getElem?_append_left (by omega)] at e2
    exact h.get i w q e1 e2
  · rw [List.getElem?_append_right (by omega)] at e1 e2
    rw [← hl] at e2
    cases hk : i - vs.length with
    | zero =>
      rw [hk] at e1 e2
      simp at e1 e2
      subst e1 e2
      exact hv
    | succ k => rw [hk] at e1; simp at e1
theorem PlsV.nil (H : Hp) : PlsV H [] [] := ⟨rfl, fun i v p e => by simp at e⟩
/-! ### promises -/
section
variable {X : Cx}
end
theorem cut_dropV (xs : List V) (k : Int) (n : Nat) (e : k = (n : Int)) (h : n ≤ xs.length) : cutV xs (some k) none = xs.drop n := by
  have := cut_fromI (fun v : V => v) xs k n e h
  simpa using this
end Cv

namespace Cv
open PySem PySem.Spec PyProof.Rows L2
/-! ### lists of shares, the module's among them -/
structure ShLK (K : PySem.W.Frag) (H : Hp) (vs : List V) (qs : List Rat) : Prop where
  len : vs.length = qs.length
  get : ∀ (i : Nat) v q, vs[i]? = some v → qs[i]? = some q → ShK K H v q
section
variable {K : PySem.W.Frag} {H H' : Hp} {vs : List V} {qs : List Rat}
theorem ShLK.tup (h : ShLK K H vs qs) (t : Tup H H') : ShLK K H' vs qs := ⟨h.len, fun i v q e1 e2 => (h.get i v q e1 e2).tup t⟩
theorem ShLK.same (h : ShLK K H vs qs) (t : Same H H') : ShLK K H' vs qs := h.tup t.tup
theorem ShL.k (h : ShL H vs qs) : ShLK K H vs qs := ⟨h.len, fun i v q e1 e2 => (h.get i v q e1 e2).k⟩
theorem ShLK.map {ps : List Pt} {f : Pt → Rat} {ys : List V} (hl : ys.length = ps.length) (h : ∀ (i : Nat) v, ys[i]? = some v → ∀ p, ps[i]? = some p → ShK K H v (f p)) : ShLK K H ys (ps.map f) := by
  refine ⟨by rw [hl, List.length_map], fun i v q e1 e2 => ?_⟩
  rw [List.getElem?_map] at e2
  cases e3 : ps[i]? with
  | none => rw [e3] at e2; cases e2
  | some p =>
    rw [e3] at e2
    cases e2
    exact h i v e1 p e3
end
/-! ### onward -/
/-! ### promises -/
end Cv

namespace Cv
open PySem PySem.Spec PyProof.Rows L2
/-! ### reversed(range(n)), walked -/
section
variable {prog : Program} {w : World} {A : Around} {E : Value → Shared → Prop} {s : Shared}
end
section
variable {X : Cx} {tg : Expr}
end
/-! ### e[:0:-1], a list -/
section
variable {X : Cx}
end
end Cv

namespace Cv
open PySem PySem.Spec PyProof.Rows L2
/-! ### through points: the steps beside them, by whole numbers -/
end Cv
namespace Cv
open PySem PySem.Spec PyProof.Rows L2
/-! ### the lists of steps_beside -/
end Cv
namespace Cv
open PySem PySem.Spec PyProof.Rows L2
end Cv
namespace Cv
open PySem PySem.Spec PyProof.Rows L2
end Cv
namespace Cv
open PySem PySem.Spec PyProof.Rows L2
end Cv

namespace Cv
open PySem PySem.Spec PyProof.Rows L2
/-! ### lists of new lists -/
structure LsV (H1 H2 : Hp) (D : Addr) (ys : List V) (R : Nat → List V → Hp → Prop) : Prop where
  get : ∀ (i : Nat) (v : V), ys[i]? = some v → ∃ (l : Addr) (xs : List V), v = V.ref l ∧ H1 l = none ∧ l ≠ D ∧ H2 l = some (HO.lst xs) ∧ R i xs H2
  one : ∀ (i j : Nat) (v : V), ys[i]? = some v → ys[j]? = some v → i = j
section
variable {K : PySem.W.Frag} {J : It} {H1 : Hp} {te : TE} {cs : L2.St} {Q : VK} {n : Nat}
theorem compL {f : Nat → V} (hJ : Plain1 J H1 n f) (hn : n ≤ 100000) (R : Nat → List V → Hp → Prop) (hR : ∀ i v H H', Tup H H' → R i v H → R i v H')
    (he : ∀ i H2 (k : VK), i < n → Same H1 H2 → (∀ l xs H3, Same H2 H3 → H2 l = none → H3 l = some (.lst xs) → R i xs H3 → k (.ref l) H3) → te (some (f i) :: cs) H2 k)
    (hq : ∀ D ys H2, H1 D = none → Same H1 H2 → H2 D = some (.lst ys) → ys.length = n → LsV H1 H2 D ys R → Q (.ref D) H2) :
    CompGoal 1 J H1 (gName 0) te cs Q := by
  intro D hD
  refine ⟨fun i m ys H2 => m = n - i ∧ i ≤ n ∧ ys.length = i ∧ Same H1 H2 ∧ H2 D = some (.lst ys) ∧ LsV H1 H2 D ys R, ⟨n, by simp, Nat.zero_le _, rfl, Same.new hD, upd_same, ⟨fun j v e => by simp at e, fun i j v e => by simp at e⟩⟩, ?_⟩
  rintro i m ys H2 ⟨rfl, hi, hl, s2, d2, r2⟩
  by_cases hlt : i < n
  · refine .inr ⟨((hJ H2 s2 i).1 hlt).1, fun x H' y own ho => ?_⟩
    obtain ⟨rfl, rfl⟩ := ((hJ H2 s2 i).1 hlt).2 x H' y
    cases own with
    | nil => cases ho
    | cons o1 r =>
      cases r with
      | cons _ _ => cases ho
      | nil =>
        refine ⟨⟨[some (f i)], rfl, rfl⟩, he i _ _ hlt s2 fun l xs H3 s3 hl0 hl3 r3 => ⟨s3 _ _ d2, small_line (by omega), n - (i + 1), by omega, rfl, hlt, by rw [List.length_append, hl]; rfl, fun b o e => ?_, upd_same, ?_⟩⟩
        · rw [upd_ne (ne_of_none e hD)]; exact s3 _ _ (s2 _ _ e)
        · have t3 : Tup H3 (upd H3 D (.lst (ys ++ [V.ref l]))) := Tup.lst (s3 _ _ d2)
          have nD : l ≠ D := fun e => by rw [e, d2] at hl0; cases hl0
          have snocc : ∀ j w, (ys ++ [V.ref l])[j]? = some w → (ys[j]? = some w ∧ j < i) ∨ (j = i ∧ w = V.ref l) := fun j w e => by
            by_cases hj : j < ys.length
            · rw [List.getElem?_append_left hj] at e
              exact .inl ⟨e, by omega⟩
            · rw [List.getElem?_append_right (by omega)] at e
              have hj0 : j - ys.length = 0 := by
                cases q : j - ys.length with
                | zero => rfl
                | succ k => rw [q] at e; simp at e
              rw [hj0] at e
              exact .inr ⟨by omega, by simpa using e.symm⟩
          refine ⟨fun j w e => ?_, fun j1 j2 w e1 e2 => ?_⟩
          · rcases snocc j w e with ⟨e, _⟩ | ⟨rfl, rfl⟩
            · obtain ⟨l', xs', rfl, a1, a2, a3, a4⟩ := r2.get j w e
              exact ⟨l', xs', rfl, a1, a2, by rw [upd_ne a2]; exact s3 _ _ a3, hR _ _ _ _ (s3.tup.trans t3) a4⟩
            · exact ⟨l, xs, rfl, s2.free hl0, nD, by rw [upd_ne nD]; exact hl3, hR _ _ _ _ t3 r3⟩
          · rcases snocc j1 w e1 with ⟨f1, g1⟩ | ⟨rfl, rfl⟩
            · rcases snocc j2 w e2 with ⟨f2, g2⟩ | ⟨rfl, rfl⟩
              · exact r2.one j1 j2 w f1 f2
              · obtain ⟨l', xs', e', a1, a2, a3, a4⟩ := r2.get j1 _ f1
                cases e'
                rw [a3] at hl0; cases hl0
            · rcases snocc j2 _ e2 with ⟨f2, g2⟩ | ⟨rfl, _⟩
              · obtain ⟨l', xs', e', a1, a2, a3, a4⟩ := r2.get j2 _ f2
                cases e'
                rw [a3] at hl0; cases hl0
              · rfl
  · have e : i = n := by omega
    subst e
    exact .inl ⟨(hJ H2 s2 i).2 rfl, hq D ys H2 hD s2 d2 hl r2⟩
end
theorem LsV.base {H0 H1 H2 : Hp} {D : Addr} {ys : List V} {R : Nat → List V → Hp → Prop} (h : LsV H1 H2 D ys R) (s : Same H0 H1) : LsV H0 H2 D ys R :=
  ⟨fun i v e => by obtain ⟨l, xs, e1, e2, e3⟩ := h.get i v e; exact ⟨l, xs, e1, s.free e2, e3⟩, h.one⟩
end Cv

namespace Cv
open PySem PySem.Spec PyProof.Rows L2
/-! ### the curves through points -/
end Cv
namespace Cv
open PySem PySem.Spec PyProof.Rows L2
noncomputable def spAxisD (K : PySem.W.Frag) : Sp := fun vs H Q _ => ∃ (a : Addr) (ws : List V) (qs : List Rat) (D : Int) (m : Nat), vs = [.ref a] ∧ SqL K H a ws ∧ ShL H ws qs ∧ 0 < D ∧ Sz 9000 D ∧ (∀ q ∈ qs, (q.den : Int) ∣ D ∧ Bd m q) ∧ m ≤ 9000 ∧ qs.length ≤ 40 ∧
  ∀ v tops bs H', Same H H' → AxV H' v (m + 9000) tops bs → axR tops bs = qs → bs.length ≤ qs.length → prodI bs ∣ D → Q v H'
noncomputable def spAxesD (K : PySem.W.Frag) : Sp := fun vs H Q _ => ∃ (a : Addr) (ws : List V) (ps : List Pt) (D : Int) (m : Nat), vs = [.ref a] ∧ SqL K H a ws ∧ PtsV H ws ps ∧ 0 < D ∧ Sz 9000 D ∧ (∀ p ∈ ps, ((p.1.den : Int) ∣ D ∧ Bd m p.1) ∧ (p.2.den : Int) ∣ D ∧ Bd m p.2) ∧ m ≤ 9000 ∧ ps.length ≤ 40 ∧
  ∀ c x y t1 b1 t2 b2 H', Same H H' → H' c = some (.tup [x, y]) → AxV H' x (m + 9000) t1 b1 → AxV H' y (m + 9000) t2 b2 → axR t1 b1 = ps.map (·.1) → axR t2 b2 = ps.map (·.2) → b1.length ≤ ps.length → b2.length ≤ ps.length → prodI b1 ∣ D → prodI b2 ∣ D → Q (.ref c) H'
end Cv
namespace Cv
open PySem PySem.Spec PyProof.Rows L2
end Cv

namespace Cv
open PySem PySem.Spec PyProof.Rows L2
section
variable {X : Cx}
/-- a list as a test: it is true where it is not empty -/
noncomputable def tTrL (t : TE) : TT := fun σ H Q => t σ H fun x H1 => ∃ (a : Addr) (xs : List V), x = .ref a ∧ H1 a = some (.lst xs) ∧ Q (!xs.isEmpty) H1
theorem pt_lst {e : Expr} {t : TE} (h : PE X e t) (he : ∀ whole, isTrue e X.env whole = (do let v ← whole; standAt e.pos; holding [v] (truthy v)) := by intro _; rfl) : PT X e (tTrL t) := by
  intro pins s σ H Q I hw
  refine isTrue_plain (thn (h pins s σ H _ I hw) fun v s1 ⟨x, H1, I1, r1, q1⟩ => ?_) (he _)
  obtain ⟨a, xs, rfl, hH, q⟩ := q1
  cases r1
  obtain ⟨z, its, n, r, hl, e⟩ := I1.lstM hH
  have hz : sizeLine < 2 ^ 63 := by rw [sizeLine_eq]; decide
  refine wpAny_truthy_list (items := its.toArray) ⟨_, e, rfl, n, rfl⟩ (by rw [List.size_toArray]; omega) ?_
  have eb : its.toArray.isEmpty = xs.isEmpty := by
    rw [List.isEmpty_toArray]
    cases its with
    | nil => cases xs with
      | nil => rfl
      | cons _ _ => simp at hl
    | cons _ _ => cases xs with
      | nil => simp at hl
      | cons _ _ => rfl
  rw [eb]
  exact ⟨H1, I1.tok _, q⟩
theorem pt_lstI {e : Expr} {t : TE} (h : PEi X e t) (he : ∀ whole, isTrue e X.env whole = (do let v ← whole; standAt e.pos; holding [v] (truthy v)) := by intro _; rfl) : PTi X e (tTrL t) := by with_unfolding_all exact pt_lst (h := h) (he := he)
end
section
variable {K : PySem.W.Frag} {J : It} {H1 : Hp} {te : TE} {cs : L2.St} {Q : VK} {n : Nat}
/-- a comprehension over pairs of pairs, each unpacked into two names -/
theorem comp22 {fa ga : Nat → Addr} {x y u v : Nat → V} (hJ : Plain2 K J H1 n (fun i => .ref (fa i)) (fun i => .ref (ga i))) (hf : ∀ i, i < n → SqT K H1 (fa i) [x i, y i]) (hg : ∀ i, i < n → SqT K H1 (ga i) [u i, v i]) (hn : n ≤ 100000) (R : Nat → V → Hp → Prop) (hR : ∀ i v H H', Tup H H' → R i v H → R i v H')
    (he : ∀ i H2 (k : VK), i < n → Same H1 H2 → (∀ v H3, Same H2 H3 → R i v H3 → k v H3) → te (some (x i) :: some (y i) :: some (u i) :: some (v i) :: cs) H2 k)
    (hq : ∀ D ys H2, H1 D = none → Same H1 H2 → H2 D = some (.lst ys) → ys.length = n → (∀ i v, ys[i]? = some v → R i v H2) → Q (.ref D) H2) :
    CompGoal 4 J H1 (gTup K 2 (gCons (gTup K 2 (gCons (gName 0) (gCons (gName 1) gNil))) (gCons (gTup K 2 (gCons (gName 2) (gCons (gName 3) gNil))) gNil))) te cs Q := by
  intro D hD
  refine ⟨fun i m ys H2 => m = n - i ∧ i ≤ n ∧ ys.length = i ∧ Same H1 H2 ∧ H2 D = some (.lst ys) ∧ ∀ j v, ys[j]? = some v → R j v H2, ⟨n, by simp, Nat.zero_le _, rfl, Same.new hD, upd_same, fun j v e => by simp at e⟩, ?_⟩
  rintro i m ys H2 ⟨rfl, hi, hl, s2, d2, r2⟩
  by_cases hlt : i < n
  · refine .inr ⟨((hJ H2 s2 i).1 hlt).1, fun x' H' y' own ho => ?_⟩
    obtain ⟨s2', a, rfl, ht⟩ := ((hJ H2 s2 i).1 hlt).2 x' H' y'
    obtain ⟨o1, o2, o3, o4, rfl⟩ : ∃ o1 o2 o3 o4, own = [o1, o2, o3, o4] := by
      match own, ho with
      | [o1, o2, o3, o4], _ => exact ⟨o1, o2, o3, o4, rfl⟩
    refine ⟨a, _, rfl, ht, rfl, _, _, rfl, fa i, _, rfl, SqT.same (s2.trans s2') (hf i hlt), rfl, _, _, rfl, _, _, rfl, rfl, _, _, rfl, ga i, _, rfl, SqT.same (s2.trans s2') (hg i hlt), rfl, _, _, rfl, _, _, rfl, rfl, rfl, ⟨[some (x i), some (y i), some (u i), some (v i)], rfl, rfl⟩, he i _ _ hlt (s2.trans s2') fun v H3 s3 r3 => ⟨s3 _ _ (s2' _ _ d2), small_line (by omega), n - (i + 1), by omega, rfl, hlt, by rw [List.length_append, hl]; rfl, fun b o e => ?_, upd_same, fun j w e => ?_⟩⟩
    · rw [upd_ne (ne_of_none e hD)]; exact s3 _ _ (s2' _ _ (s2 _ _ e))
    · have t3 : Tup H3 (upd H3 D (.lst (ys ++ [v]))) := Tup.lst (s3 _ _ (s2' _ _ d2))
      by_cases hj : j < ys.length
      · rw [List.getElem?_append_left hj] at e
        exact hR _ _ _ _ ((s2'.trans s3).tup.trans t3) (r2 j w e)
      · rw [List.getElem?_append_right (by omega)] at e
        have hj0 : j - ys.length = 0 := by
          cases q : j - ys.length with
          | zero => rfl
          | succ k => rw [q] at e; simp at e
        rw [hj0] at e
        have e' : v = w := by simpa using e
        have hji : j = i := by omega
        rw [← e', hji]
        exact hR _ _ _ _ t3 r3
  · have e : i = n := by omega
    subst e
    exact .inl ⟨(hJ H2 s2 i).2 rfl, hq D ys H2 hD s2 d2 hl r2⟩
end
end Cv

namespace Cv
open PySem PySem.Spec PyProof.Rows L2
/-! ### a list comprehension of two clauses -/
theorem compTurn_two0 (elt t1 i1 t2 i2 : Expr) (scope : Scope) (pos : Pos) (it acc : Value) (env : Env) :
    compTurn (.ListComp elt [⟨t1, i1, [], 0⟩, ⟨t2, i2, [], 0⟩] scope pos) 0 it acc env = (standAt i1.pos >>= fun _ => pyNext it >>= fun r => match r with
      | none => pure (.done .next)
      | some v => letOwnedTupleGo t1 it v >>= fun _ => assign t1 env v >>= fun _ =>
        eval i2 env >>= fun x => standAt i2.pos >>= fun _ => foldedSetIterable i2 env x >>= fun x => holding [x] (pyIter x) >>= fun it2 =>
          runOwn (.compStart (.ListComp elt [⟨t1, i1, [], 0⟩, ⟨t2, i2, [], 0⟩] scope pos) 1 it2 acc env) env >>= fun _ =>
          again (.compLoop (.ListComp elt [⟨t1, i1, [], 0⟩, ⟨t2, i2, [], 0⟩] scope pos) 0 it acc env)) := by rfl
theorem compTurn_two1 (elt t1 i1 t2 i2 : Expr) (scope : Scope) (pos : Pos) (it acc : Value) (env : Env) :
    compTurn (.ListComp elt [⟨t1, i1, [], 0⟩, ⟨t2, i2, [], 0⟩] scope pos) 1 it acc env = (standAt i2.pos >>= fun _ => pyNext it >>= fun r => match r with
      | none => pure (.done .next)
      | some v => letOwnedTupleGo t2 it v >>= fun _ => assign t2 env v >>= fun _ =>
        (eval elt env >>= fun x => call (.builtin "list.append") [acc, x] >>= fun _ => pure ()) >>= fun _ =>
          again (.compLoop (.ListComp elt [⟨t1, i1, [], 0⟩, ⟨t2, i2, [], 0⟩] scope pos) 1 it acc env)) := by rfl
section
variable {prog : Program} {w : World} {A : Around} {R : Result → Shared → Prop} {s : Shared}
theorem compStart_two1 {elt t1 i1 t2 i2 : Expr} {scope : Scope} {pos : Pos} {it acc : Value} {env : Env}
    (h0 : codeAny (model prog w) A (.compLoop (.ListComp elt [⟨t1, i1, [], 0⟩, ⟨t2, i2, [], 0⟩] scope pos) 1 it acc env) R s)
    (h : wpAny (model prog w) A (pyIter it) (fun it' s' => codeAny (model prog w) A (.compLoop (.ListComp elt [⟨t1, i1, [], 0⟩, ⟨t2, i2, [], 0⟩] scope pos) 1 it' acc env) R s')
      (notedBy (model prog w) A env fun x s' => R (.error x) s') s) :
    codeAny (model prog w) A (.compStart (.ListComp elt [⟨t1, i1, [], 0⟩, ⟨t2, i2, [], 0⟩] scope pos) 1 it acc env) R s := by
  refine codeAny_of_tree ?_
  show wpAny _ _ ((compStart (.ListComp elt [⟨t1, i1, [], 0⟩, ⟨t2, i2, [], 0⟩] scope pos) 1 it acc env).onRaise (fun x => do noteFrame x env; standAt theWindowsPlace)) _ _ s
  refine wpAny_notedAt ?_
  unfold compStart
  show wpAny _ _ (ask >>= _) _ _ s
  refine wpAny_bind (wpAny_askSetting (wpAny_ite ?_))
  split
  · first
      | exact wpAny_bind (wpAny_pure (wpAny_pure (And.intro rfl h0)))
      | exact wpAny_pure (And.intro rfl h0)
  · first
      | exact wpAny_bind (wpAny_rule (wpAny_bind (wpAny_standAt (wpAny_bind (wpAny_mono h (fun it' s' h' => wpAny_pure (And.intro rfl h')) fun _ _ x => x)))))
      | (refine wpAny_bind (wpAny_rule ?_); show wpAny _ _ (standAt i2.pos >>= _) _ _ s; exact wpAny_bind (wpAny_standAt (wpAny_bind (wpAny_mono h (fun it' s' h' => wpAny_pure (And.intro rfl h')) fun _ _ x => x))))
theorem compLoop_two1 {elt t1 i1 t2 i2 : Expr} {scope : Scope} {pos : Pos} {it acc : Value} {env : Env} (I : Nat → Shared → Prop)
    (turn : ∀ n s, I n s → wpAny (model prog w) A (pyNext it) (fun r s₁ => match r with
      | none => R (.ok .next) s₁
      | some v => wpAny (model prog w) A (letOwnedTupleGo t2 it v) (fun _ s₁' => wpAny (model prog w) A (assign t2 env v) (fun _ s₂ => wpAny (model prog w) A (eval elt env) (fun x s₃ =>
          wpAny (model prog w) A (call (.builtin "list.append") [acc, x]) (fun _ s₄ => ∃ m, m < n ∧ I m s₄) (notedBy (model prog w) A env fun e s' => R (.error e) s') s₃)
          (notedBy (model prog w) A env fun e s' => R (.error e) s') s₂) (notedBy (model prog w) A env fun e s' => R (.error e) s') s₁') (notedBy (model prog w) A env fun e s' => R (.error e) s') s₁) (notedBy (model prog w) A env fun e s' => R (.error e) s') s)
    (n : Nat) (h : I n s) :
    codeAny (model prog w) A (.compLoop (.ListComp elt [⟨t1, i1, [], 0⟩, ⟨t2, i2, [], 0⟩] scope pos) 1 it acc env) R s := by
  refine codeAny_loop rfl I (fun n s hI => ?_) n h
  show wpAny _ _ ((compTurn (.ListComp elt [⟨t1, i1, [], 0⟩, ⟨t2, i2, [], 0⟩] scope pos) 1 it acc env).onRaise (fun x => do noteFrame x env; theTreesLotGoes x)) _ _ s
  refine wpAny_noted ?_
  rw [compTurn_two1]
  refine wpAny_bind (wpAny_standAt (wpAny_bind (wpAny_mono (turn n s hI) (fun r s₁ h₁ => ?_) fun _ _ h' => h')))
  cases r with
  | none => exact wpAny_pure h₁
  | some v =>
    refine wpAny_bind (wpAny_mono h₁ (fun _ s₁' h₁' => ?_) fun _ _ h' => h')
    exact wpAny_bind (wpAny_mono h₁' (fun _ s₂ h₂ => wpAny_bind (wpAny_bind (wpAny_mono h₂ (fun x s₃ h₃ => wpAny_bind (wpAny_mono h₃
      (fun _ s₄ h₄ => wpAny_pure (wpAny_pure ⟨rfl, h₄⟩)) fun _ _ h' => h')) fun _ _ h' => h'))) fun _ _ h' => h')
theorem compLoop_two0 {elt t1 i1 t2 i2 : Expr} {scope : Scope} {pos : Pos} {it acc : Value} {env : Env} (I : Nat → Shared → Prop) (hfs : ∀ v, foldedSetIterable i2 env v = pure v)
    (turn : ∀ n s, I n s → wpAny (model prog w) A (pyNext it) (fun r s₁ => match r with
      | none => R (.ok .next) s₁
      | some v => wpAny (model prog w) A (letOwnedTupleGo t1 it v) (fun _ s₁' => wpAny (model prog w) A (assign t1 env v) (fun _ s₂ => wpAny (model prog w) A (eval i2 env) (fun x s₃ =>
          wpAny (model prog w) A (pyIter x) (fun it2 s₄ => codeAny (model prog w) A (.compStart (.ListComp elt [⟨t1, i1, [], 0⟩, ⟨t2, i2, [], 0⟩] scope pos) 1 it2 acc env) (fun r s' => match r with | .ok _ => ∃ m, m < n ∧ I m s' | .error e => cameBackBy (model prog w) A env (notedBy (model prog w) A env fun e s' => R (.error e) s') e s') s₄) (notedBy (model prog w) A env fun e s' => R (.error e) s') s₃)
          (notedBy (model prog w) A env fun e s' => R (.error e) s') s₂) (notedBy (model prog w) A env fun e s' => R (.error e) s') s₁') (notedBy (model prog w) A env fun e s' => R (.error e) s') s₁) (notedBy (model prog w) A env fun e s' => R (.error e) s') s)
    (n : Nat) (h : I n s) :
    codeAny (model prog w) A (.compLoop (.ListComp elt [⟨t1, i1, [], 0⟩, ⟨t2, i2, [], 0⟩] scope pos) 0 it acc env) R s := by
  refine codeAny_loop rfl I (fun n s hI => ?_) n h
  show wpAny _ _ ((compTurn (.ListComp elt [⟨t1, i1, [], 0⟩, ⟨t2, i2, [], 0⟩] scope pos) 0 it acc env).onRaise (fun x => do noteFrame x env; theTreesLotGoes x)) _ _ s
  refine wpAny_noted ?_
  rw [compTurn_two0]
  refine wpAny_bind (wpAny_standAt (wpAny_bind (wpAny_mono (turn n s hI) (fun r s₁ h₁ => ?_) fun _ _ h' => h')))
  cases r with
  | none => exact wpAny_pure h₁
  | some v =>
    refine wpAny_bind (wpAny_mono h₁ (fun _ s₁' h₁' => ?_) fun _ _ h' => h')
    refine wpAny_bind (wpAny_mono h₁' (fun _ s₂ h₂ => ?_) fun _ _ h' => h')
    refine wpAny_bind (wpAny_mono h₂ (fun x s₃ h₃ => ?_) fun _ _ h' => h')
    refine wpAny_bind (wpAny_standAt (wpAny_bind (wpAny_of_eq (hfs x) (wpAny_bind (wpAny_holding (wpAny_mono h₃ (fun it2 s₄ h₄ => ?_) fun _ _ h' => h'))))))
    refine wpAny_bind (wpAny_runOwn (codeAny_mono h₄ fun r s' h' => ?_))
    cases r with
    | ok f => exact wpAny_pure ⟨rfl, h'⟩
    | error e => exact h'
end
noncomputable def Comp2Goal (k : Nat) (J : It) (H1 : Hp) (g : TG) (wi2 : TI) (g2 : TG) (te : TE) (cs : L2.St) (Q : VK) : Prop := ∀ D, H1 D = none → ∃ W : Nat → Nat → List V → Hp → Prop, (∃ m, W 0 m [] (upd H1 D (.lst []))) ∧
  ∀ i m ys H2, W i m ys H2 → (J.stop i H2 ∧ Q (.ref D) H2) ∨ (J.go i H2 ∧ ∀ x H', J.yld i H2 x H' → ∀ own : L2.St, own.length = k → g x (own ++ cs) H' fun σ2 H4 => ∃ own1 : L2.St, own1.length = k ∧ σ2 = own1 ++ cs ∧
    wi2 σ2 H4 fun J2 H5 => ∃ W2 : Nat → Nat → List V → L2.St → Hp → Prop, (∃ m2, W2 0 m2 ys own1 H5) ∧
      ∀ j m2 ys2 own2 H6, W2 j m2 ys2 own2 H6 → (J2.stop j H6 ∧ ∃ m', m' < m ∧ W (i + 1) m' ys2 H6) ∨ (J2.go j H6 ∧ ∀ x2 H7, J2.yld j H6 x2 H7 → own2.length = k → g2 x2 (own2 ++ cs) H7 fun σ2 H4 => ∃ own3 : L2.St, own3.length = k ∧ σ2 = own3 ++ cs ∧
        te σ2 H4 fun v H3 => H3 D = some (.lst ys2) ∧ ys2.length < sizeLine ∧ ∃ m', m' < m2 ∧ W2 (j + 1) m' (ys2 ++ [v]) own3 (upd H3 D (.lst (ys2 ++ [v])))))
noncomputable def tComp2 (k : Nat) (wi : TI) (g : TG) (wi2 : TI) (g2 : TG) (te : TE) (ix : List Nat) : TE := fun σ H Q => wi σ H fun J H1 => Comp2Goal k J H1 g wi2 g2 te (capd σ ix) Q
section
variable {X : Cx}
theorem comp2_core {tg elt iter tg2 iter2 : Expr} {os : List Str} {pos ipos : Pos} {scope : Scope} {wi wi2 : TI} {g g2 : TG} {te : TE} {caps : List (Nat × Str)} {pins : List (Addr × Obj)} {s : Shared} {σ : L2.St} {H : Hp} {Q : VK} {use : Option (Value → Sem Unit)} {R : Value → Shared → Prop} (hi : PI X tg iter wi)
    (hg : ∀ cl C s0 H0 fp, PG (cxComp X scope cl (os ++ caps.map (·.2)) C s0 H0 fp) tg g)
    (hi2 : ∀ cl C s0 H0 fp, PI (cxComp X scope cl (os ++ caps.map (·.2)) C s0 H0 fp) tg2 iter2 wi2)
    (hg2 : ∀ cl C s0 H0 fp, PG (cxComp X scope cl (os ++ caps.map (·.2)) C s0 H0 fp) tg2 g2)
    (he : ∀ cl C s0 H0 fp, PE (cxComp X scope cl (os ++ caps.map (·.2)) C s0 H0 fp) elt te)
    (hfree : ∀ y ∈ scope.names, y.2 = .free → X.env.kindOf y.1 = some .cell)
    (hcap : ∀ p ∈ caps, X.N[p.1]? = some p.2 ∧ X.env.kindOf p.2 = some .cell ∧ ((relabel scope X.env).names.lookup p.2 = some .cell ∨ (relabel scope X.env).names.lookup p.2 = some .free))
    (hkind : scope.kind = .function) (hcell : ∀ y ∈ scope.names, y.2 ≠ .cell)
    (hnames : ∀ y ∈ scope.names, y.2 = .local → scope.names.lookup y.1 = some .local) (hc : X.calm = true) (hfs : ∀ v, foldedSetIterable iter X.env v = pure v) (hfs2 : ∀ cl C v, foldedSetIterable iter2 (compEnvC scope cl C X.env) v = pure v)
    (hfin : ∀ D C H5 s6 m6, Inv X pins σ H5 s6 → s6.heap.Ns C m6 → FpOk X pins H5 C → Q (.ref D) H5 → compPost (model X.prog X.w) X.A X.xe use R (.ref D) C (.ok .next) s6)
    (I : Inv X pins σ H s) (h : tComp2 os.length wi g wi2 g2 te (caps.map (·.1)) σ H Q) :
    wpAny (model X.prog X.w) X.A (comprehension (.ListComp elt [⟨tg, iter, [], 0⟩, ⟨tg2, iter2, [], 0⟩] scope pos) scope X.env ipos (newList []) false (eval iter X.env) use) R X.xe s := by
  obtain ⟨cl, hclos, hcl, hin⟩ := closure_of (scope := scope) (env := X.env) fun y hy hf => I.ok.has y.1 (.inl (hfree y hy hf))
  have hhas : ∀ y, ((relabel scope X.env).names.lookup y = some .cell ∨ (relabel scope X.env).names.lookup y = some .free) → ∃ c, cl.lookup y = some c := fun y hy => by
    rcases hy with hy | hy
    · exact hin (y, .free) (relabel_lookup (env := X.env) hcell hy (.inl rfl)) rfl
    · exact hin (y, .free) (relabel_lookup (env := X.env) hcell hy (.inr rfl)) rfl
  refine wpAny_comprehension_free (use := use) rfl hfs hclos hkind hnames ?_
  refine thn (hi pins s σ H _ I h) fun v s1 h1 => thn h1 fun itv s2 h2 => ?_
  obtain ⟨it, fp, tn, J, H1, rfl, I2, T, st2, f2, rd⟩ := h2
  refine wpAny_newObj_type ?_ (by show 0 ≤ sizeLine; decide)
  have hD : H1 s2.heap.objs.size = none := I2.hok.fresh (Nat.le_refl _)
  obtain ⟨W, ⟨m0, w0⟩, turn⟩ := rd s2.heap.objs.size hD
  generalize eD : s2.heap.objs.size = D at hD w0 turn
  have I3 : Inv X pins σ (upd H1 D (.lst [])) { s2 with heap := s2.heap.push { cls := .type "list", data := .seq ([] : List Value).toArray } } := by
    subst eD
    exact I2.laid (t' := s2.toks) (fun b u e => Heap.get?_push_of_some _ e) (Nat.le_refl _) ⟨Nat.zero_le _, [], 0, .nil, Heap.get?_push_size _ rfl⟩
  generalize e3 : ({ s2 with heap := s2.heap.push { cls := .type "list", data := .seq ([] : List Value).toArray } } : Shared) = s3 at I3
  have hs3 : s3.heap.objs.size = D + 1 := by rw [← e3, ← eD]; simp
  have k23 : ∀ b o, s2.heap.get? b = some o → s3.heap.get? b = some o := fun b o e => by rw [← e3]; exact Heap.get?_push_of_some _ e
  refine wpAny_newFunctionEnv hcell (by intro y hy; simp at hy) (fun h4 hn4 hs4 => ?_) hkind
  have k34 : ∀ b o, s3.heap.get? b = some o → h4.get? b = some o := fun b o e => (hs4.2 b (Nat.ne_of_lt (Heap.lt_size e))).trans (Heap.get?_push_of_some _ e)
  generalize eC : s3.heap.objs.size = C at hn4 hs4
  have hfpC : ∀ b ∈ fp, b ≠ C := fun b hb z => by
    obtain ⟨o, e, _⟩ := T.obj 0 _ st2 b hb
    have h1 := Heap.lt_size e
    rw [z, ← eC, hs3, eD] at h1
    exact absurd h1 (Nat.not_lt.mpr (Nat.le_succ D))
  have hfps : ∀ b ∈ fp, b ∉ frs X.stack := fun b hb z => by
    rcases List.mem_cons.mp (I2.stkSub b z) with q | q
    · exact (f2 b hb).2.1 q
    · exact (f2 b hb).2.2.1 q
  have hfpD : ∀ b ∈ fp, b ≠ D := fun b hb z => by
    obtain ⟨o, e, _⟩ := T.obj 0 _ st2 b hb
    have h1 := Heap.lt_size e
    rw [z, eD] at h1
    exact Nat.lt_irrefl _ h1
  have okc : (cxComp X scope cl (os ++ caps.map (·.2)) C s3 (upd H1 D (.lst [])) fp).Ok := by
    refine ⟨I3.ok.mod, hkind, I3.ok.glob, I3.ok.blt, Nat.le_of_eq eC, fun y z c h1 h2 => I3.ok.inj y z c (hcl y c h1) (hcl z c h2), fun y hy => hhas y hy, fun y c hf => absurd hf Bool.false_ne_true, I3.ok.hd, I3.ok.frames, .inl rfl,
      fun b hb => ⟨hfpC b hb, fun y c e => (f2 b hb).2.2.2.2.1 y c (hcl y c e)⟩, I3.bs, Nat.le_trans I3.ok.bsz I3.sz, fun b o e hb => ?_, fun b hb => hfps b hb, I3.stack, I3.stkFree⟩
    rcases (f2 b hb).2.2.2.1 with z | z
    · exact I3.ok.noex b o e z
    · exact Nat.lt_irrefl _ (Nat.lt_of_lt_of_le (Heap.lt_size (I3.ok.bs b o e).1) z)
  have capS : (capd σ (caps.map (·.1))).length = caps.length := by unfold capd; rw [List.length_map, List.length_map]
  have Ic : Inv (cxComp X scope cl (os ++ caps.map (·.2)) C s3 (upd H1 D (.lst [])) fp) [] (List.replicate os.length none ++ capd σ (caps.map (·.1))) (upd H1 D (.lst [])) { s3 with heap := h4, toks := s3.toks + ([] : List (Str × Value)).length } := by
    refine ⟨okc, rfl, I3.bare, Un.kept k34, ⟨_, hn4, fun i y v e1 e2 e3' => ?_⟩, fun y c e => ?_, I3.hok.fresh (Nat.le_of_eq eC), fun y c e => I3.freeC y c (hcl y c e), fun p hp => absurd hp (by simp), I3.hok.kept k34, ?_⟩
    · by_cases hik : i < os.length
      · rw [List.getElem?_append_left (by rw [List.length_replicate]; exact hik), List.getElem?_replicate] at e2
        split at e2 <;> cases e2
      · have e1' : (caps.map (·.2))[i - os.length]? = some y := by
          have z : (os ++ caps.map (·.2))[i]? = some y := e1
          rw [List.getElem?_append_right (by omega)] at z
          exact z
        have e2' : (capd σ (caps.map (·.1)))[i - os.length]? = some (some v) := by
          rw [List.getElem?_append_right (by rw [List.length_replicate]; omega), List.length_replicate] at e2
          exact e2
        generalize i - os.length = i at e1' e2'
        rw [List.getElem?_map] at e1'
        unfold capd at e2'
        rw [List.getElem?_map, List.getElem?_map] at e2'
        cases q : caps[i]? with
        | none => rw [q] at e1'; cases e1'
        | some p =>
          rw [q] at e1' e2'
          have ey : p.2 = y := Option.some.inj e1'
          have ev : (σ[p.1]?).getD none = some v := Option.some.inj e2'
          have es : σ[p.1]? = some (some v) := by
            cases z : σ[p.1]? with
            | none => rw [z] at ev; cases ev
            | some w' => rw [z] at ev; exact congrArg some ev
          obtain ⟨hN, hk, hv⟩ := hcap p (List.mem_of_getElem? q)
          obtain ⟨m, _, hl⟩ := I3.loc
          obtain ⟨u, r, lk⟩ := hl p.1 p.2 v hN es (.inr (.inl hk))
          rw [ey] at hk hv lk
          refine ⟨u, r, .inr ⟨hv, ?_⟩⟩
          obtain ⟨c, hc'⟩ := hhas y hv
          rcases lk with ⟨z, _⟩ | ⟨_, c2, z, ic⟩
          · rw [hk] at z; cases z
          · have ec := (hcl y c hc').symm.trans z
            cases ec
            obtain ⟨o, ho, hd⟩ := ic
            exact ⟨c, hc', o, k34 _ _ ho, hd⟩
    · obtain ⟨v, o, ho, hd⟩ := I3.cell y c (hcl y c e)
      exact ⟨v, o, k34 _ _ ho, hd⟩
    · show (List.replicate os.length (none : Option V) ++ capd σ (caps.map fun p => p.1)).length = (os ++ caps.map fun p => p.2).length
      rw [List.length_append, List.length_append, List.length_replicate, capS, List.length_map]
  have fpc : ∀ H', (∀ b ∈ fp, H' b = none) → ∀ b ∈ fp, FpOk (cxComp X scope cl (os ++ caps.map (·.2)) C s3 (upd H1 D (.lst [])) fp) [] H' b := fun H' hn b hb =>
    ⟨hn b hb, hfpC b hb, hfps b hb, .inl hb, fun y c e => (f2 b hb).2.2.2.2.1 y c (hcl y c e), fun p hp => absurd hp (by simp)⟩
  have st4 : tn 0 h4 := T.keep _ _ _ (T.keep _ _ _ st2 fun b _ o e => k23 b o e) fun b _ o e => k34 b o e
  have fp0 : ∀ b ∈ fp, (upd H1 D (.lst [])) b = none := fun b hb => by rw [upd_ne (hfpD b hb)]; exact (f2 b hb).1
  have loop : codeAny (model X.prog X.w) X.A (.compLoop (.ListComp elt [⟨tg, iter, [], 0⟩, ⟨tg2, iter2, [], 0⟩] scope pos) 0 (.ref it) (.ref D) (compEnvC scope cl C X.env)) (compPost (model X.prog X.w) X.A X.xe use R (.ref D) C)
      { s3 with heap := h4, toks := s3.toks + ([] : List (Str × Value)).length } := by
    refine compLoop_two0 (R := compPost (model X.prog X.w) X.A X.xe use R (.ref D) C) (fun n s' => ∃ i ys own H', own.length = os.length ∧ Inv (cxComp X scope cl (os ++ caps.map (·.2)) C s3 (upd H1 D (.lst [])) fp) [] (own ++ capd σ (caps.map (·.1))) H' s' ∧ tn i s'.heap ∧ (∀ b ∈ fp, H' b = none) ∧ W i n ys H') (hfs2 cl C) ?_ m0 ⟨0, [], List.replicate os.length none, _, List.length_replicate, Ic, st4, fp0, w0⟩
    rintro n s5 ⟨i, ys, own, H5, ho5, I5, st5, fr5, w5⟩
    rcases turn i n ys H5 w5 with ⟨stop, qn⟩ | ⟨go, step⟩
    · refine thn (T.done (cxComp X scope cl (os ++ caps.map (·.2)) C s3 (upd H1 D (.lst [])) fp) rfl rfl rfl hc i [] s5 _ H5 _ I5 (fpc H5 fr5) st5 stop) fun r s6 ⟨hr, I6⟩ => ?_
      subst hr
      obtain ⟨m6, hn6, _⟩ := I6.loc
      have hs' : Heap.SameBut C s6.heap s6.heap := ⟨rfl, fun _ _ => rfl⟩
      generalize eh' : s6.heap = h' at hs'
      have hs' : Heap.SameBut C s6.heap h' := by rw [eh']; exact hs'
      have neC : ∀ b o, s3.heap.get? b = some o → b ≠ C := fun b o e => Nat.ne_of_lt (eC ▸ Heap.lt_size e)
      have ns : ∀ b o, s2.heap.get? b = some o → b ≠ D := fun b o e => Nat.ne_of_lt (eD ▸ Heap.lt_size e)
      have B := I6.base
      have uu : Un (frs X.stack) fp H1 H5 s2.heap h' := by
        refine ⟨fun b o e nn hb hf => ?_, fun b o e nn hb hf => ?_, fun b o e nn hf => ?_, fun b o e hf => ?_, fun b xs e => ?_, fun b o u' e => ?_, fun b ps e => ?_⟩
        · exact (hs'.2 b (neC b o (k23 b o e))).trans (B.keep b o (k23 b o e) (by show (upd H1 D _) b = none; rw [upd_ne (ns b o e)]; exact nn) hb hf)
        · obtain ⟨sl, z⟩ := B.slot b o (k23 b o e) (by show (upd H1 D _) b = none; rw [upd_ne (ns b o e)]; exact nn) hb hf
          exact ⟨sl, (hs'.2 b (neC b o (k23 b o e))).trans z⟩
        · exact B.free b o (k23 b o e) (by show (upd H1 D _) b = none; rw [upd_ne (ns b o e)]; exact nn) hf
        · obtain ⟨o', z⟩ := B.there b o (k23 b o e) hf
          exact ⟨o', (hs'.2 b (neC b o (k23 b o e))).trans z⟩
        · exact B.tups b xs (by show (upd H1 D _) b = _; rw [upd_ne (ne_of_none e hD)]; exact e)
        · exact B.frzs b o u' (by show (upd H1 D _) b = _; rw [upd_ne (ne_of_none e hD)]; exact e)
        · exact B.tbls b ps (by show (upd H1 D _) b = _; rw [upd_ne (ne_of_none e hD)]; exact e)
      have hok' : HOk X.prog X.w H5 h' := fun b o e => by
        refine (I6.hok b o e).stay (fun c' u' hc' z => (hs'.2 c' fun zz => ?_).trans z) (fun _ z => z) fun _ _ z => z
        have fr : H5 C = none := I6.free
        rcases hc' with hc' | hc'
        · rw [← zz, hc', e] at fr; cases fr
        · rw [← zz, hc'] at fr; cases fr
      have ho6 : s6.os = s2.os := I6.os.trans (by show s3.os = s2.os; rw [← e3])
      subst eh'
      have hC2 : s2.heap.objs.size ≤ C := by rw [← eC, hs3, eD]; exact Nat.le_succ D
      exact hfin D C H5 s6 m6 (I2.call' (s' := s6) (ch := fp) ho6 uu hok' I6.bare (fun b hb => ⟨(f2 b hb).2.2.2.1, (f2 b hb).2.1, (f2 b hb).2.2.2.2.1, (f2 b hb).2.2.2.2.2⟩)) hn6 (I2.fpOk hC2 I6.free) qn
    · refine thn (T.item (cxComp X scope cl (os ++ caps.map (·.2)) C s3 (upd H1 D (.lst [])) fp) rfl rfl rfl hc i [] s5 _ H5 _ I5 (fpc H5 fr5) st5 go) fun r s6 ⟨u, hr, h6⟩ => ?_
      subst hr
      refine (thn h6 fun _ s7 ⟨y, H7, I7, r7, y7, st7, fr7⟩ => ?_)
      have I7' := I7.pinned (fpc H7 fr7) (T.obj _ _ st7)
      refine wpAny_mono (hg cl C s3 _ fp _ s7 _ H7 y u _ I7' r7 (step y H7 y7 own ho5)) (fun _ s8 ⟨σ8, H8, I8, own1, ho8, e8, q8⟩ => ?_) fun _ _ z => z.elim
      subst e8
      refine wpAny_mono (hi2 cl C s3 _ fp _ s8 _ H8 _ I8 q8) (fun v2 s9 h9 => ?_) fun _ _ z => z.elim
      refine wpAny_mono h9 (fun itv2 s10 h10 => ?_) fun _ _ z => z.elim
      obtain ⟨it2, fp2, tn2, J2, H10, rfl, I10, T2, st10, f10, W2, ⟨m2, w2⟩, turn2⟩ := h10
      have stat : ∀ {H' : Hp}, (∀ b ∈ fp2, H' b = none) → ∀ b ∈ fp2, FpOk (cxComp X scope cl (os ++ caps.map (·.2)) C s3 (upd H1 D (.lst [])) fp) ([] ++ pinsAt fp s7.heap) H' b := fun hn b hb => ⟨hn b hb, (f10 b hb).2⟩
      have loop2 : codeAny (model X.prog X.w) X.A (.compLoop (.ListComp elt [⟨tg, iter, [], 0⟩, ⟨tg2, iter2, [], 0⟩] scope pos) 1 (.ref it2) (.ref D) (compEnvC scope cl C X.env)) (fun r s' => match r with
          | .ok _ => ∃ m, m < n ∧ ∃ i ys own H', own.length = os.length ∧ Inv (cxComp X scope cl (os ++ caps.map (·.2)) C s3 (upd H1 D (.lst [])) fp) [] (own ++ capd σ (caps.map (·.1))) H' s' ∧ tn i s'.heap ∧ (∀ b ∈ fp, H' b = none) ∧ W i m ys H'
          | .error e => cameBackBy (model X.prog X.w) X.A (compEnvC scope cl C X.env) (notedBy (model X.prog X.w) X.A (compEnvC scope cl C X.env) fun e s' => compPost (model X.prog X.w) X.A X.xe use R (.ref D) C (.error e) s') e s') s10 := by
        refine compLoop_two1 (R := fun r s' => match r with
          | .ok _ => ∃ m, m < n ∧ ∃ i ys own H', own.length = os.length ∧ Inv (cxComp X scope cl (os ++ caps.map (·.2)) C s3 (upd H1 D (.lst [])) fp) [] (own ++ capd σ (caps.map (·.1))) H' s' ∧ tn i s'.heap ∧ (∀ b ∈ fp, H' b = none) ∧ W i m ys H'
          | .error e => cameBackBy (model X.prog X.w) X.A (compEnvC scope cl C X.env) (notedBy (model X.prog X.w) X.A (compEnvC scope cl C X.env) fun e s' => compPost (model X.prog X.w) X.A X.xe use R (.ref D) C (.error e) s') e s')
          (fun n2 s' => ∃ j ys2 own2 H', own2.length = os.length ∧ Inv (cxComp X scope cl (os ++ caps.map (·.2)) C s3 (upd H1 D (.lst [])) fp) ([] ++ pinsAt fp s7.heap) (own2 ++ capd σ (caps.map (·.1))) H' s' ∧ tn2 j s'.heap ∧ (∀ b ∈ fp2, H' b = none) ∧ W2 j n2 ys2 own2 H') ?_ m2 ⟨0, ys, own1, H10, ho8, I10, st10, fun b hb => (f10 b hb).1, w2⟩
        rintro n2 s11 ⟨j, ys2, own2, H11, ho11, I11, st11, fr11, w11⟩
        rcases turn2 j n2 ys2 own2 H11 w11 with ⟨stop2, m', hm', w'⟩ | ⟨go2, step2⟩
        · refine thn (T2.done (cxComp X scope cl (os ++ caps.map (·.2)) C s3 (upd H1 D (.lst [])) fp) rfl rfl rfl hc j _ s11 _ H11 _ I11 (stat fr11) st11 stop2) fun r s12 ⟨hr, I12⟩ => ?_
          subst hr
          refine ⟨m', hm', i + 1, ys2, own2, H11, ho11, I12.unpinned, T.keep _ _ _ st7 fun b hb o e => (I12.pin (b, o) (List.mem_append_right _ (List.mem_append_right _ (mem_pinsAt hb e)))).1, fun b hb => ?_, w'⟩
          obtain ⟨o, e, _⟩ := T.obj _ _ st7 b hb
          exact (I12.pin (b, o) (List.mem_append_right _ (List.mem_append_right _ (mem_pinsAt hb e)))).2.1
        · refine thn (T2.item (cxComp X scope cl (os ++ caps.map (·.2)) C s3 (upd H1 D (.lst [])) fp) rfl rfl rfl hc j _ s11 _ H11 _ I11 (stat fr11) st11 go2) fun r s12 ⟨u2, hr, h12⟩ => ?_
          subst hr
          refine (thn h12 fun _ s13 ⟨y2, H13, I13, r13, y13, st13, fr13⟩ => ?_)
          have I13' := I13.pinned (stat fr13) (T2.obj _ _ st13)
          refine wpAny_mono (hg2 cl C s3 _ fp _ s13 _ H13 y2 u2 _ I13' r13 (step2 y2 H13 y13 ho11)) (fun _ s14 ⟨σ14, H14, I14, own3, ho14, e14, q14⟩ => ?_) fun _ _ z => z.elim
          subst e14
          refine wpAny_mono (he cl C s3 _ fp _ s14 _ H14 _ I14 q14) (fun xv s15 ⟨v15, H15, I15, r15, d15, l15, m15, lt15, w15⟩ => ?_) fun _ _ z => z.elim
          refine wpAny_mono (mt_append (X := (cxComp X scope cl (os ++ caps.map (·.2)) C s3 (upd H1 D (.lst [])) fp)) _ s15 _ H15 (.ref D) [v15] (.ref D) [xv] (fun _ H10 => H10 = upd H15 D (.lst (ys2 ++ [v15]))) I15 rfl (.cons r15 .nil) ⟨D, ys2, v15, rfl, rfl, d15, l15, rfl⟩) (fun _ s16 ⟨_, H16, I16, _, e16⟩ => ?_) fun _ _ z => z.elim
          subst e16
          refine ⟨m15, lt15, j + 1, ys2 ++ [v15], own3, _, ho14, I16.unpinned, T2.keep _ _ _ st13 fun b hb o e => (I16.pin (b, o) (List.mem_append_right _ (List.mem_append_right _ (mem_pinsAt hb e)))).1, fun b hb => ?_, w15⟩
          obtain ⟨o, e, _⟩ := T2.obj _ _ st13 b hb
          exact (I16.pin (b, o) (List.mem_append_right _ (List.mem_append_right _ (mem_pinsAt hb e)))).2.1
      exact compStart_two1 loop2 (T2.self _ 0 _ _ _ st10 loop2)
  exact codeAny_compStart_list loop (T.self _ 0 _ _ _ st4 loop)

theorem pe_comp2G {tg elt iter tg2 iter2 : Expr} {os : List Str} {pos : Pos} {scope : Scope} {wi wi2 : TI} {g g2 : TG} {te : TE} {caps : List (Nat × Str)} (hi : PI X tg iter wi)
    (hg : ∀ cl C s0 H0 fp, PG (cxComp X scope cl (os ++ caps.map (·.2)) C s0 H0 fp) tg g)
    (hi2 : ∀ cl C s0 H0 fp, PI (cxComp X scope cl (os ++ caps.map (·.2)) C s0 H0 fp) tg2 iter2 wi2)
    (hg2 : ∀ cl C s0 H0 fp, PG (cxComp X scope cl (os ++ caps.map (·.2)) C s0 H0 fp) tg2 g2)
    (he : ∀ cl C s0 H0 fp, PE (cxComp X scope cl (os ++ caps.map (·.2)) C s0 H0 fp) elt te)
    (hfree : ∀ y ∈ scope.names, y.2 = .free → X.env.kindOf y.1 = some .cell)
    (hcap : ∀ p ∈ caps, X.N[p.1]? = some p.2 ∧ X.env.kindOf p.2 = some .cell ∧ ((relabel scope X.env).names.lookup p.2 = some .cell ∨ (relabel scope X.env).names.lookup p.2 = some .free))
    (hkind : scope.kind = .function) (hcell : ∀ y ∈ scope.names, y.2 ≠ .cell)
    (hnames : ∀ y ∈ scope.names, y.2 = .local → scope.names.lookup y.1 = some .local) (hc : X.calm = true) (hfs : ∀ v, foldedSetIterable iter X.env v = pure v) (hfs2 : ∀ cl C v, foldedSetIterable iter2 (compEnvC scope cl C X.env) v = pure v) :
    PE X (.ListComp elt [⟨tg, iter, [], 0⟩, ⟨tg2, iter2, [], 0⟩] scope pos) (tComp2 os.length wi g wi2 g2 te (caps.map (·.1))) := by
  intro pins s σ H Q I h
  rw [eval_ListComp]
  refine comp2_core (Q := Q) (use := none) (R := EP X pins σ Q) hi hg hi2 hg2 he hfree hcap hkind hcell hnames hc hfs hfs2 (fun D C H5 s6 m6 I6 n6 f6 q6 => ?_) I h
  refine ⟨m6, n6, fun h' hs' => ⟨.ref D, H5, ?_, rfl, q6⟩⟩
  exact I6.turned (t' := s6.toks) (fun b o hb e => (hs'.2 b hb).trans e) f6.1 f6.2.1 f6.2.2.2.1 f6.2.2.2.2.1 f6.2.2.2.2.2
theorem pe_comp2S {tg elt iter tg2 iter2 : Expr} {os : List Str} {pos : Pos} {scope : Scope} {wi wi2 : TI} {g g2 : TG} {te : TE} {caps : List (Nat × Str)} (N : List Str) (sc : Scope) (hi : PI X tg iter wi)
    (hg : ∀ cl C s0 H0 fp, PG (cxComp X scope cl (os ++ caps.map (·.2)) C s0 H0 fp) tg g)
    (hi2 : ∀ cl C s0 H0 fp, PI (cxComp X scope cl (os ++ caps.map (·.2)) C s0 H0 fp) tg2 iter2 wi2)
    (hg2 : ∀ cl C s0 H0 fp, PG (cxComp X scope cl (os ++ caps.map (·.2)) C s0 H0 fp) tg2 g2)
    (he : ∀ cl C s0 H0 fp, PE (cxComp X scope cl (os ++ caps.map (·.2)) C s0 H0 fp) elt te)
    (ok : compOk N sc scope caps = true) (hN : X.N = N := by rfl) (hsc : X.env.scope = sc := by rfl) (hc : X.calm = true := by rfl) (hfs : ∀ v, foldedSetIterable iter X.env v = pure v := by intro _; rfl) (hfs2 : ∀ cl C v, foldedSetIterable iter2 (compEnvC scope cl C X.env) v = pure v := by intro _ _ _; rfl) :
    PE X (.ListComp elt [⟨tg, iter, [], 0⟩, ⟨tg2, iter2, [], 0⟩] scope pos) (tComp2 os.length wi g wi2 g2 te (caps.map (·.1))) := by
  subst hN hsc
  unfold compOk at ok
  simp only [Bool.and_eq_true, List.all_eq_true, decide_eq_true_eq, Bool.or_eq_true, Bool.not_eq_true', decide_eq_false_iff_not] at ok
  obtain ⟨⟨h1, h2⟩, h3⟩ := ok
  refine pe_comp2G hi hg hi2 hg2 he (fun y hy hf => ?_) (fun p hp => ?_) h1 (fun y hy => (h2 y hy).1.1) (fun y hy hl => ?_) hc hfs hfs2
  · rcases (h2 y hy).1.2 with z | z
    · exact absurd hf z
    · exact z
  · obtain ⟨⟨a, b⟩, c⟩ := h3 p hp
    exact ⟨a, b, relabel_free c⟩
  · rcases (h2 y hy).2 with z | z
    · exact absurd hl z
    · exact z
end
end Cv

namespace Cv
open PySem PySem.Spec PyProof.Rows L2
/-- a comprehension's block that takes nothing from around it -/
noncomputable def compOk0 (scope : Scope) : Bool :=
  decide (scope.kind = .function) && scope.names.all (fun y => decide (y.2 ≠ .cell) && decide (y.2 ≠ .free) && (!decide (y.2 = .local) || decide (scope.names.lookup y.1 = some .local)))
section
variable {X : Cx}
theorem pe_comp0 {tg elt iter : Expr} {os : List Str} {pos : Pos} {scope : Scope} {wi : TI} {g : TG} {te : TE} (hi : PI X tg iter wi)
    (hg : ∀ cl C s0 H0 fp, PG (cxComp X scope cl (os ++ ([] : List (Nat × Str)).map (·.2)) C s0 H0 fp) tg g)
    (he : ∀ cl C s0 H0 fp, PE (cxComp X scope cl (os ++ ([] : List (Nat × Str)).map (·.2)) C s0 H0 fp) elt te)
    (ok : compOk0 scope = true) (hc : X.calm = true := by rfl) (hfs : ∀ v, foldedSetIterable iter X.env v = pure v := by intro _; rfl) :
    PE X (.ListComp elt [⟨tg, iter, [], 0⟩] scope pos) (tCompG os.length wi g te []) := by
  unfold compOk0 at ok
  simp only [Bool.and_eq_true, List.all_eq_true, decide_eq_true_eq, Bool.or_eq_true, Bool.not_eq_true', decide_eq_false_iff_not] at ok
  obtain ⟨h1, h2⟩ := ok
  refine pe_compG (caps := []) hi hg he (fun y hy hf => absurd hf (h2 y hy).1.2) (fun p hp => nomatch hp) h1 (fun y hy => (h2 y hy).1.1) (fun y hy hl => ?_) hc hfs
  rcases (h2 y hy).2 with z | z
  · exact absurd hl z
  · exact z
theorem pe_comp0I {tg elt iter : Expr} {os : List Str} {pos : Pos} {scope : Scope} {wi : TI} {g : TG} {te : TE} (hi : PIi X tg iter wi)
    (hg : ∀ cl C s0 H0 fp, PGi (cxComp X scope cl (os ++ ([] : List (Nat × Str)).map (·.2)) C s0 H0 fp) tg g)
    (he : ∀ cl C s0 H0 fp, PEi (cxComp X scope cl (os ++ ([] : List (Nat × Str)).map (·.2)) C s0 H0 fp) elt te)
    (ok : compOk0 scope = true) (hc : X.calm = true := by rfl) (hfs : ∀ v, foldedSetIterable iter X.env v = pure v := by intro _; rfl) :
    PEi X (.ListComp elt [⟨tg, iter, [], 0⟩] scope pos) (tCompG os.length wi g te []) := by with_unfolding_all exact pe_comp0 (hi := hi) (hg := hg) (he := he) (ok := ok) (hc := hc) (hfs := hfs)
theorem call_list_ofK (K : PySem.W.Frag) (h : X.K = K := by rfl) : CallR X (.type "list") (fun xs H Q => ∃ p ys, xs = [.ref p] ∧ (SqL K H p ys ∨ SqT K H p ys) ∧ ∀ l, H l = none → Q (.ref l) (upd H l (.lst ys))) := by subst h; exact call_list_of
theorem pi_tupKI (K : PySem.W.Frag) {tg l : Expr} {tl : TE} (hl : PEi X l tl) (hK : X.K = K := by rfl) : PIi X tg l (iTup K tl) := by subst hK; exact pi_tupI hl
theorem pi_listKI (K : PySem.W.Frag) {tg l : Expr} {tl : TE} (hl : PEi X l tl) (hK : X.K = K := by rfl) : PIi X tg l (iList K tl) := by subst hK; exact pi_listI hl
theorem pe_comp2SI {tg elt iter tg2 iter2 : Expr} {os : List Str} {pos : Pos} {scope : Scope} {wi wi2 : TI} {g g2 : TG} {te : TE} {caps : List (Nat × Str)} (N : List Str) (sc : Scope) (hi : PIi X tg iter wi)
    (hg : ∀ cl C s0 H0 fp, PGi (cxComp X scope cl (os ++ caps.map (·.2)) C s0 H0 fp) tg g)
    (hi2 : ∀ cl C s0 H0 fp, PIi (cxComp X scope cl (os ++ caps.map (·.2)) C s0 H0 fp) tg2 iter2 wi2)
    (hg2 : ∀ cl C s0 H0 fp, PGi (cxComp X scope cl (os ++ caps.map (·.2)) C s0 H0 fp) tg2 g2)
    (he : ∀ cl C s0 H0 fp, PEi (cxComp X scope cl (os ++ caps.map (·.2)) C s0 H0 fp) elt te)
    (ok : compOk N sc scope caps = true) (hN : X.N = N := by rfl) (hsc : X.env.scope = sc := by rfl) (hc : X.calm = true := by rfl) (hfs : ∀ v, foldedSetIterable iter X.env v = pure v := by intro _; rfl) (hfs2 : ∀ cl C v, foldedSetIterable iter2 (compEnvC scope cl C X.env) v = pure v := by intro _ _ _; rfl) :
    PEi X (.ListComp elt [⟨tg, iter, [], 0⟩, ⟨tg2, iter2, [], 0⟩] scope pos) (tComp2 os.length wi g wi2 g2 te (caps.map (·.1))) := by with_unfolding_all exact pe_comp2S (N := N) (sc := sc) (hi := hi) (hg := hg) (hi2 := hi2) (hg2 := hg2) (he := he) (ok := ok) (hN := hN) (hsc := hsc) (hc := hc) (hfs := hfs) (hfs2 := hfs2)
end
end Cv

namespace Cv
/-! ### stretches by halving whole numbers -/
noncomputable def hvN (c : List Pl) : List Pl := List.zipWith (fun p q => ((p.1 + q.1) / 2, (p.2 + q.2) / 2)) c (c.drop 1)
noncomputable def hrow (c : List Pl) : Nat → List Pl
  | 0 => c
  | r + 1 => hvN (hrow c r)
noncomputable def toP (dx dy : Int) (c : List Pl) : List Pt := c.map fun p => (Rat.divInt p.1 dx, Rat.divInt p.2 dy)
noncomputable def Dvs (k : Nat) (c : List Pl) : Prop := ∀ p ∈ c, (2 : Int) ^ k ∣ p.1 ∧ (2 : Int) ^ k ∣ p.2
noncomputable def SzQ (n : Nat) (c : List Pl) : Prop := ∀ p ∈ c, Sz n p.1 ∧ Sz n p.2
theorem hvN_len (c : List Pl) : (hvN c).length = c.length - 1 := by
  unfold hvN
  rw [List.length_zipWith, List.length_drop]; omega
theorem hrow_len (c : List Pl) : ∀ r, (hrow c r).length = c.length - r
  | 0 => rfl
  | r + 1 => by
    show (hvN (hrow c r)).length = _
    rw [hvN_len, hrow_len c r]; omega
theorem hvN_get {c : List Pl} {i : Nat} {p q : Pl} (h1 : c[i]? = some p) (h2 : c[i + 1]? = some q) : (hvN c)[i]? = some ((p.1 + q.1) / 2, (p.2 + q.2) / 2) := by
  unfold hvN
  rw [List.getElem?_zipWith, List.getElem?_drop, h1, Nat.add_comm 1 i, h2]
theorem hvN_mem {c : List Pl} {z : Pl} (h : z ∈ hvN c) : ∃ p q, p ∈ c ∧ q ∈ c ∧ z = ((p.1 + q.1) / 2, (p.2 + q.2) / 2) := by
  obtain ⟨i, hi, rfl⟩ := List.getElem_of_mem h
  have hl := hvN_len c
  have e1 : c[i]? = some (c[i]'(by omega)) := List.getElem?_eq_getElem _
  have e2 : c[i + 1]? = some (c[i + 1]'(by omega)) := List.getElem?_eq_getElem _
  have e3 := hvN_get e1 e2
  rw [List.getElem?_eq_getElem hi] at e3
  exact ⟨_, _, List.getElem_mem _, List.getElem_mem _, Option.some.inj e3⟩
theorem half_dvd {k : Nat} {x u : Int} (h1 : (2 : Int) ^ (k + 1) ∣ x) (h2 : (2 : Int) ^ (k + 1) ∣ u) : (2 : Int) ^ k ∣ (x + u) / 2 := by
  obtain ⟨a, rfl⟩ := h1
  obtain ⟨b, rfl⟩ := h2
  refine ⟨a + b, ?_⟩
  rw [Int.pow_succ]
  have e : (2 : Int) ^ k * 2 * a + 2 ^ k * 2 * b = 2 * ((2 : Int) ^ k * (a + b)) := by
    rw [Int.mul_add, Int.mul_add]
    have e1 : (2 : Int) ^ k * 2 * a = 2 * (2 ^ k * a) := by rw [Int.mul_comm ((2 : Int) ^ k) 2, Int.mul_assoc]
    have e2 : (2 : Int) ^ k * 2 * b = 2 * (2 ^ k * b) := by rw [Int.mul_comm ((2 : Int) ^ k) 2, Int.mul_assoc]
    rw [e1, e2]
  rw [e, Int.mul_ediv_cancel_left _ (by decide)]
theorem hv_dvs {k : Nat} {c : List Pl} (h : Dvs (k + 1) c) : Dvs k (hvN c) := fun z hz => by
  obtain ⟨p, q, hp, hq, rfl⟩ := hvN_mem hz
  exact ⟨half_dvd (h p hp).1 (h q hq).1, half_dvd (h p hp).2 (h q hq).2⟩
theorem half_sz {n : Nat} {x u : Int} (h1 : Sz n x) (h2 : Sz n u) : Sz n ((x + u) / 2) := ⟨by
  have a := h1.lt
  have b := h2.lt
  generalize 2 ^ n = N at a b
  show ((x + u) / 2).natAbs < N
  omega⟩
theorem hv_sz {n : Nat} {c : List Pl} (h : SzQ n c) : SzQ n (hvN c) := fun z hz => by
  obtain ⟨p, q, hp, hq, rfl⟩ := hvN_mem hz
  exact ⟨half_sz (h p hp).1 (h q hq).1, half_sz (h p hp).2 (h q hq).2⟩
theorem hrow_sz {n : Nat} {c : List Pl} (h : SzQ n c) : ∀ r, SzQ n (hrow c r)
  | 0 => h
  | r + 1 => hv_sz (hrow_sz h r)
theorem half_btw {x u d : Int} (h1 : (2 : Int) ∣ x) (h2 : (2 : Int) ∣ u) : Rat.divInt ((x + u) / 2) d = btw (1 / 2) (Rat.divInt x d) (Rat.divInt u d) := by
  obtain ⟨a, rfl⟩ := h1
  obtain ⟨b, rfl⟩ := h2
  rw [← Int.mul_add, Int.mul_ediv_cancel_left _ (by decide)]
  unfold btw
  simp only [divInt_cast, Rat.intCast_mul, Rat.intCast_add]
  have e2 : ((2 : Int) : Rat) = 2 := rfl
  rw [e2]
  grind
theorem toP_len (dx dy : Int) (c : List Pl) : (toP dx dy c).length = c.length := by unfold toP; rw [List.length_map]
theorem hv_toP {dx dy : Int} {c : List Pl} (h : Dvs 1 c) : toP dx dy (hvN c) = nxP (1 / 2) (toP dx dy c) := by
  refine List.ext_getElem? fun i => ?_
  by_cases hi : i + 1 < c.length
  · have e1 : c[i]? = some (c[i]'(by omega)) := List.getElem?_eq_getElem _
    have e2 : c[i + 1]? = some (c[i + 1]'(by omega)) := List.getElem?_eq_getElem _
    have d1 := h _ (List.mem_of_getElem? e1)
    have d2 := h _ (List.mem_of_getElem? e2)
    have f1 : (toP dx dy c)[i]? = some (Rat.divInt (c[i]'(by omega)).1 dx, Rat.divInt (c[i]'(by omega)).2 dy) := by unfold toP; rw [List.getElem?_map, e1]; rfl
    have f2 : (toP dx dy c)[i + 1]? = some (Rat.divInt (c[i + 1]'(by omega)).1 dx, Rat.divInt (c[i + 1]'(by omega)).2 dy) := by unfold toP; rw [List.getElem?_map, e2]; rfl
    rw [nxP_get _ _ i f1 f2]
    unfold toP
    rw [List.getElem?_map, hvN_get e1 e2]
    show some (_, _) = some (_, _)
    rw [half_btw d1.1 d2.1, half_btw d1.2 d2.2]
  · rw [List.getElem?_eq_none (by rw [toP_len, hvN_len]; omega), List.getElem?_eq_none (by rw [nxP_len, toP_len]; omega)]
theorem two_dvd {j k : Nat} (h : j ≤ k) : (2 : Int) ^ j ∣ 2 ^ k := ⟨2 ^ (k - j), by rw [← Int.pow_add]; congr 1; omega⟩
theorem Dvs.mono {k j : Nat} {c : List Pl} (h : Dvs k c) (hj : j ≤ k) : Dvs j c := fun p hp =>
  ⟨Int.dvd_trans (two_dvd hj) (h p hp).1, Int.dvd_trans (two_dvd hj) (h p hp).2⟩
theorem hrow_dvs {M : Nat} {c : List Pl} (h : Dvs M c) : ∀ r, r ≤ M → Dvs (M - r) (hrow c r)
  | 0, _ => h
  | r + 1, hr => by
    have := hrow_dvs h r (by omega)
    refine hv_dvs ?_
    rw [show M - (r + 1) + 1 = M - r by omega]; exact this
theorem hrow_toP {dx dy : Int} {M : Nat} {c : List Pl} (h : Dvs M c) : ∀ r, r ≤ M → toP dx dy (hrow c r) = rowP (1 / 2) (toP dx dy c) r
  | 0, _ => rfl
  | r + 1, hr => by
    show toP dx dy (hvN (hrow c r)) = nxP (1 / 2) (rowP (1 / 2) (toP dx dy c) r)
    rw [hv_toP ((hrow_dvs h r (by omega)).mono (by omega)), hrow_toP h r (by omega)]
noncomputable def fhI (c : List Pl) : List Pl := (List.range c.length).map fun r => ((hrow c r)[0]?).getD (0, 0)
noncomputable def lhI (c : List Pl) : List Pl := (List.range c.length).map fun k => ((hrow c (c.length - 1 - k))[k]?).getD (0, 0)
theorem fhI_len (c : List Pl) : (fhI c).length = c.length := by unfold fhI; rw [List.length_map, List.length_range]
theorem lhI_len (c : List Pl) : (lhI c).length = c.length := by unfold lhI; rw [List.length_map, List.length_range]
theorem toP_getD (dx dy : Int) (c : List Pl) (i : Nat) : ((toP dx dy c)[i]?).getD (0, 0) = (Rat.divInt ((c[i]?).getD (0, 0)).1 dx, Rat.divInt ((c[i]?).getD (0, 0)).2 dy) := by
  unfold toP
  rw [List.getElem?_map]
  cases c[i]? with
  | none => show ((0 : Rat), (0 : Rat)) = (Rat.divInt 0 dx, Rat.divInt 0 dy); rw [Rat.zero_divInt, Rat.zero_divInt]
  | some p => rfl
theorem fh_toP {dx dy : Int} {M : Nat} {c : List Pl} (h : Dvs M c) (hM : c.length ≤ M + 1) : toP dx dy (fhI c) = firstP (1 / 2) (toP dx dy c) := by
  unfold firstP fhI
  rw [toP_len]
  show List.map _ (List.map _ _) = _
  rw [List.map_map]
  refine List.map_congr_left fun r hr => ?_
  have hr := List.mem_range.mp hr
  rw [← hrow_toP h r (by omega), toP_getD]; rfl
theorem lh_toP {dx dy : Int} {M : Nat} {c : List Pl} (h : Dvs M c) (hM : c.length ≤ M + 1) : toP dx dy (lhI c) = lastP (1 / 2) (toP dx dy c) := by
  unfold lastP lhI
  rw [toP_len]
  show List.map _ (List.map _ _) = _
  rw [List.map_map]
  refine List.map_congr_left fun k hk => ?_
  have hk := List.mem_range.mp hk
  rw [← hrow_toP h (c.length - 1 - k) (by omega), toP_getD]; rfl
theorem getD_in {P : Pl → Prop} {c : List Pl} (h0 : P (0, 0)) (h : ∀ p ∈ c, P p) (i : Nat) : P ((c[i]?).getD (0, 0)) := by
  cases e : c[i]? with
  | none => exact h0
  | some p => exact h p (List.mem_of_getElem? e)
theorem fh_dvs {M : Nat} {c : List Pl} (h : Dvs M c) (hM : c.length ≤ M + 1) : Dvs (M - (c.length - 1)) (fhI c) := fun p hp => by
  unfold fhI at hp
  obtain ⟨r, hr, rfl⟩ := List.mem_map.mp hp
  have hr := List.mem_range.mp hr
  exact getD_in (P := fun p => (2 : Int) ^ (M - (c.length - 1)) ∣ p.1 ∧ (2 : Int) ^ (M - (c.length - 1)) ∣ p.2) ⟨⟨0, by simp⟩, ⟨0, by simp⟩⟩ (fun p hp => ((hrow_dvs h r (by omega)).mono (by omega)) p hp) 0
theorem lh_dvs {M : Nat} {c : List Pl} (h : Dvs M c) (hM : c.length ≤ M + 1) : Dvs (M - (c.length - 1)) (lhI c) := fun p hp => by
  unfold lhI at hp
  obtain ⟨k, hk, rfl⟩ := List.mem_map.mp hp
  have hk := List.mem_range.mp hk
  exact getD_in (P := fun p => (2 : Int) ^ (M - (c.length - 1)) ∣ p.1 ∧ (2 : Int) ^ (M - (c.length - 1)) ∣ p.2) ⟨⟨0, by simp⟩, ⟨0, by simp⟩⟩ (fun p hp => ((hrow_dvs h (c.length - 1 - k) (by omega)).mono (by omega)) p hp) k
theorem sz_zero (n : Nat) : Sz n 0 := ⟨by simpa using Nat.two_pow_pos n⟩
theorem fh_sz {n : Nat} {c : List Pl} (h : SzQ n c) : SzQ n (fhI c) := fun p hp => by
  unfold fhI at hp
  obtain ⟨r, hr, rfl⟩ := List.mem_map.mp hp
  exact getD_in (P := fun p => Sz n p.1 ∧ Sz n p.2) ⟨sz_zero n, sz_zero n⟩ (fun p hp => hrow_sz h r p hp) 0
theorem lh_sz {n : Nat} {c : List Pl} (h : SzQ n c) : SzQ n (lhI c) := fun p hp => by
  unfold lhI at hp
  obtain ⟨k, hk, rfl⟩ := List.mem_map.mp hp
  exact getD_in (P := fun p => Sz n p.1 ∧ Sz n p.2) ⟨sz_zero n, sz_zero n⟩ (fun p hp => hrow_sz h _ p hp) k
noncomputable def halvedI (css : List (List Pl)) : List (List Pl) := css.flatMap fun c => [fhI c, lhI c]
theorem halved_even : ∀ (css : List (List Pl)) (i : Nat), (halvedI css)[2 * i]? = (css[i]?).map fhI ∧ (halvedI css)[2 * i + 1]? = (css[i]?).map lhI
  | [], i => by simp [halvedI]
  | c :: css, 0 => by simp [halvedI]
  | c :: css, i + 1 => by
    have ih := halved_even css i
    unfold halvedI at ih ⊢
    rw [List.flatMap_cons]
    show ((fhI c :: lhI c :: css.flatMap _))[2 * (i + 1)]? = _ ∧ ((fhI c :: lhI c :: css.flatMap _))[2 * (i + 1) + 1]? = _
    rw [show 2 * (i + 1) = 2 * i + 1 + 1 by omega, List.getElem?_cons_succ, List.getElem?_cons_succ, List.getElem?_cons_succ, List.getElem?_cons_succ, List.getElem?_cons_succ]
    exact ih
theorem halved_len (css : List (List Pl)) : (halvedI css).length = 2 * css.length := by
  unfold halvedI
  induction css with
  | nil => rfl
  | cons c css ih => rw [List.flatMap_cons, List.length_append, ih]; show 2 + 2 * css.length = 2 * (css.length + 1); omega
theorem halved_snoc (css : List (List Pl)) (c : List Pl) : halvedI (css ++ [c]) = halvedI css ++ [fhI c, lhI c] := by
  unfold halvedI
  rw [List.flatMap_append]; simp
noncomputable def lvI (c : List Pl) : Nat → List (List Pl)
  | 0 => [c]
  | d + 1 => halvedI (lvI c d)
theorem lvI_len (c : List Pl) : ∀ d, (lvI c d).length = 2 ^ d
  | 0 => rfl
  | d + 1 => by
    show (halvedI (lvI c d)).length = _
    rw [halved_len, lvI_len c d, Nat.pow_succ]; omega
noncomputable def hp : Nat → Rat
  | 0 => 1
  | d + 1 => hp d * (1 / 2)
noncomputable def tq (d i : Nat) (u : Rat) : Rat := (((i : Int) : Rat) + u) * hp d
theorem hp_pow : ∀ d, hp d * (((2 ^ d : Int)) : Rat) = 1
  | 0 => by show (1 : Rat) * 1 = 1; exact Rat.one_mul 1
  | d + 1 => by
    have ih := hp_pow d
    rw [Int.pow_succ, Rat.intCast_mul]
    show hp d * (1 / 2) * (((2 ^ d : Int) : Rat) * ((2 : Int) : Rat)) = 1
    have e2 : ((2 : Int) : Rat) = 2 := rfl
    rw [e2]
    grind
theorem tq_int (d i : Nat) (u : Int) : tq d i (u : Rat) = Rat.divInt ((i : Int) + u) (2 ^ d) := by
  have h := hp_pow d
  have n0 : (((2 ^ d : Int)) : Rat) ≠ 0 := fun z => by rw [z] at h; simp at h
  rw [divInt_cast, Rat.intCast_add]
  unfold tq
  grind
structure LvOk (dx dy : Int) (ps : List Pt) (n m d : Nat) (css : List (List Pl)) : Prop where
  len : ∀ c ∈ css, c.length = ps.length
  sz : ∀ c ∈ css, SzQ n c
  dv : ∀ c ∈ css, Dvs m c
  pt : ∀ i c, css[i]? = some c → ∀ u, ptP u (toP dx dy c) = ptP (tq d i u) ps
theorem lv_step {dx dy : Int} {ps : List Pt} {n m d : Nat} {css : List (List Pl)} (h1 : 1 ≤ ps.length) (h : LvOk dx dy ps n (m + (ps.length - 1)) d css) : LvOk dx dy ps n m (d + 1) (halvedI css) := by
  have mem : ∀ e ∈ halvedI css, ∃ c ∈ css, e = fhI c ∨ e = lhI c := fun e he => by
    unfold halvedI at he
    obtain ⟨c, hc, hm⟩ := List.mem_flatMap.mp he
    exact ⟨c, hc, by simpa using hm⟩
  refine ⟨fun e he => ?_, fun e he => ?_, fun e he => ?_, fun i e he u => ?_⟩
  · obtain ⟨c, hc, rfl | rfl⟩ := mem e he
    · rw [fhI_len]; exact h.len c hc
    · rw [lhI_len]; exact h.len c hc
  · obtain ⟨c, hc, rfl | rfl⟩ := mem e he
    · exact fh_sz (h.sz c hc)
    · exact lh_sz (h.sz c hc)
  · obtain ⟨c, hc, rfl | rfl⟩ := mem e he
    · have hl := h.len c hc
      exact (fh_dvs (h.dv c hc) (by omega)).mono (by omega)
    · have hl := h.len c hc
      exact (lh_dvs (h.dv c hc) (by omega)).mono (by omega)
  · obtain ⟨j, hj⟩ : ∃ j, i = 2 * j ∨ i = 2 * j + 1 := ⟨i / 2, by omega⟩
    rcases hj with rfl | rfl
    · rw [(halved_even css j).1] at he
      cases ec : css[j]? with
      | none => rw [ec] at he; cases he
      | some c =>
        rw [ec] at he
        obtain rfl : fhI c = e := Option.some.inj he
        have hc := List.mem_of_getElem? ec
        have hl := h.len c hc
        rw [fh_toP (h.dv c hc) (by omega), first_pt u (1 / 2) _ (by rw [toP_len]; omega), h.pt j c ec]
        congr 1
        unfold tq
        show _ = _ * (hp d * (1 / 2))
        rw [show ((2 * j : Nat) : Int) = 2 * (j : Int) by omega, Rat.intCast_mul]
        have e2 : ((2 : Int) : Rat) = 2 := rfl
        rw [e2]
        grind
    · rw [(halved_even css j).2] at he
      cases ec : css[j]? with
      | none => rw [ec] at he; cases he
      | some c =>
        rw [ec] at he
        obtain rfl : lhI c = e := Option.some.inj he
        have hc := List.mem_of_getElem? ec
        have hl := h.len c hc
        rw [lh_toP (h.dv c hc) (by omega), last_pt u (1 / 2) _ (by rw [toP_len]; omega), h.pt j c ec]
        congr 1
        unfold tq btw
        show _ = _ * (hp d * (1 / 2))
        rw [show ((2 * j + 1 : Nat) : Int) = 2 * (j : Int) + 1 by omega, Rat.intCast_add, Rat.intCast_mul]
        have e2 : ((2 : Int) : Rat) = 2 := rfl
        have e1 : ((1 : Int) : Rat) = 1 := rfl
        rw [e2, e1]
        grind
theorem lv_all {dx dy : Int} {ps : List Pt} {n : Nat} {c : List Pl} (h1 : 1 ≤ ps.length) (hc : toP dx dy c = ps) (hz : SzQ n c) : ∀ L d, d ≤ L → Dvs (L * (ps.length - 1)) c → LvOk dx dy ps n ((L - d) * (ps.length - 1)) d (lvI c d)
  | L, 0, _, hd => by
    have hl : c.length = ps.length := by rw [← hc, toP_len]
    refine ⟨fun e he => ?_, fun e he => ?_, fun e he => ?_, fun i e he u => ?_⟩
    · rw [List.mem_singleton.mp he]; exact hl
    · rw [List.mem_singleton.mp he]; exact hz
    · rw [List.mem_singleton.mp he]; exact hd
    · cases i with
      | zero =>
        cases he
        rw [hc]
        congr 1
        unfold tq
        show u = (0 + u) * 1
        grind
      | succ i => simp [lvI] at he
  | L, d + 1, hd, hv => by
    have ih := lv_all h1 hc hz L d (by omega) hv
    refine lv_step h1 ?_
    rw [show (L - (d + 1)) * (ps.length - 1) + (ps.length - 1) = (L - d) * (ps.length - 1) by
      rw [show L - d = (L - (d + 1)) + 1 by omega, Nat.succ_mul]]
    exact ih
end Cv

namespace Cv
open PySem PySem.Spec PyProof.Rows L2
/-! ### promises of the stretches -/
noncomputable def wcI (R : Int) (t1 t2 : List Int) : List Pl := List.zipWith (fun x y => (x * R, y * R)) t1 t2
noncomputable def spRoom : Sp := fun vs H Q _ => ∃ n L : Nat, vs = [.int (n : Int), .int (L : Int)] ∧ 1 ≤ n ∧ n ≤ 1000 ∧ L ≤ 1000 ∧ Q (.int (2 ^ (L * (n - 1)))) H
noncomputable def spWhole2 : Sp := fun vs H Q _ => ∃ x y n t1 b1 t2 b2 R, vs = [x, y, .int R] ∧ AxV H x n t1 b1 ∧ AxV H y n t2 b2 ∧ t1.length = t2.length ∧ Sz 100 R ∧ n ≤ 100000 ∧
  ∀ (l : Addr) (us : List V) (H' : Hp), Same H H' → H l = none → H' l = some (.lst us) → PlsV H' us (wcI R t1 t2) → Q (.ref l) H'
noncomputable def spHalves : Sp := fun vs H Q _ => ∃ (a : Addr) (ws : List V) (c : List Pl), vs = [.ref a] ∧ H a = some (.lst ws) ∧ PlsV H ws c ∧ c.length ≤ 1000 ∧
  ∀ (p l1 l2 : Addr) (u1 u2 : List V) (H' : Hp), Same H H' → H' p = some (.tup [.ref l1, .ref l2]) → H l1 = none → H l2 = none → H' l1 = some (.lst u1) → H' l2 = some (.lst u2) → PlsV H' u1 (fhI c) → PlsV H' u2 (lhI c) → Q (.ref p) H'
/-- a list of lists of places -/
structure CsV (H : Hp) (D : Option Addr) (ys : List V) (css : List (List Pl)) : Prop where
  len : ys.length = css.length
  get : ∀ (i : Nat) (v : V) (c : List Pl), ys[i]? = some v → css[i]? = some c → ∃ (l : Addr) (us : List V), v = .ref l ∧ some l ≠ D ∧ H l = some (.lst us) ∧ PlsV H us c
theorem CsV.same {H H' : Hp} {D : Option Addr} {ys : List V} {css : List (List Pl)} (h : CsV H D ys css) (s : Same H H') : CsV H' D ys css :=
  ⟨h.len, fun i v c e1 e2 => by obtain ⟨l, us, r1, r2, r3, r4⟩ := h.get i v c e1 e2; exact ⟨l, us, r1, r2, s _ _ r3, r4.same s⟩⟩
theorem CsV.at {H : Hp} {D : Option Addr} {ys : List V} {css : List (List Pl)} (h : CsV H D ys css) {i : Nat} {c : List Pl} (hc : css[i]? = some c) : ∃ (l : Addr) (us : List V), ys[i]? = some (.ref l) ∧ H l = some (.lst us) ∧ PlsV H us c := by
  have hi : i < css.length := (List.getElem?_eq_some_iff.mp hc).1
  have e : ys[i]? = some (ys[i]'(by rw [h.len]; exact hi)) := List.getElem?_eq_getElem _
  obtain ⟨l, us, r1, r2, r3, r4⟩ := h.get i _ c e hc
  exact ⟨l, us, by rw [e, r1], r3, r4⟩
noncomputable def spHalved (K : PySem.W.Frag) : Sp := fun vs H Q _ => ∃ (a : Addr) (ys : List V) (css : List (List Pl)), vs = [.ref a] ∧ H a = some (.lst ys) ∧ CsV H none ys css ∧ css.length ≤ 1000 ∧ (∀ c ∈ css, c.length ≤ 1000) ∧
  ∀ (l : Addr) (us : List V) (H' : Hp), Same H H' → H l = none → H' l = some (.lst us) → CsV H' none us (halvedI css) → Q (.ref l) H'
noncomputable def spStretches (K : PySem.W.Frag) : Sp := fun vs H Q _ => ∃ (a : Addr) (ws : List V) (ps : List Pt) (D : Int) (m z L : Nat), vs = [.ref a, .int (L : Int)] ∧ H a = some (.lst ws) ∧ PtsV H ws ps ∧ 1 ≤ ps.length ∧ ps.length ≤ 12 ∧ 0 < D ∧ Sz z D ∧ z ≤ 100 ∧ m ≤ 200 ∧ (∀ p ∈ ps, OvP D m p) ∧ L ≤ 6 ∧ L * (ps.length - 1) ≤ 40 ∧
  ∀ (l : Addr) (us : List V) (qs : Nat → List Pt) (H' : Hp), Same H H' → H l = none → H' l = some (.lst us) → us.length = 2 ^ L → LsV H H' l us (fun i xs H => PtsV H xs (qs i)) →
    (∀ i, i < 2 ^ L → (qs i).length = ps.length ∧ (∀ p ∈ qs i, Bd 340 p.1 ∧ Bd 340 p.2) ∧ ∀ u, ptP u (qs i) = ptP (tq L i u) ps) → Q (.ref l) H'
/-! ### the halves of each of a list of curves -/
theorem snoc_get {α : Type} {ys : List α} {v w : α} {j : Nat} (e : (ys ++ [v])[j]? = some w) : (j < ys.length ∧ ys[j]? = some w) ∨ (j = ys.length ∧ w = v) := by
  by_cases hj : j < ys.length
  · rw [List.getElem?_append_left hj] at e
    exact .inl ⟨hj, e⟩
  · rw [List.getElem?_append_right (by omega)] at e
    have hj0 : j - ys.length = 0 := by
      cases q : j - ys.length with
      | zero => rfl
      | succ k => rw [q] at e; simp at e
    rw [hj0] at e
    exact .inr ⟨by omega, by simpa using e.symm⟩
theorem CsV.snoc {H : Hp} {D : Option Addr} {ys : List V} {css : List (List Pl)} {l : Addr} {us : List V} {c : List Pl} (h : CsV H D ys css) (hl : some l ≠ D) (h1 : H l = some (.lst us)) (h2 : PlsV H us c) : CsV H D (ys ++ [.ref l]) (css ++ [c]) := by
  refine ⟨by rw [List.length_append, List.length_append, h.len]; rfl, fun i v c' e1 e2 => ?_⟩
  rcases snoc_get e1 with ⟨q1, q2⟩ | ⟨q1, rfl⟩
  · rcases snoc_get e2 with ⟨p1, p2⟩ | ⟨p1, _⟩
    · exact h.get i v c' q2 p2
    · have := h.len; omega
  · rcases snoc_get e2 with ⟨p1, p2⟩ | ⟨p1, rfl⟩
    · have := h.len; omega
    · exact ⟨l, us, rfl, hl, h1, h2⟩
theorem CsV.upd {H : Hp} {D : Addr} {ys zs ws : List V} {css : List (List Pl)} (h : CsV H (some D) ys css) (hD : H D = some (.lst zs)) : CsV (upd H D (.lst ws)) (some D) ys css := by
  refine ⟨h.len, fun i v c e1 e2 => ?_⟩
  obtain ⟨l, us, r1, r2, r3, r4⟩ := h.get i v c e1 e2
  have n : l ≠ D := fun z => r2 (by rw [z])
  exact ⟨l, us, r1, r2, by rw [upd_ne n]; exact r3, r4.tup (Tup.lst hD)⟩
theorem halved_goal {K : PySem.W.Frag} {a : Addr} {xs : List V} {css : List (List Pl)} {H1 : Hp} {wi2 : TI} {te : TE} {cs : L2.St} {Q : VK} (hS : H1 a = some (.lst xs)) (hC : CsV H1 none xs css) (hn : css.length ≤ 1000)
    (hh : ∀ (l : Addr) (us : List V) (c : List Pl) (o : Option V) (H2 : Hp) (R : It → Hp → Prop), c ∈ css → H2 l = some (.lst us) → PlsV H2 us c → (∀ p l1 l2 u1 u2 H3, Same H2 H3 → H3 p = some (.tup [.ref l1, .ref l2]) → H2 l1 = none → H2 l2 = none → H3 l1 = some (.lst u1) → H3 l2 = some (.lst u2) → PlsV H3 u1 (fhI c) → PlsV H3 u2 (lhI c) → R (Itt K p) H3) → wi2 (some (.ref l) :: o :: cs) H2 R)
    (ht : ∀ (v : V) (o : Option V) (H2 : Hp) (k : VK), k v H2 → te (o :: some v :: cs) H2 k)
    (hq : ∀ D ys H2, H1 D = none → Same H1 H2 → H2 D = some (.lst ys) → CsV H2 none ys (halvedI css) → Q (.ref D) H2) :
    Comp2Goal 2 (Itl K a) H1 (gName 0) wi2 (gName 1) te cs Q := by
  intro D hD
  have nil0 : CsV (upd H1 D (.lst [])) (some D) [] (halvedI (css.take 0)) := ⟨by rw [List.take_zero]; rfl, fun i v c e => by simp at e⟩
  have hxl := hC.len
  refine ⟨fun i m ys H2 => m = css.length - i ∧ i ≤ css.length ∧ Same H1 H2 ∧ H2 D = some (.lst ys) ∧ CsV H2 (some D) ys (halvedI (css.take i)), ⟨css.length, by simp, Nat.zero_le _, Same.new hD, upd_same, nil0⟩, ?_⟩
  rintro i m ys H2 ⟨rfl, hi, s2, d2, r2⟩
  by_cases hlt : i < css.length
  · have ec : css[i]? = some css[i] := List.getElem?_eq_getElem hlt
    obtain ⟨l, us, el, hl, hP⟩ := (hC.same s2).at ec
    refine .inr ⟨⟨xs, _, SqL.of (s2 _ _ hS), el⟩, fun x H' y own ho => ?_⟩
    obtain ⟨rfl, hy⟩ := y
    have hx := hy xs (SqL.of (s2 _ _ hS))
    rw [el] at hx
    obtain rfl : V.ref l = x := Option.some.inj hx
    obtain ⟨o1, o2, rfl⟩ : ∃ o1 o2, own = [o1, o2] := by
      match own, ho with
      | [o1, o2], _ => exact ⟨o1, o2, rfl⟩
    refine ⟨[some (.ref l), o2], rfl, rfl, hh l us _ o2 H' _ (List.getElem_mem hlt) hl hP fun p l1 l2 u1 u2 H3 s3 hp f1 f2 g1 g2 P1 P2 => ?_⟩
    have n1 : l1 ≠ D := fun z => by rw [z, d2] at f1; cases f1
    have n2 : l2 ≠ D := fun z => by rw [z, d2] at f2; cases f2
    have e12 : halvedI (css.take (i + 1)) = halvedI (css.take i) ++ [fhI css[i]] ++ [lhI css[i]] := by
      rw [take_snoc ec, halved_snoc]; simp
    have hsz := r2.len
    rw [halved_len, List.length_take] at hsz
    have hfree : H1 D = none := hD
    refine ⟨fun j m2 ys2 own2 H6 => m2 = 2 - j ∧ j ≤ 2 ∧ (∃ o, own2 = [some (.ref l), o]) ∧ Same H1 H6 ∧ H6 p = some (.tup [.ref l1, .ref l2]) ∧ H6 l1 = some (.lst u1) ∧ H6 l2 = some (.lst u2) ∧ PlsV H6 u1 (fhI css[i]) ∧ PlsV H6 u2 (lhI css[i]) ∧ H6 D = some (.lst ys2) ∧ ys2.length = ys.length + j ∧ CsV H6 (some D) ys2 (halvedI (css.take i) ++ ([fhI css[i], lhI css[i]].take j)),
      ⟨2, rfl, by decide, ⟨o2, rfl⟩, s2.trans s3, hp, g1, g2, P1, P2, s3 _ _ d2, rfl, by rw [List.take_zero, List.append_nil]; exact r2.same s3⟩, ?_⟩
    rintro j m2 ys2 own2 H6 ⟨rfl, hj, ⟨o, rfl⟩, s6, hp6, h61, h62, Q1, Q2, d6, hl6, r6⟩
    have stepU : ∀ ws, Same H1 (upd H6 D (.lst ws)) := fun ws b q e => by rw [upd_ne (ne_of_none e hD)]; exact s6 _ _ e
    have npD : p ≠ D := fun z => by rw [z, d6] at hp6; cases hp6
    by_cases hj2 : j < 2
    · refine .inr ⟨⟨_, _, SqT.of hp6, List.getElem?_eq_getElem (by exact hj2)⟩, fun x2 H7 y2 ho2 => ?_⟩
      obtain ⟨rfl, hy2⟩ := y2
      have hx2 := hy2 _ (SqT.of hp6)
      refine ⟨[some (.ref l), some x2], rfl, rfl, ht _ _ _ _ ?_⟩
      refine ⟨d6, small_line (by omega), 2 - (j + 1), by omega, rfl, by omega, ⟨_, rfl⟩, stepU _, by rw [upd_ne npD]; exact hp6, by rw [upd_ne n1]; exact h61, by rw [upd_ne n2]; exact h62, Q1.tup (Tup.lst d6), Q2.tup (Tup.lst d6), upd_same, by rw [List.length_append, hl6]; rfl, ?_⟩
      have hj3 : j = 0 ∨ j = 1 := by omega
      rcases hj3 with rfl | rfl
      · obtain rfl : V.ref l1 = x2 := Option.some.inj hx2
        show CsV _ _ _ (halvedI (css.take i) ++ [fhI css[i]])
        exact (CsV.upd (by simpa using r6) d6).snoc (fun z => n1 (Option.some.inj z)) (by rw [upd_ne n1]; exact h61) (Q1.tup (Tup.lst d6))
      · obtain rfl : V.ref l2 = x2 := Option.some.inj hx2
        show CsV _ _ _ (halvedI (css.take i) ++ [fhI css[i], lhI css[i]])
        have := (CsV.upd r6 d6 (ws := ys2 ++ [.ref l2])).snoc (l := l2) (fun z => n2 (Option.some.inj z)) (by rw [upd_ne n2]; exact h62) (Q2.tup (Tup.lst d6))
        rw [List.append_assoc] at this
        exact this
    · have hj3 : j = 2 := by omega
      subst hj3
      refine .inl ⟨⟨_, SqT.of hp6, by show 2 ≤ 2; decide⟩, css.length - (i + 1), by omega, rfl, by omega, s6, d6, ?_⟩
      rw [e12, List.append_assoc]
      exact r6
  · have e : i = css.length := by omega
    subst e
    rw [List.take_length] at r2
    refine .inl ⟨⟨xs, SqL.of (s2 _ _ hS), by omega⟩, hq D ys H2 hD s2 d2 ⟨r2.len, fun i v c e1 e2 => ?_⟩⟩
    obtain ⟨l, us, q1, q2, q3, q4⟩ := r2.get i v c e1 e2
    exact ⟨l, us, q1, fun z => (by cases z), q3, q4⟩
end Cv
namespace Cv
open PySem PySem.Spec PyProof.Rows L2
theorem Plain2.congr {K : PySem.W.Frag} {J : It} {H1 : Hp} {n m : Nat} {f g f' g' : Nat → V} (h : Plain2 K J H1 n f g) (hn : n = m) (hf : ∀ i, i < n → f i = f' i) (hg : ∀ i, i < n → g i = g' i) : Plain2 K J H1 m f' g' := fun H2 s i => by
  subst hn
  refine ⟨fun hi => ⟨((h H2 s i).1 hi).1, fun x H' y => ?_⟩, (h H2 s i).2⟩
  have q := ((h H2 s i).1 hi).2 x H' y
  rw [hf i hi, hg i hi] at q
  exact q
noncomputable def adr : V → Addr
  | .ref a => a
  | _ => 0
theorem comp_hv {K : PySem.W.Frag} {a b : Addr} {rs : List V} {c : List Pl} {H1 : Hp} {te : TE} {cs : L2.St} {Q : VK} (h1 : H1 a = some (.lst rs)) (hP : PlsV H1 rs c) (h2 : H1 b = some (.lst (rs.drop 1))) (hn : c.length ≤ 100000)
    (he : ∀ (H2 : Hp) (k : VK) (x y u v : Int), Same H1 H2 → (∀ w H3, Same H2 H3 → RwV H3 w ((x + u) / 2) ((y + v) / 2) → k w H3) → te (some (.int x) :: some (.int y) :: some (.int u) :: some (.int v) :: cs) H2 k)
    (hq : ∀ D ys H2, H1 D = none → Same H1 H2 → H2 D = some (.lst ys) → PlsV H2 ys (hvN c) → Q (.ref D) H2) :
    CompGoal 4 (Itz K a b) H1 (gTup K 2 (gCons (gTup K 2 (gCons (gName 0) (gCons (gName 1) gNil))) (gCons (gTup K 2 (gCons (gName 2) (gCons (gName 3) gNil))) gNil))) te cs Q := by
  have hl := hP.len
  have g0 : ∀ i, i < c.length → rs[i]? = some (.ref (adr ((rs[i]?).getD .non))) ∧ H1 (adr ((rs[i]?).getD .non)) = some (.tup [.int ((c[i]?).getD (0, 0)).1, .int ((c[i]?).getD (0, 0)).2]) := fun i hi => by
    obtain ⟨z, ez, hz⟩ := hP.at (List.getElem?_eq_getElem hi)
    rw [ez, List.getElem?_eq_getElem hi]
    exact ⟨rfl, hz⟩
  have J := (plain_zip (SqL.of (K := K) h1) (SqL.of (K := K) h2)).congr (m := c.length - 1) (f' := fun i => .ref (adr ((rs[i]?).getD .non))) (g' := fun i => .ref (adr ((rs[i + 1]?).getD .non))) (by rw [List.length_drop]; omega)
    (fun i hi => by rw [List.length_drop] at hi; show (rs[i]?).getD .non = _; rw [(g0 i (by omega)).1]; rfl)
    (fun i hi => by rw [List.length_drop] at hi; show ((rs.drop 1)[i]?).getD .non = _; rw [List.getElem?_drop, Nat.add_comm 1 i, (g0 (i + 1) (by omega)).1]; rfl)
  refine comp22 (fa := fun i => adr ((rs[i]?).getD .non)) (ga := fun i => adr ((rs[i + 1]?).getD .non)) (x := fun i => .int ((c[i]?).getD (0, 0)).1) (y := fun i => .int ((c[i]?).getD (0, 0)).2) (u := fun i => .int ((c[i + 1]?).getD (0, 0)).1) (v := fun i => .int ((c[i + 1]?).getD (0, 0)).2) J
    (fun i hi => SqT.of (g0 i (by omega)).2) (fun i hi => SqT.of (g0 (i + 1) (by omega)).2) (by omega)
    (fun i v H => RwV H v ((((c[i]?).getD (0, 0)).1 + ((c[i + 1]?).getD (0, 0)).1) / 2) ((((c[i]?).getD (0, 0)).2 + ((c[i + 1]?).getD (0, 0)).2) / 2)) (fun _ _ _ _ t h => h.tup t)
    (fun i H2 k hi s2 hk => he H2 k _ _ _ _ s2 fun w H3 s3 hw => hk w H3 s3 hw) (fun D ys H2 hD s2 hd hyl hr => hq D ys H2 hD s2 hd ⟨by rw [hvN_len]; exact hyl, fun i v p e1 e2 => ?_⟩)
  have hi : i < ys.length := (List.getElem?_eq_some_iff.mp e1).1
  have q := hr i v e1
  have f1 : c[i]? = some (c[i]'(by omega)) := List.getElem?_eq_getElem _
  have f2 : c[i + 1]? = some (c[i + 1]'(by omega)) := List.getElem?_eq_getElem _
  rw [hvN_get f1 f2] at e2
  cases e2
  rw [f1, f2] at q
  exact q
noncomputable def muR (σ : L2.St) (H : Hp) : Nat := match (show List (Option V) from σ)[3]? with
  | some (some (V.ref l)) => (match H l with | some (.lst xs) => xs.length | _ => 0)
  | _ => 0
theorem muR_eq {a b c : Option V} {l : Addr} {H : Hp} {xs : List V} (h : H l = some (.lst xs)) : muR [a, b, c, some (.ref l)] H = xs.length := by
  unfold muR
  show (match H l with | some (.lst xs) => xs.length | _ => 0) = _
  rw [h]
theorem PlsV.rev {H : Hp} {us : List V} {pl : List Pl} (h : PlsV H us pl) : PlsV H us.reverse pl.reverse := by
  have hl := h.len
  refine ⟨by rw [List.length_reverse, List.length_reverse, hl], fun i w q e1 e2 => ?_⟩
  have hi : i < us.length := by have := (List.getElem?_eq_some_iff.mp e1).1; rwa [List.length_reverse] at this
  rw [List.getElem?_reverse hi] at e1
  rw [List.getElem?_reverse (by omega)] at e2
  rw [hl] at e1
  exact h.get _ w q e1 e2
theorem lh_rev (c : List Pl) : ((List.range c.length).map fun r => ((hrow c r)[c.length - 1 - r]?).getD (0, 0)).reverse = lhI c := by
  unfold lhI
  refine List.ext_getElem? fun i => ?_
  by_cases hi : i < c.length
  · rw [List.getElem?_reverse (by simp; omega), List.getElem?_map, List.getElem?_map, List.getElem?_range hi, List.length_map, List.length_range, List.getElem?_range (by omega)]
    show some (((hrow c (c.length - 1 - i))[c.length - 1 - (c.length - 1 - i)]?).getD (0, 0)) = some (((hrow c (c.length - 1 - i))[i]?).getD (0, 0))
    rw [show c.length - 1 - (c.length - 1 - i) = i by omega]
  · rw [List.getElem?_eq_none (by simp; omega), List.getElem?_eq_none (by simp; omega)]
theorem row_last {c : List Pl} {r : Nat} (h : r < c.length) {rs : List V} {H : Hp} (hP : PlsV H rs (hrow c r)) : ∃ v, rs[rs.length - 1]? = some v ∧ RwV H v (((hrow c r)[c.length - 1 - r]?).getD (0, 0)).1 (((hrow c r)[c.length - 1 - r]?).getD (0, 0)).2 := by
  have hl := hP.len
  have hr := hrow_len c r
  have e : (hrow c r)[c.length - 1 - r]? = some ((hrow c r)[c.length - 1 - r]'(by omega)) := List.getElem?_eq_getElem _
  obtain ⟨a, ea, ha⟩ := hP.at e
  rw [e]
  refine ⟨_, by rw [hl, hr, show c.length - r - 1 = c.length - 1 - r by omega]; exact ea, a, rfl, ha⟩
end Cv
namespace Cv
open PySem PySem.Spec PyProof.Rows L2
theorem top_szW {x W D : Int} {m : Nat} (hW : 0 < W) (hD : 0 < D) (hWD : W ∣ D) (ho : Ov D m (Rat.divInt x W)) : Sz m x := by
  obtain ⟨c, rfl⟩ := hWD
  have hc : 0 < c := by
    rcases Int.lt_trichotomy c 0 with h | h | h
    · have := Int.mul_neg_of_pos_of_neg hW h; omega
    · rw [h, Int.mul_zero] at hD; omega
    · exact h
  have w0 : (W : Rat) ≠ 0 := fun z => by have := Rat.intCast_inj.mp (z.trans (Rat.intCast_zero).symm); omega
  obtain ⟨a, ea, za⟩ := ho
  rw [divInt_cast, Rat.intCast_mul] at ea
  have e : ((x * c : Int) : Rat) = (a : Rat) := by
    rw [← ea, Rat.intCast_mul]
    grind
  have z : Sz m (x * c) := by rw [Rat.intCast_inj.mp e]; exact za
  exact z.le (by rw [Int.natAbs_mul]; exact Nat.le_mul_of_pos_right _ (by omega))
theorem wc_len {R : Int} {t1 t2 : List Int} (h : t1.length = t2.length) : (wcI R t1 t2).length = t1.length := by unfold wcI; rw [List.length_zipWith]; omega
theorem wc_toP {R : Int} (hR : R ≠ 0) {t1 t2 b1 b2 : List Int} {ps : List Pt} (e1 : axR t1 b1 = ps.map (·.1)) (e2 : axR t2 b2 = ps.map (·.2)) : toP (prodI b1 * R) (prodI b2 * R) (wcI R t1 t2) = ps := by
  have l1 : t1.length = ps.length := by have := congrArg List.length e1; rw [axR_len, List.length_map] at this; exact this
  have l2 : t2.length = ps.length := by have := congrArg List.length e2; rw [axR_len, List.length_map] at this; exact this
  refine List.ext_getElem? fun i => ?_
  by_cases hi : i < ps.length
  · have f1 : t1[i]? = some (t1[i]'(by omega)) := List.getElem?_eq_getElem _
    have f2 : t2[i]? = some (t2[i]'(by omega)) := List.getElem?_eq_getElem _
    have g1 := congrArg (fun l => l[i]?) e1
    have g2 := congrArg (fun l => l[i]?) e2
    simp only [axR, List.getElem?_map, f1, f2, List.getElem?_eq_getElem hi, Option.map_some, Option.some.injEq] at g1 g2
    unfold toP wcI
    rw [List.getElem?_map, List.getElem?_zipWith, f1, f2, List.getElem?_eq_getElem hi]
    show some (Rat.divInt _ _, Rat.divInt _ _) = _
    rw [Rat.divInt_mul_right hR, Rat.divInt_mul_right hR, g1, g2]
  · rw [List.getElem?_eq_none (by rw [toP_len, wc_len (by omega)]; omega), List.getElem?_eq_none (by omega)]
theorem wc_mem {R : Int} {t1 t2 : List Int} {p : Pl} (h : p ∈ wcI R t1 t2) : ∃ x y, x ∈ t1 ∧ y ∈ t2 ∧ p = (x * R, y * R) := by
  unfold wcI at h
  obtain ⟨i, hi, rfl⟩ := List.getElem_of_mem h
  rw [List.length_zipWith] at hi
  rw [List.getElem_zipWith]
  exact ⟨_, _, List.getElem_mem _, List.getElem_mem _, rfl⟩
theorem wc_dvs (k : Nat) (t1 t2 : List Int) : Dvs k (wcI (2 ^ k) t1 t2) := fun p hp => by
  obtain ⟨x, y, _, _, rfl⟩ := wc_mem hp
  exact ⟨⟨x, Int.mul_comm _ _⟩, ⟨y, Int.mul_comm _ _⟩⟩
theorem pow_szI (k : Nat) : Sz (k + 1) ((2 : Int) ^ k) := ⟨by
  have e : ((2 : Int) ^ k).natAbs = 2 ^ k := by
    rw [Int.natAbs_pow]; rfl
  rw [e, Nat.pow_succ]
  have := Nat.two_pow_pos k
  omega⟩
theorem wc_sz {k m : Nat} {t1 t2 : List Int} (h1 : ∀ x ∈ t1, Sz m x) (h2 : ∀ x ∈ t2, Sz m x) : SzQ (m + (k + 1)) (wcI (2 ^ k) t1 t2) := fun p hp => by
  obtain ⟨x, y, hx, hy, rfl⟩ := wc_mem hp
  exact ⟨(h1 x hx).mul (pow_szI k), (h2 y hy).mul (pow_szI k)⟩
theorem tops_sz {t b : List Int} {qs : List Rat} {D : Int} {m : Nat} (hW : 0 < prodI b) (hD : 0 < D) (hWD : prodI b ∣ D) (e : axR t b = qs) (ho : ∀ q ∈ qs, Ov D m q) : ∀ x ∈ t, Sz m x := fun x hx => by
  refine top_szW hW hD hWD (ho _ ?_)
  rw [← e]
  exact List.mem_map.mpr ⟨x, hx, rfl⟩
theorem pow_posI (k : Nat) : (0 : Int) < 2 ^ k := by
  have := Nat.two_pow_pos k
  have e : ((2 ^ k : Nat) : Int) = (2 : Int) ^ k := by simp
  rw [← e]; omega
theorem toP_fst (dx dy : Int) (c : List Pl) : (toP dx dy c).map (·.1) = (c.map (·.1)).map fun x => Rat.divInt x dx := by unfold toP; rw [List.map_map, List.map_map]; rfl
theorem toP_snd (dx dy : Int) (c : List Pl) : (toP dx dy c).map (·.2) = (c.map (·.2)).map fun x => Rat.divInt x dy := by unfold toP; rw [List.map_map, List.map_map]; rfl
theorem axR_snoc (t b : List Int) (R : Int) : axR t (b ++ [R]) = t.map fun x => Rat.divInt x (prodI b * R) := by unfold axR; rw [prodI_snoc]
theorem toP_bd {dx dy : Int} {n a : Nat} {c : List Pl} (hx : dx ≠ 0) (hy : dy ≠ 0) (zx : Sz a dx) (zy : Sz a dy) (hc : SzQ n c) : ∀ p ∈ toP dx dy c, Bd (max n a) p.1 ∧ Bd (max n a) p.2 := fun p hp => by
  unfold toP at hp
  obtain ⟨q, hq, rfl⟩ := List.mem_map.mp hp
  exact ⟨Bd.of (hc q hq).1 zx hx, Bd.of (hc q hq).2 zy hy⟩
end Cv
namespace Cv
open PySem PySem.Spec PyProof.Rows L2
theorem LsV.mono {H1 H2 : Hp} {D : Addr} {ys : List V} {R R' : Nat → List V → Hp → Prop} (h : LsV H1 H2 D ys R) (f : ∀ i xs, i < ys.length → R i xs H2 → R' i xs H2) : LsV H1 H2 D ys R' :=
  ⟨fun i v e => by obtain ⟨l, xs, e1, e2, e3, e4, e5⟩ := h.get i v e; exact ⟨l, xs, e1, e2, e3, e4, f i xs (List.getElem?_eq_some_iff.mp e).1 e5⟩, h.one⟩
end Cv
namespace Cv
open PySem PySem.Spec PyProof.Rows L2
/-! ### the law's two curves -/
structure CvB (H : Hp) (v : V) (l : Addr) (ws : List V) (ps : List Pt) (B : Int) (mo : Nat) : Prop where
  ref : v = .ref l
  lst : H l = some (.lst ws)
  pts : PtsV H ws ps
  l1 : 1 ≤ ps.length
  l2 : ps.length ≤ mo
  ov : ∀ p ∈ ps, OvP B 110 p
theorem CvB.same {H H' : Hp} {v : V} {l : Addr} {ws : List V} {ps : List Pt} {B : Int} {mo : Nat} (h : CvB H v l ws ps B mo) (s : Same H H') : CvB H' v l ws ps B mo := ⟨h.ref, s _ _ h.lst, h.pts.same s, h.l1, h.l2, h.ov⟩
noncomputable def spDTwo (K : PySem.W.Frag) : Sp := fun vs H Q _ => ∃ (a : Addr) (ns : List Int) (mo : Nat), vs = [.ref a, .int (mo : Int)] ∧ SqL K H a (ns.map V.int) ∧ 1 ≤ mo ∧ mo ≤ 8 ∧
  ∀ (lb l0 l1 : Addr) (w0 w1 : List V) (p0 p1 : List Pt) (B : Int) (H' : Hp), Same H H' → H lb = none → H' lb = some (.lst [.ref l0, .ref l1]) → CvB H' (.ref l0) l0 w0 p0 B mo → CvB H' (.ref l1) l1 w1 p1 B mo → 1 ≤ B → B ≤ 3 → Q (.ref lb) H'
theorem seat_sz3 {c s f : Int} (h1 : c.natAbs ≤ 12) (h2 : s.natAbs ≤ 10 ^ 30) (h3 : f.natAbs ≤ 10 ^ 30) : Sz 110 (c * s + f) ∧ Sz 110 (c * s - f) := by
  have e : (c * s).natAbs ≤ 12 * 10 ^ 30 := by rw [Int.natAbs_mul]; exact Nat.mul_le_mul h1 h2
  have p : (13 : Nat) * 10 ^ 30 < 2 ^ 110 := by decide
  exact ⟨⟨by omega⟩, ⟨by omega⟩⟩
theorem PtsV.rev {H : Hp} {us : List V} {ps : List Pt} (h : PtsV H us ps) : PtsV H us.reverse ps.reverse := by
  have hl := h.len
  refine ⟨by rw [List.length_reverse, List.length_reverse, hl], fun i w q e1 e2 => ?_⟩
  have hi : i < us.length := by have := (List.getElem?_eq_some_iff.mp e1).1; rwa [List.length_reverse] at this
  rw [List.getElem?_reverse hi] at e1
  rw [List.getElem?_reverse (by omega)] at e2
  rw [hl] at e1
  exact h.get _ w q e1 e2
end Cv
namespace Cv
open PySem PySem.Spec PyProof.Rows L2
/-! ### lists of curves, compared -/
noncomputable def PssV (H : Hp) (us : List V) (n : Nat) (qs : Nat → List Pt) : Prop := us.length = n ∧ ∀ (i : Nat) (v : V), us[i]? = some v → ∃ (l : Addr) (xs : List V), v = .ref l ∧ H l = some (.lst xs) ∧ PtsV H xs (qs i)
theorem PssV.same {H H' : Hp} {us : List V} {n : Nat} {qs : Nat → List Pt} (h : PssV H us n qs) (s : Same H H') : PssV H' us n qs :=
  ⟨h.1, fun i v e => by obtain ⟨l, xs, e1, e2, e3⟩ := h.2 i v e; exact ⟨l, xs, e1, s _ _ e2, e3.same s⟩⟩
theorem PssV.at {H : Hp} {us : List V} {n : Nat} {qs : Nat → List Pt} (h : PssV H us n qs) {i : Nat} (hi : i < n) : ∃ (l : Addr) (xs : List V), us[i]? = some (.ref l) ∧ H l = some (.lst xs) ∧ PtsV H xs (qs i) := by
  have e : us[i]? = some (us[i]'(by rw [h.1]; exact hi)) := List.getElem?_eq_getElem _
  obtain ⟨l, xs, e1, e2, e3⟩ := h.2 i _ e
  exact ⟨l, xs, by rw [e, e1], e2, e3⟩
noncomputable def datCs (qs : List (List Pt)) : PySem.W.Dat := .list (qs.map datPts)
theorem datCs_ok (qs : List (List Pt)) (n : Nat) : PySem.W.kqdOk (n + 4) (datCs qs) = true := by
  have h : ∀ p : List Pt, PySem.W.kqdOk (n + 3) (datPts p) = true := fun p => datPts_ok p n
  simp [datCs, PySem.W.kqdOk, h]
theorem dnAll_cs {K : PySem.W.Frag} {H : Hp} : ∀ {n : Nat} {qs : Nat → List Pt} {vs : List V}, PssV H vs n qs → DnAll K H (((List.range n).map qs).map datPts) vs
  | 0, qs, vs, h => by
    have : vs = [] := List.length_eq_zero_iff.mp h.1
    subst this
    simp [DnAll]
  | n + 1, qs, vs, h => by
    cases vs with
    | nil => have := h.1; simp at this
    | cons v vs =>
      rw [List.range_succ_eq_map, List.map_cons, List.map_cons, List.map_map (g := qs)]
      simp only [DnAll]
      obtain ⟨l, xs, rfl, hl, hP⟩ := h.2 0 v rfl
      exact ⟨_, vs, rfl, dnP hl hP, dnAll_cs (n := n) (qs := qs ∘ Nat.succ) ⟨by have := h.1; simpa using this, fun i w e => h.2 (i + 1) w (by simpa using e)⟩⟩
theorem dnCs {K : PySem.W.Frag} {H : Hp} {a : Addr} {n : Nat} {qs : Nat → List Pt} {vs : List V} (hs : H a = some (.lst vs)) (h : PssV H vs n qs) : Dn K H (datCs ((List.range n).map qs)) (.ref a) := by
  unfold datCs
  simp only [Dn]
  exact ⟨a, vs, rfl, SqL.of hs, dnAll_cs h⟩
theorem PssV.drop {H : Hp} {us : List V} {n k : Nat} {qs : Nat → List Pt} (h : PssV H us n qs) (hk : k ≤ n) : PssV H (us.drop k) (n - k) (fun i => qs (k + i)) :=
  ⟨by rw [List.length_drop, h.1], fun i v e => by rw [List.getElem?_drop] at e; exact h.2 (k + i) v e⟩
/-- the stretches told are those of the curve -/
structure StOk (L : Nat) (qs : Nat → List Pt) (ps : List Pt) : Prop where
  len : ∀ i, i < 2 ^ L → (qs i).length = ps.length
  bd : ∀ i, i < 2 ^ L → ∀ p ∈ qs i, Bd 340 p.1 ∧ Bd 340 p.2
  pt : ∀ i, i < 2 ^ L → ∀ u, ptP u (qs i) = ptP (tq L i u) ps
  bp : ∀ p ∈ ps, Bd 340 p.1 ∧ Bd 340 p.2
  l1 : 1 ≤ ps.length
  l12 : ps.length ≤ 12
  hL : L ≤ 6
noncomputable def spGoodS (K : PySem.W.Frag) : Sp := fun vs H Q _ => ∃ (f c : Addr) (us ws : List V) (qs : Nat → List Pt) (ps : List Pt) (L : Nat), vs = [.ref f, .ref c, .int (L : Int)] ∧ H f = some (.lst us) ∧ PssV H us (2 ^ L) qs ∧ H c = some (.lst ws) ∧ PtsV H ws ps ∧ StOk L qs ps ∧ ∀ H', Same H H' → Q (.bl true) H'
theorem bls_of {us : List V} {n : Nat} (hl : us.length = n) (h : ∀ (i : Nat) v, us[i]? = some v → v = V.bl true) : us = (List.replicate n true).map V.bl := by
  refine List.ext_getElem? fun i => ?_
  by_cases hi : i < n
  · have e : us[i]? = some (us[i]'(by omega)) := List.getElem?_eq_getElem _
    rw [e, h i _ e, List.getElem?_map, List.getElem?_replicate, if_pos hi]; rfl
  · rw [List.getElem?_eq_none (by omega), List.getElem?_eq_none (by rw [List.length_map, List.length_replicate]; omega)]
end Cv
namespace Cv
open PySem PySem.Spec PyProof.Rows L2
/-- all but the first i of the told lists stays -/
structure But (us : List V) (i : Nat) (H H' : Hp) : Prop where
  keep : ∀ b o, H b = some o → (∀ j, j < i → us[j]? ≠ some (.ref b)) → H' b = some o
theorem But.refl (us : List V) (H : Hp) : But us 0 H H := ⟨fun _ _ e _ => e⟩
theorem But.same {us : List V} {i : Nat} {H H1 H2 : Hp} (h : But us i H H1) (s : Same H1 H2) : But us i H H2 := ⟨fun b o e n => s _ _ (h.keep b o e n)⟩
theorem But.step {us : List V} {i : Nat} {H H1 : Hp} {l : Addr} {o : HO} (h : But us i H H1) (e : us[i]? = some (.ref l)) : But us (i + 1) H (upd H1 l o) := ⟨fun b q eb n => by
  have nb : b ≠ l := fun z => n i (by omega) (by rw [z]; exact e)
  rw [upd_ne nb]
  exact h.keep b q eb fun j hj => n j (by omega)⟩
theorem But.tup {us : List V} {i : Nat} {H H' : Hp} (h : But us i H H') (hl : ∀ (j : Nat) (l : Addr), us[j]? = some (.ref l) → ∃ xs, H l = some (.lst xs)) : Tup H H' := fun b xs e => h.keep b _ e fun j hj z => by
  obtain ⟨ys, hy⟩ := hl j b z
  rw [e] at hy; cases hy
theorem But.first {us : List V} {i : Nat} {H0 H H' : Hp} {f : Addr} {qs : Nat → List Pt} (h : But us i H H') (hL : LsV H0 H f us fun i xs H => PtsV H xs (qs i)) {n : Nat} (hn : us.length = n) (hi : i ≤ n) : PssV H' (us.drop i) (n - i) (fun j => qs (i + j)) := by
  have tp := h.tup fun j l e => by obtain ⟨l', xs, e1, _, _, e4, _⟩ := hL.get j _ e; cases e1; exact ⟨xs, e4⟩
  refine ⟨by rw [List.length_drop, hn], fun j v e => ?_⟩
  rw [List.getElem?_drop] at e
  obtain ⟨l, xs, rfl, e2, e3, e4, e5⟩ := hL.get (i + j) v e
  refine ⟨l, xs, rfl, h.keep l _ e4 fun j' hj' z => ?_, e5.tup tp⟩
  have := hL.one _ _ _ e z
  omega
theorem But.other {us ks : List V} {i : Nat} {H1 H2 H' : Hp} {k : Addr} {qs : Nat → List Pt} (h : But us i H2 H') (hu : ∀ (j : Nat) (l : Addr), us[j]? = some (.ref l) → ∃ xs, H1 l = some (.lst xs)) (s : Same H1 H2) (hL : LsV H1 H2 k ks fun i xs H => PtsV H xs (qs i)) {n : Nat} (hn : ks.length = n) : PssV H' ks n qs := by
  have tp := h.tup fun j l e => by obtain ⟨xs, hx⟩ := hu j l e; exact ⟨xs, s _ _ hx⟩
  refine ⟨hn, fun j v e => ?_⟩
  obtain ⟨l, xs, rfl, e2, e3, e4, e5⟩ := hL.get j v e
  refine ⟨l, xs, rfl, h.keep l _ e4 fun j' hj' z => ?_, e5.tup tp⟩
  obtain ⟨ys, hy⟩ := hu j' l z
  rw [e2] at hy; cases hy
theorem LsV.pss {H0 H : Hp} {f : Addr} {us : List V} {qs : Nat → List Pt} (hL : LsV H0 H f us fun i xs H => PtsV H xs (qs i)) {n : Nat} (hn : us.length = n) : PssV H us n qs :=
  ⟨hn, fun j v e => by obtain ⟨l, xs, e1, e2, e3, e4, e5⟩ := hL.get j v e; exact ⟨l, xs, e1, e4, e5⟩⟩
end Cv

set_option maxHeartbeats 4000000
namespace Cv
open PySem L2
local macro_rules | `(tactic| walk_at "hf") => `(tactic| first
  | assumption
  | exact upd_same
  | (refine upd_keep (by assumption) ?_; walk_at "hf")
  | (refine (by assumption : L2.Same _ _) _ _ ?_; walk_at "hf")
  | fail)
local macro_rules | `(tactic| walk_at "sm") => `(tactic| first
  | assumption
  | exact L2.Same.refl _
  | (refine L2.Same.trans ?_ (by assumption : L2.Same _ _); walk_at "sm")
  | (refine L2.Same.trans ?_ (Same.new (by assumption)); walk_at "sm")
  | fail)
local macro_rules | `(tactic| walk_at "mv") => `(tactic| first
  | assumption
  | (refine ShV.same ?_ (by assumption : L2.Same _ _); walk_at "mv")
  | (refine ShV.same ?_ (Same.new (by assumption)); walk_at "mv")
  | (refine PtV.same ?_ (by assumption : L2.Same _ _); walk_at "mv")
  | (refine PtV.same ?_ (Same.new (by assumption)); walk_at "mv")
  | (refine RwV.same ?_ (by assumption : L2.Same _ _); walk_at "mv")
  | (refine RwV.same ?_ (Same.new (by assumption)); walk_at "mv")
  | (refine RwQ.same ?_ (by assumption : L2.Same _ _); walk_at "mv")
  | (refine RwQ.same ?_ (Same.new (by assumption)); walk_at "mv")
  | (refine MpV.same ?_ (by assumption : L2.Same _ _); walk_at "mv")
  | (refine MpV.same ?_ (Same.new (by assumption)); walk_at "mv")
  | (refine PtsV.same ?_ (by assumption : L2.Same _ _); walk_at "mv")
  | (refine PtsV.same ?_ (Same.new (by assumption)); walk_at "mv")
  | (refine AxV.same ?_ (by assumption : L2.Same _ _); walk_at "mv")
  | (refine AxV.same ?_ (Same.new (by assumption)); walk_at "mv")
  | (refine ShL.same ?_ (by assumption : L2.Same _ _); walk_at "mv")
  | (refine ShL.same ?_ (Same.new (by assumption)); walk_at "mv")
  | (refine SqL.same' ?_ (by assumption : L2.Same _ _); walk_at "mv")
  | (refine SqL.same' ?_ (Same.new (by assumption)); walk_at "mv")
  | fail)
local macro_rules | `(tactic| walk_at "sq") => `(tactic| first
  | exact SqT.of (by walk_at "hf")
  | exact SqL.of (by walk_at "hf")
  | walk_at "mv"
  | fail)
local macro_rules | `(tactic| walk_at "at") => `(tactic| first
  | rfl
  | assumption
  | exact at_mapZ _ _ (by omega) (by omega)
  | fail)
local macro_rules | `(tactic| walk_at "sz") => `(tactic| first
  | assumption
  | exact Bd.num (by assumption)
  | exact Bd.den (by assumption)
  | exact Sz.one
  | exact Sz.mul (by walk_at "sz") (by walk_at "sz")
  | exact Sz.add (by walk_at "sz") (by walk_at "sz")
  | exact Sz.sub (by walk_at "sz") (by walk_at "sz")
  | exact Sz.neg (by walk_at "sz")
  | fail)
local macro_rules | `(tactic| walk_at "bdx") => `(tactic| first
  | assumption
  | exact Bd.zero'
  | exact Bd.one'
  | exact Bd.add (by walk_at "bdx") (by walk_at "bdx")
  | exact Bd.sub (by walk_at "bdx") (by walk_at "bdx")
  | exact Bd.mul (by walk_at "bdx") (by walk_at "bdx")
  | fail)
local macro_rules | `(tactic| walk_at "bd") => `(tactic| exact Bd.mono (by walk_at "bdx") (by decide))
local macro_rules | `(tactic| walk_at "szm") => `(tactic| exact Sz.mono (by walk_at "sz") (by decide))
local macro_rules | `(tactic| walk_at "arith") => `(tactic| first
  | exact pos30
  | exact pl
  | exact ⟨by decide, by decide⟩
  | exact ⟨by decide, by decide, by decide⟩
  | exact mulL (by decide) (by decide)
  | exact mulR (by decide) (by decide)
  | exact mulR (by omega) (by omega)
  | exact mulL (by omega) (by omega)
  | exact mulB (by walk_at "sz") (by walk_at "sz")
  | fail)
local macro_rules | `(tactic| walk_at "len") => `(tactic| first
  | (show 2 ≤ sizeLine; decide)
  | (show 0 ≤ sizeLine; decide)
  | (show 1 ≤ sizeLine; decide)
  | (show 3 ≤ sizeLine; decide)
  | (show 4 ≤ sizeLine; decide)
  | (show 5 ≤ sizeLine; decide)
  | (show 6 ≤ sizeLine; decide)
  | (show 8 ≤ sizeLine; decide)
  | fail)
local macro_rules | `(tactic| walk_at "r1") => `(tactic| first
  | refine ⟨_, _, rfl, rfl, by walk_at "arith", ?_⟩
  | refine ⟨_, _, rfl, rfl, ?_⟩
  | refine ⟨_, _, _, _, rfl, rfl, by walk_at "sq", by walk_at "at", ?_⟩
  | refine ⟨_, rfl, ?_⟩
  | refine ⟨rfl, ?_⟩
  | refine ⟨_, _, rfl, .inr (SqT.of (by walk_at "hf")), ?_⟩
  | refine ⟨_, _, rfl, .inl (SqL.of (by walk_at "hf")), ?_⟩
  | refine ⟨_, "tuple", _, _, rfl, TyOf.tup (by walk_at "hf"), kit_tt _, ?_⟩
  | refine ⟨_, "list", _, _, rfl, TyOf.lst (by walk_at "hf"), kit_ll _, ?_⟩
  | refine ⟨_, "int", _, _, rfl, TyOf.int _, kit_ii _, ?_⟩
  | refine ⟨_, "bool", _, _, rfl, TyOf.int _, kit_ib _, ?_⟩
  | refine ⟨_, "bool", _, _, rfl, TyOf.bl _, kit_bb _, ?_⟩
  | refine ⟨by walk_at "len", ?_⟩
  | refine ⟨by decide, ?_⟩
  | fail)
local macro_rules | `(tactic| walk_at "rd") => `(tactic| repeat walk_at "r1")
local macro_rules | `(tactic| walk_at "fr") => `(tactic| first
  | assumption
  | (refine L2.Same.free (by assumption : L2.Same _ _) ?_; walk_at "fr")
  | (refine L2.Same.free (Same.new (by assumption)) ?_; walk_at "fr")
  | fail)

noncomputable def top (i : Nat) : Stmt := PySem.Challenge.pw_curveseat_k60_stretches.main.body.getD i (.Pass ⟨0, 0, 0, 0⟩)
noncomputable abbrev s_greatest_common : Stmt := top 1
theorem sc_greatest_common : FnScope ["one", "other"] ["one", "other"] (defScope s_greatest_common) := ⟨rfl, rfl, rfl, by decide +kernel, rfl, by decide +kernel, by decide +kernel⟩
noncomputable abbrev s_common_bottoms : Stmt := top 3
theorem sc_common_bottoms : FnScope ["shares", "found", "whole", "one", "more"] ["shares"] (defScope s_common_bottoms) := ⟨rfl, rfl, rfl, by decide +kernel, rfl, by decide +kernel, by decide +kernel⟩
noncomputable abbrev s_product : Stmt := top 4
theorem sc_product : FnScope ["numbers", "found", "number"] ["numbers"] (defScope s_product) := ⟨rfl, rfl, rfl, by decide +kernel, rfl, by decide +kernel, by decide +kernel⟩
noncomputable abbrev s_share_over : Stmt := top 5
theorem sc_share_over : FnScope ["top", "bottoms", "below", "bottom", "common"] ["top", "bottoms"] (defScope s_share_over) := ⟨rfl, rfl, rfl, by decide +kernel, rfl, by decide +kernel, by decide +kernel⟩
noncomputable abbrev s_axis : Stmt := top 6
theorem sc_axis : FnScope ["shares", "bottoms", "whole"] ["shares"] (defScope s_axis) := ⟨rfl, rfl, rfl, by decide +kernel, rfl, by decide +kernel, by decide +kernel⟩
noncomputable abbrev s_axes : Stmt := top 7
theorem sc_axes : FnScope ["points"] ["points"] (defScope s_axes) := ⟨rfl, rfl, rfl, by decide +kernel, rfl, by decide +kernel, by decide +kernel⟩
noncomputable abbrev s_points_of : Stmt := top 8
theorem sc_points_of : FnScope ["xs", "ys"] ["xs", "ys"] (defScope s_points_of) := ⟨rfl, rfl, rfl, by decide +kernel, rfl, by decide +kernel, by decide +kernel⟩
noncomputable abbrev s_room_for : Stmt := top 10
theorem sc_room_for : FnScope ["seats", "level"] ["seats", "level"] (defScope s_room_for) := ⟨rfl, rfl, rfl, by decide +kernel, rfl, by decide +kernel, by decide +kernel⟩
noncomputable abbrev s_whole_curve : Stmt := top 11
theorem sc_whole_curve : FnScope ["xs", "ys", "room"] ["xs", "ys", "room"] (defScope s_whole_curve) := ⟨rfl, rfl, rfl, by decide +kernel, rfl, by decide +kernel, by decide +kernel⟩
noncomputable abbrev s_halves : Stmt := top 12
theorem sc_halves : FnScope ["curve", "first", "second", "row"] ["curve"] (defScope s_halves) := ⟨rfl, rfl, rfl, by decide +kernel, rfl, by decide +kernel, by decide +kernel⟩
noncomputable abbrev s_halved : Stmt := top 13
theorem sc_halved : FnScope ["curves"] ["curves"] (defScope s_halved) := ⟨rfl, rfl, rfl, by decide +kernel, rfl, by decide +kernel, by decide +kernel⟩
noncomputable abbrev s_stretches : Stmt := top 14
theorem sc_stretches : FnScope ["curve", "level", "xs", "ys", "room", "found", "depth"] ["curve", "level"] (defScope s_stretches) := ⟨rfl, rfl, rfl, by decide +kernel, rfl, by decide +kernel, by decide +kernel⟩
noncomputable abbrev s_l_cell_at : Stmt := top 16
theorem sc_l_cell_at : FnScope ["_law_script", "_law_k"] ["_law_script", "_law_k"] (defScope s_l_cell_at) := ⟨rfl, rfl, rfl, by decide +kernel, rfl, by decide +kernel, by decide +kernel⟩
noncomputable abbrev s_l_stream : Stmt := top 17
theorem sc_l_stream : FnScope ["_law_cell", "_law_place", "_law_number", "_law_some", "_law_k"] ["_law_cell", "_law_place"] (defScope s_l_stream) := ⟨rfl, rfl, rfl, by decide +kernel, rfl, by decide +kernel, by decide +kernel⟩
noncomputable abbrev s_l_whole : Stmt := top 18
theorem sc_l_whole : FnScope ["_law_found"] ["_law_found"] (defScope s_l_whole) := ⟨rfl, rfl, rfl, by decide +kernel, rfl, by decide +kernel, by decide +kernel⟩
noncomputable abbrev s_l_part : Stmt := top 19
theorem sc_l_part : FnScope ["_law_one", "_law_other"] ["_law_one", "_law_other"] (defScope s_l_part) := ⟨rfl, rfl, rfl, by decide +kernel, rfl, by decide +kernel, by decide +kernel⟩
noncomputable abbrev s_l_share : Stmt := top 20
theorem sc_l_share : FnScope ["_law_top", "_law_bottom", "_law_part_here"] ["_law_top", "_law_bottom"] (defScope s_l_share) := ⟨rfl, rfl, rfl, by decide +kernel, rfl, by decide +kernel, by decide +kernel⟩
noncomputable abbrev s_l_is_share : Stmt := top 21
theorem sc_l_is_share : FnScope ["_law_found"] ["_law_found"] (defScope s_l_is_share) := ⟨rfl, rfl, rfl, by decide +kernel, rfl, by decide +kernel, by decide +kernel⟩
noncomputable abbrev s_l_powers : Stmt := top 22
theorem sc_l_powers : FnScope ["_law_number", "_law_n", "_law_found", "_law_k"] ["_law_number", "_law_n"] (defScope s_l_powers) := ⟨rfl, rfl, rfl, by decide +kernel, rfl, by decide +kernel, by decide +kernel⟩
noncomputable abbrev s_l_tops : Stmt := top 23
theorem sc_l_tops : FnScope ["_law_n", "_law_t", "_law_ups", "_law_downs", "_law_tops_here", "_law_many", "_law_k"] ["_law_n", "_law_t"] (defScope s_l_tops) := ⟨rfl, rfl, rfl, by decide +kernel, rfl, by decide +kernel, by decide +kernel⟩
noncomputable abbrev s_l_point : Stmt := top 24
theorem sc_l_point : FnScope ["_law_curve", "_law_t", "_law_n", "_law_tops_here", "_law_found", "_law_axis", "_law_top", "_law_bottom", "_law_part_here", "_law_seat"] ["_law_curve", "_law_t"] (defScope s_l_point) := ⟨rfl, rfl, rfl, by decide +kernel, rfl, by decide +kernel, by decide +kernel⟩
noncomputable abbrev s_l_is_point : Stmt := top 25
theorem sc_l_is_point : FnScope ["_law_found"] ["_law_found"] (defScope s_l_is_point) := ⟨rfl, rfl, rfl, by decide +kernel, rfl, by decide +kernel, by decide +kernel⟩
noncomputable abbrev s_l_drawn_two : Stmt := top 26
theorem sc_l_drawn_two : FnScope ["_law_script", "_law_most", "_law_head", "_law_s", "_law_scale", "_law_far", "_law_bottom", "_law_both", "_law_k", "_law_seats", "_law_j", "_law_cell", "_law_r", "_law_x", "_law_y"] ["_law_script", "_law_most"] (defScope s_l_drawn_two) := ⟨rfl, rfl, rfl, by decide +kernel, rfl, by decide +kernel, by decide +kernel⟩
noncomputable abbrev s_l_good : Stmt := top 27
theorem sc_l_good : FnScope ["_law_found", "_law_curve", "_law_level", "_law_many", "_law_i", "_law_u"] ["_law_found", "_law_curve", "_law_level"] (defScope s_l_good) := ⟨rfl, rfl, rfl, by decide +kernel, rfl, by decide +kernel, by decide +kernel⟩
noncomputable abbrev s_law : Stmt := top 28
theorem sc_law : FnScope ["_law_script", "_law_level", "_law_most", "_law_curve", "_law_handed", "_law_found", "_law_kept", "_law_k"] ["_law_script"] (defScope s_law) := ⟨rfl, rfl, rfl, by decide +kernel, rfl, by decide +kernel, by decide +kernel⟩
section
variable {P : Program} {w : World} {K : PySem.W.Frag} {mg : Str → Option Value} {base : Heap}
theorem ok_l_cell_at (F : FunAt K mg "_law_cell_at" s_l_cell_at ["_law_script", "_law_k"]) (B : Blt mg) : DefOk P w K mg base CX0 1 "_law_cell_at" ["_law_script", "_law_k"] (spCell K) := by
  refine def_okI F sc_l_cell_at (fun vs H Q E h => ?_) (fun f cdv A outer s H vs Q E hr h => ?_)
  · obtain ⟨a, ns, i, rfl, _⟩ := h; rfl
  · obtain ⟨a, ns, i, rfl, hS, h0, k⟩ := h
    have hu := hr.units
    refine ⟨_, (pss_consI (ps_ifI (pt_cmpRI op_lt (pvI 1) (pe_callBI (call_lenK K) (by rfl) B.len PySem.boot_len (pa_consI (pvI 0) pa_nilI)) (nomark _)) (pss_oneI (ps_retI (pe_ixI (ix_listK K) (pvI 0) (pvI 1) (fun _ _ => rfl)))) pss_nilI)
      (pss_oneI (ps_retI pe_intI))), ?_⟩
    refine ⟨_, rfl, _, rfl, a, _, rfl, .inl hS, _, _, rfl, rfl, _, rfl, ite_dec (fun hn => ?_) (fun hn => ?_)⟩
    · rw [List.length_map] at hn
      refine ⟨_, rfl, _, rfl, a, _, _, _, rfl, rfl, hS, at_mapZ ns i h0 hn, ?_⟩
      exact k _
    · exact k 0
theorem ok_l_part (F : FunAt K mg "_law_part" s_l_part ["_law_one", "_law_other"]) (B : Blt mg) : DefOk P w K mg base CX0 1 "_law_part" ["_law_one", "_law_other"] spPart := by
  refine def_okI F sc_l_part (fun vs H Q E h => ?_) (fun f cdv A outer s H vs Q E hr h => ?_)
  · obtain ⟨a, b, rfl, _⟩ := h; rfl
  · obtain ⟨a, b, rfl, h0, h1, k⟩ := h
    have hu := hr.units
    refine ⟨_, (pss_consI (ps_whileI PassesOwn.never (pt_cmpRI op_gt (pvI 1) pe_intI (nomark _)) (pss_oneI (ps_parI (i := 0) (j := 1) rfl sc_l_part.nd rfl rfl (by decide) rfl rfl (pa_consI (pvI 1) (pa_consI (pe_opI op_mod (pvI 0) (pvI 1)) pa_nilI)) rfl)))
      (pss_oneI (ps_retI (pvI 0)))), ?_⟩
    refine while_by (fun σ H' => ∃ x y : Int, σ = [some (.int x), some (.int y)] ∧ H' = H ∧ 0 ≤ x ∧ 0 ≤ y ∧ Int.gcd x y = Int.gcd a b) (fun σ _ => match σ with | [_, some (.int y)] => y.natAbs | _ => 0) ⟨a, b, rfl, rfl, h0, h1, rfl⟩ ?_ ?_
    · rintro σ H' ⟨x, y, rfl, rfl, hx, hy, e⟩
      refine ⟨_, rfl, _, _, rfl, rfl, _, rfl, ite_dec (fun hn => ?_) (fun hn => ?_)⟩
      · refine ⟨_, rfl, _, rfl, _, rfl, _, _, rfl, rfl, hn, _, _, rfl, ⟨_, _, rfl, rfl, hy, Int.emod_nonneg x (by omega), ?_⟩, ?_⟩
        · rw [emod_gcd x y hn]; exact e
        · show (x % y).natAbs < y.natAbs
          have := Int.emod_lt_of_pos x hn
          have := Int.emod_nonneg x (b := y) (by omega)
          omega
      · refine ⟨_, rfl, ?_⟩
        have hy0 : y = 0 := by omega
        subst hy0
        rw [Int.gcd_zero] at e
        have : x = (Int.gcd a b : Int) := by omega
        show Q (.int x) H'
        rw [this]; exact k
    · rintro σ H' Q Q' hq ⟨v, h1, i, j, e1, e2, b', e3, h3⟩
      exact ⟨v, h1, i, j, e1, e2, b', e3, hq _ _ h3⟩
theorem ok_l_share (F : FunAt K mg "_law_share" s_l_share ["_law_top", "_law_bottom"]) (B : Blt mg) (D_l_part : DefOk P w K mg base CX0 1 "_law_part" ["_law_one", "_law_other"] spPart) : DefOk P w K mg base CX0 2 "_law_share" ["_law_top", "_law_bottom"] spLShare := by
  refine def_okI F sc_l_share (fun vs H Q E h => ?_) (fun f cdv A outer s H vs Q E hr h => ?_)
  · obtain ⟨a, b, rfl, _⟩ := h; rfl
  · obtain ⟨t, b, rfl, hb, hz, k⟩ := h
    have hu := hr.units
    refine ⟨_, (pss_consI (ps_setI (i := 2) sc_l_share.nd rfl (by first | exact Or.inl rfl | exact Or.inr rfl) (pe_fnI D_l_part hr pass0 (pa_consI (pe_callBI call_abs (by rfl) B.abs PyProof.Rows.boot_abs (pa_consI (pvI 0) pa_nilI)) (pa_consI (pvI 1) pa_nilI))))
      (pss_oneI (ps_retI (pe_tupI (pa_consI (pe_opI op_fdivB (pvI 0) (pvI 2)) (pa_consI (pe_opI op_fdivB (pvI 1) (pvI 2)) pa_nilI)))))), ?_⟩
    have g0 : (Int.gcd t b : Int) ≠ 0 := gcd_pos' t b (by omega)
    have gz : Sz 9000 (Int.gcd t b : Int) := hz.le (by
      rw [Int.natAbs_natCast]
      exact Nat.le_of_dvd (by omega) (Int.gcd_dvd_natAbs_right t b))
    refine ⟨_, rfl, _, rfl, _, rfl, _, _, rfl, (by split <;> omega), by omega, ?_⟩
    rw [gcd_abs]
    refine ⟨_, rfl, _, rfl, _, _, rfl, rfl, ⟨g0, gz⟩, _, rfl, _, rfl, _, _, rfl, rfl, ⟨g0, gz⟩, (by show 2 ≤ sizeLine; decide), fun p hp => ?_⟩
    have e := share_pos t b hb
    refine k _ _ (Same.new hp) ⟨p, rfl, ?_⟩
    rw [upd_same, ← e.1, ← e.2]
theorem ok_l_stream (F : FunAt K mg "_law_stream" s_l_stream ["_law_cell", "_law_place"]) (B : Blt mg) : DefOk P w K mg base CX0 1 "_law_stream" ["_law_cell", "_law_place"] spStream := by
  refine def_okI F sc_l_stream (fun vs H Q E h => ?_) (fun f cdv A outer s H vs Q E hr h => ?_)
  · obtain ⟨c, p, rfl, _⟩ := h; rfl
  · obtain ⟨c, p, rfl, k⟩ := h
    have hu := hr.units
    refine ⟨_, (pss_consI (ps_setI (i := 2) sc_l_stream.nd rfl (by first | exact Or.inl rfl | exact Or.inr rfl) (pe_opI op_mod (pe_opI op_add (pvI 0) (pe_opI op_mulA pe_intI (pvI 1))) pe_intI))
      (pss_consI (ps_setI (i := 3) sc_l_stream.nd rfl (by first | exact Or.inl rfl | exact Or.inr rfl) (pe_lstI pa_nilI))
      (pss_consI (ps_forI PassesOwn.never rfl (pi_range1I rfl B.range (pa_consI pe_intI pa_nilI)) (pg_nameI (i := 4) sc_l_stream.nd rfl (by first | exact Or.inl rfl | exact Or.inr rfl))
      (pss_consI (ps_setI (i := 2) sc_l_stream.nd rfl (by first | exact Or.inl rfl | exact Or.inr rfl) (pe_opI op_mod (pe_opI op_add (pe_opI op_add (pe_opI op_mulA (pvI 2) pe_intI) (pe_opI op_mulA pe_intI (pvI 4))) pe_intI) pe_intI))
      (pss_oneI (ps_exprI (pe_bmI PySem.F.plainAttrs_list PySem.F.slot_list_append PySem.F.type_list_append mt_append (pvI 3) (pa_consI (pe_opI op_fdiv (pvI 2) pe_intI) pa_nilI))))))
      (pss_oneI (ps_retI (pe_sliceI (sl_listK K) (pvI 3) (po_someI pe_intI) po_noneI)))))), ?_⟩
    refine ⟨_, rfl, _, rfl, _, _, rfl, rfl, mulL (by decide) (by decide), _, _, rfl, rfl, _, _, rfl, rfl, pl, (Nat.zero_le _), fun l hl => ?_⟩
    refine ⟨25, rfl, by decide, by decide, for_range (n := 25) (fun i σ H' => ∃ (x : Int) (xs : List Int) (y : Option V), σ = [some (.int c), some (.int p), some (.int x), some (.ref l), y] ∧ Same H H' ∧ H' l = some (.lst (xs.map V.int)) ∧ xs.length = i ∧ ∀ z ∈ xs, 0 ≤ z) ⟨_, [], none, rfl, Same.new hl, upd_same, rfl, fun _ h => nomatch h⟩ ?_ ?_⟩
    · rintro i σ H2 hi ⟨x, xs, y, rfl, s2, h2, hlen, hx⟩
      refine ⟨_, rfl, _, _, rfl, rfl, mulR (by decide) (by decide), _, rfl, _, _, rfl, rfl, mulL (by decide) (by decide), _, _, rfl, rfl, _, _, rfl, rfl, _, _, rfl, rfl, pl, ?_⟩
      refine ⟨_, rfl, .inl ⟨rfl, _, SqL.of h2⟩, _, rfl, _, _, rfl, rfl, ⟨by decide, by decide⟩, l, _, _, rfl, rfl, h2, ?_, ?_⟩
      · rw [List.length_map, hlen]; exact small1000 (by omega)
      · refine ⟨_, xs ++ [(x * 48271 + 2 * (0 + (i : Int)) + 11) % 2147483647 / 64], _, rfl, fun b o e => ?_, ?_, ?_, ?_⟩
        · rw [upd_ne (ne_of_none e hl)]; exact s2 b o e
        · rw [upd_same, List.map_append]; rfl
        · rw [List.length_append, hlen]; rfl
        · intro z hz
          rcases List.mem_append.mp hz with hz | hz
          · exact hx z hz
          · cases List.mem_singleton.mp hz
            have := Int.emod_nonneg (x * 48271 + 2 * (0 + (i : Int)) + 11) (b := 2147483647) (by decide)
            exact Int.ediv_nonneg this (by decide)
    · rintro σ H2 ⟨x, xs, y, rfl, s2, h2, hlen, hx⟩
      refine ⟨_, rfl, 1, rfl, l, _, rfl, SqL.of h2, fun q hq => ?_⟩
      rw [cut_one xs (by omega)]
      exact k q (xs.drop 1) _ (s2.trans (Same.new hq)) upd_same (by rw [List.length_drop, hlen]) fun z hz => hx z (List.mem_of_mem_drop hz)
theorem ok_l_drawn_two (F : FunAt K mg "_law_drawn_two" s_l_drawn_two ["_law_script", "_law_most"]) (B : Blt mg) (D_l_cell_at : DefOk P w K mg base CX0 1 "_law_cell_at" ["_law_script", "_law_k"] (spCell K)) (D_l_share : DefOk P w K mg base CX0 2 "_law_share" ["_law_top", "_law_bottom"] spLShare) (D_l_stream : DefOk P w K mg base CX0 1 "_law_stream" ["_law_cell", "_law_place"] spStream) : DefOk P w K mg base CX0 3 "_law_drawn_two" ["_law_script", "_law_most"] (spDTwo K) := by
  refine def_okI F sc_l_drawn_two (fun vs H Q E h => ?_) (fun f cdv A outer s H vs Q E hr h => ?_)
  · obtain ⟨a, ns, mo, rfl, _⟩ := h; rfl
  · obtain ⟨a, ns, mo, rfl, hS, m1, m8, k⟩ := h
    have hu := hr.units
    refine ⟨_, (pss_consI (ps_setI (i := 2) sc_l_drawn_two.nd rfl (by first | exact Or.inl rfl | exact Or.inr rfl) (pe_fnI D_l_cell_at hr pass0 (pa_consI (pvI 0) (pa_consI pe_intI pa_nilI))))
      (pss_consI (ps_setI (i := 3) sc_l_drawn_two.nd rfl (by first | exact Or.inl rfl | exact Or.inr rfl) (pe_fnI D_l_stream hr pass0 (pa_consI (pvI 2) (pa_consI pe_intI pa_nilI))))
      (pss_consI (ps_setI (i := 4) sc_l_drawn_two.nd rfl (by first | exact Or.inl rfl | exact Or.inr rfl) (pe_ixI (ix_listK K) (pe_lstI (pa_consI pe_intI (pa_consI pe_intI (pa_consI (pe_opI op_add pe_intI (pe_opI op_mod (pe_opI op_fdiv (pvI 2) pe_intI) (pe_opI op_pow pe_intI pe_intI))) pa_nilI)))) (pe_opI op_mod (pe_ixI (ix_listK K) (pvI 3) pe_intI (fun _ _ => rfl)) pe_intI) (fun _ _ => rfl)))
      (pss_consI (ps_setI (i := 5) sc_l_drawn_two.nd rfl (by first | exact Or.inl rfl | exact Or.inr rfl) (pe_ixI (ix_listK K) (pe_lstI (pa_consI pe_intI (pa_consI pe_intI (pa_consI (pe_opI op_mulA (pe_opI op_mod (pe_opI op_fdiv (pvI 2) pe_intI) (pe_opI op_pow pe_intI pe_intI)) (pe_opI op_sub pe_intI (pe_opI op_mulA pe_intI (pe_opI op_mod (pe_ixI (ix_listK K) (pvI 3) pe_intI (fun _ _ => rfl)) pe_intI)))) pa_nilI)))) (pe_opI op_mod (pe_opI op_fdiv (pe_ixI (ix_listK K) (pvI 3) pe_intI (fun _ _ => rfl)) pe_intI) pe_intI) (fun _ _ => rfl)))
      (pss_consI (ps_setI (i := 6) sc_l_drawn_two.nd rfl (by first | exact Or.inl rfl | exact Or.inr rfl) (pe_opI op_add pe_intI (pe_opI op_mod (pe_ixI (ix_listK K) (pvI 3) pe_intI (fun _ _ => rfl)) pe_intI)))
      (pss_consI (ps_setI (i := 7) sc_l_drawn_two.nd rfl (by first | exact Or.inl rfl | exact Or.inr rfl) (pe_lstI pa_nilI))
      (pss_consI (ps_forI PassesOwn.never rfl (pi_range1I rfl B.range (pa_consI pe_intI pa_nilI)) (pg_nameI (i := 8) sc_l_drawn_two.nd rfl (by first | exact Or.inl rfl | exact Or.inr rfl))
      (pss_consI (ps_setI (i := 9) sc_l_drawn_two.nd rfl (by first | exact Or.inl rfl | exact Or.inr rfl) (pe_lstI pa_nilI))
      (pss_consI (ps_forI PassesOwn.never rfl (pi_range1I rfl B.range (pa_consI (pe_opI op_add pe_intI (pe_opI op_mod (pe_ixI (ix_listK K) (pvI 3) (pe_opI op_add pe_intI (pvI 8)) (fun _ _ => rfl)) (pvI 1))) pa_nilI)) (pg_nameI (i := 10) sc_l_drawn_two.nd rfl (by first | exact Or.inl rfl | exact Or.inr rfl))
      (pss_consI (ps_setI (i := 11) sc_l_drawn_two.nd rfl (by first | exact Or.inl rfl | exact Or.inr rfl) (pe_fnI D_l_cell_at hr pass0 (pa_consI (pvI 0) (pa_consI (pe_opI op_add (pe_opI op_add pe_intI (pe_opI op_mulA (pvI 1) (pvI 8))) (pvI 10)) pa_nilI))))
      (pss_consI (ps_setI (i := 12) sc_l_drawn_two.nd rfl (by first | exact Or.inl rfl | exact Or.inr rfl) (pe_fnI D_l_stream hr pass0 (pa_consI (pvI 11) (pa_consI (pe_opI op_add (pe_opI op_mulA pe_intI (pvI 8)) (pvI 10)) pa_nilI))))
      (pss_consI (ps_ifI (PW_ptI (pw_andI (pt_cmpRI op_eq (pe_opI op_mod (pe_ixI (ix_listK K) (pvI 3) pe_intI (fun _ _ => rfl)) pe_intI) pe_intI (nomark _)) (pw_and1I (pt_cmpRI op_gt (pvI 11) pe_intI (nomark _))))) (pss_oneI (ps_setI (i := 12) sc_l_drawn_two.nd rfl (by first | exact Or.inl rfl | exact Or.inr rfl) (pe_lstI (pa_consI (pvI 11) (pa_consI (pe_opI op_fdiv (pvI 11) pe_intI) pa_nilI))))) pss_nilI)
      (pss_consI (ps_setI (i := 13) sc_l_drawn_two.nd rfl (by first | exact Or.inl rfl | exact Or.inr rfl) (pe_opI op_add (pe_opI op_mulA (pe_opI op_sub (pe_opI op_mod (pe_ixI (ix_listK K) (pvI 12) pe_intI (fun _ _ => rfl)) pe_intI) pe_intI) (pvI 4)) (pvI 5)))
      (pss_consI (ps_setI (i := 14) sc_l_drawn_two.nd rfl (by first | exact Or.inl rfl | exact Or.inr rfl) (pe_opI op_sub (pe_opI op_mulA (pe_opI op_add (pe_opI op_sub (pe_opI op_mod (pe_ixI (ix_listK K) (pvI 12) pe_intI (fun _ _ => rfl)) pe_intI) pe_intI) (pe_opI op_mod (pe_ixI (ix_listK K) (pvI 3) (pe_opI op_add pe_intI (pvI 8)) (fun _ _ => rfl)) pe_intI)) (pvI 4)) (pvI 5)))
      (pss_oneI (ps_exprI (pe_bmI PySem.F.plainAttrs_list PySem.F.slot_list_append PySem.F.type_list_append mt_append (pvI 9) (pa_consI (pe_tupI (pa_consI (pe_fnI D_l_share hr pass0 (pa_consI (pvI 13) (pa_consI (pvI 6) pa_nilI))) (pa_consI (pe_fnI D_l_share hr pass0 (pa_consI (pvI 14) (pa_consI (pvI 6) pa_nilI))) pa_nilI))) pa_nilI))))))))))
      (pss_oneI (ps_exprI (pe_bmI PySem.F.plainAttrs_list PySem.F.slot_list_append PySem.F.type_list_append mt_append (pvI 7) (pa_consI (pvI 9) pa_nilI)))))))
      (pss_consI (ps_ifI (pt_cmpRI op_eq (pe_opI op_mod (pe_ixI (ix_listK K) (pvI 3) pe_intI (fun _ _ => rfl)) pe_intI) pe_intI (nomark _)) (pss_oneI (ps_asgI (pe_backwardI K (pe_ixI (ix_listK K) (pvI 7) pe_intI (fun _ _ => rfl)) (po_someI (pe_unI un_neg pe_intI))) (pg_subI (pvI 7) pe_intI set_list))) pss_nilI)
      (pss_oneI (ps_retI (pvI 7))))))))))), ?_⟩
    walk_at "rd"
    refine ⟨a, ns, 0, rfl, hS, by omega, fun head => ?_⟩
    walk_at "rd"
    refine ⟨_, _, rfl, fun ls xs H1 s1 hx hxl hnn => ?_⟩
    have nn : ∀ j : Nat, 0 ≤ xs.getD j 0 := fun j => getD_nn hnn j
    have hx1 : SqL K H1 ls (xs.map V.int) := SqL.of hx
    walk_at "rd"
    intro g1 hg1
    have n0 := nn 0
    have n1 := nn 1
    have n2 := nn 2
    have hx2 : SqL K (upd H1 g1 (.lst [.int 1, .int 1, .int (1 + head / 5 % (10 : Int) ^ (30 : Int).toNat)])) ls (xs.map V.int) := by walk_at "mv"
    walk_at "rd"
    have p30' := p30
    obtain ⟨v1, hv1, hm1⟩ := atI_lt [V.int 1, V.int 1, V.int (1 + head / 5 % (10 : Int) ^ (30 : Int).toNat)] (xs.getD 0 0 % 3) (by omega) (by show _ < (3 : Int); omega)
    have hs1 : ∃ sc : Int, v1 = V.int sc ∧ sc.natAbs ≤ 10 ^ 30 := by
      rw [p30'] at hm1
      simp only [List.mem_cons, List.not_mem_nil, or_false] at hm1
      rcases hm1 with rfl | rfl | rfl
      · exact ⟨_, rfl, by decide⟩
      · exact ⟨_, rfl, by decide⟩
      · exact ⟨_, rfl, by omega⟩
    obtain ⟨sc, rfl, zsc⟩ := hs1
    refine ⟨g1, _, _, _, rfl, rfl, SqL.of upd_same, hv1, ?_⟩
    walk_at "rd"
    intro g2 hg2
    have hx3 : SqL K (upd (upd H1 g1 (.lst [.int 1, .int 1, .int (1 + head / 5 % (10 : Int) ^ (30 : Int).toNat)])) g2 (.lst [.int 0, .int 0, .int (head / 7 % (10 : Int) ^ (30 : Int).toNat * (1 - 2 * (xs.getD (Int.toNat 1) 0 % 2)))])) ls (xs.map V.int) := by walk_at "mv"
    walk_at "rd"
    obtain ⟨v2, hv2, hm2⟩ := atI_lt [V.int 0, V.int 0, V.int (head / 7 % (10 : Int) ^ (30 : Int).toNat * (1 - 2 * (xs.getD (Int.toNat 1) 0 % 2)))] (xs.getD (Int.toNat 1) 0 / 2 % 3) (by omega) (by show _ < (3 : Int); omega)
    have hs2 : ∃ fa : Int, v2 = V.int fa ∧ fa.natAbs ≤ 10 ^ 30 := by
      rw [p30'] at hm2
      simp only [List.mem_cons, List.not_mem_nil, or_false] at hm2
      rcases hm2 with rfl | rfl | rfl
      · exact ⟨_, rfl, by decide⟩
      · exact ⟨_, rfl, by decide⟩
      · refine ⟨_, rfl, ?_⟩
        rw [Int.natAbs_mul]
        have e1 : (1 - 2 * (xs.getD (Int.toNat 1) 0 % 2)).natAbs = 1 := by omega
        rw [e1]; omega
    obtain ⟨fa, rfl, zfa⟩ := hs2
    refine ⟨g2, _, _, _, rfl, rfl, SqL.of upd_same, hv2, ?_⟩
    walk_at "rd"
    intro lb hlb
    have hlbH : H lb = none := s1.free ((Same.new hg1).free ((Same.new hg2).free hlb))
    have sA := (s1.trans (Same.new (o := .lst [.int 1, .int 1, .int (1 + head / 5 % (10 : Int) ^ (30 : Int).toNat)]) hg1)).trans (Same.new (o := .lst [.int 0, .int 0, .int (head / 7 % (10 : Int) ^ (30 : Int).toNat * (1 - 2 * (xs.getD (Int.toNat 1) 0 % 2)))]) hg2)
    have sB : Same H (upd (upd (upd H1 g1 (.lst [.int 1, .int 1, .int (1 + head / 5 % (10 : Int) ^ (30 : Int).toNat)])) g2 (.lst [.int 0, .int 0, .int (head / 7 % (10 : Int) ^ (30 : Int).toNat * (1 - 2 * (xs.getD (Int.toNat 1) 0 % 2)))])) lb (.lst [])) := sA.trans (Same.new hlb)
    have nls : ls ≠ lb := ne_of_none (upd_keep (o := .lst [.int 0, .int 0, .int (head / 7 % (10 : Int) ^ (30 : Int).toNat * (1 - 2 * (xs.getD (Int.toNat 1) 0 % 2)))]) hg2 (upd_keep (o := .lst [.int 1, .int 1, .int (1 + head / 5 % (10 : Int) ^ (30 : Int).toNat)]) hg1 hx)) hlb
    have hx4 := upd_keep (o := .lst []) hlb (upd_keep (o := .lst [.int 0, .int 0, .int (head / 7 % (10 : Int) ^ (30 : Int).toNat * (1 - 2 * (xs.getD (Int.toNat 1) 0 % 2)))]) hg2 (upd_keep (o := .lst [.int 1, .int 1, .int (1 + head / 5 % (10 : Int) ^ (30 : Int).toNat)]) hg1 hx))
    have hb4 : (upd (upd (upd H1 g1 (.lst [.int 1, .int 1, .int (1 + head / 5 % (10 : Int) ^ (30 : Int).toNat)])) g2 (.lst [.int 0, .int 0, .int (head / 7 % (10 : Int) ^ (30 : Int).toNat * (1 - 2 * (xs.getD (Int.toNat 1) 0 % 2)))])) lb (.lst [])) lb = some (.lst []) := upd_same
    generalize hH4 : upd (upd (upd H1 g1 (.lst [.int 1, .int 1, .int (1 + head / 5 % (10 : Int) ^ (30 : Int).toNat)])) g2 (.lst [.int 0, .int 0, .int (head / 7 % (10 : Int) ^ (30 : Int).toNat * (1 - 2 * (xs.getD (Int.toNat 1) 0 % 2)))])) lb (.lst []) = H4 at *
    clear hH4 sA hx1 hx2 hx3 hlb hg1 hg2 hv1 hv2 s1 hx
    obtain ⟨BB, hBB⟩ : ∃ BB : Int, BB = 1 + xs.getD (Int.toNat 2) 0 % 3 := ⟨_, rfl⟩
    have n2' : 0 ≤ xs.getD (Int.toNat 2) 0 := n2
    have B1 : 1 ≤ BB := by omega
    have B3 : BB ≤ 3 := by omega
    walk_at "rd"
    refine for_range (fun i σ H' => ∃ (y8 y9 y10 y11 y12 y13 y14 : Option V) (vs : List V), σ = [some (.ref a), some (.int (mo : Int)), some (.int head), some (.ref ls), some (.int sc), some (.int fa), some (.int BB), some (.ref lb), y8, y9, y10, y11, y12, y13, y14] ∧ Same H H' ∧ H' ls = some (.lst (xs.map V.int)) ∧ H' lb = some (.lst vs) ∧ vs.length = i ∧ ∀ (j : Nat) (v : V), vs[j]? = some v → ∃ l ws ps, l ≠ lb ∧ CvB H' v l ws ps BB mo) ⟨none, none, none, none, none, none, none, [], by subst hBB; rfl, sB, hx4, hb4, rfl, fun j v e => nomatch (show (none : Option V) = some v from e)⟩ ?_ ?_
    · rintro i σ H5 hi ⟨y8, y9, y10, y11, y12, y13, y14, vs, rfl, s5, hx5', hb5, hvl, hvs⟩
      have hx5 : SqL K H5 ls (xs.map V.int) := SqL.of hx5'
      walk_at "rd"
      intro lq hlq
      have hi2 : i < 2 := hi
      have hx6 : SqL K (upd H5 lq (.lst [])) ls (xs.map V.int) := SqL.same' hx5 (Same.new hlq)
      walk_at "rd"
      have nq := nn (3 + (0 + (i : Int))).toNat
      generalize xs.getD (3 + (0 + (i : Int))).toNat 0 = q at *
      refine ⟨by omega, ?_⟩
      have r1 := Int.emod_nonneg q (b := (mo : Int)) (by omega)
      have r2 := Int.emod_lt_of_pos q (b := (mo : Int)) (by omega)
      walk_at "rd"
      refine ⟨by omega, by omega, for_range (fun j σ H' => ∃ (z10 z11 z12 z13 z14 : Option V) (us : List V) (ps : List Pt), σ = [some (.ref a), some (.int (mo : Int)), some (.int head), some (.ref ls), some (.int sc), some (.int fa), some (.int BB), some (.ref lb), some (.int (0 + (i : Int))), some (.ref lq), z10, z11, z12, z13, z14] ∧ Same H5 H' ∧ H' lq = some (.lst us) ∧ PtsV H' us ps ∧ ps.length = j ∧ ∀ p ∈ ps, OvP BB 110 p) ⟨y10, y11, y12, y13, y14, [], [], rfl, Same.new hlq, upd_same, PtsV.nil _, rfl, fun p hp => nomatch hp⟩ ?_ ?_⟩
      · rintro j σ H6 hj ⟨z10, z11, z12, z13, z14, us, ps, rfl, s6, hq6, hP6, hpl, hov⟩
        have hj2 : (j : Int) < 1 + q % (mo : Int) := by omega
        have hS6 : SqL K H6 a (ns.map V.int) := SqL.same' (SqL.same' hS s5) s6
        have hx7 : SqL K H6 ls (xs.map V.int) := SqL.same' hx5 s6
        walk_at "rd"
        have nm : 0 ≤ (mo : Int) * (0 + (i : Int)) := Int.mul_nonneg (by omega) (by omega)
        refine ⟨a, ns, _, rfl, hS6, by omega, fun z => ?_⟩
        walk_at "rd"
        refine ⟨_, _, rfl, fun lr rx H7 s7 hr7 hrl hrn => ?_⟩
        have hx8 : SqL K H7 ls (xs.map V.int) := SqL.same' hx7 s7
        have hr8 : SqL K H7 lr (rx.map V.int) := SqL.of hr7
        have hq7 := s7 _ _ hq6
        have hP7 := hP6.same s7
        have s67 := s6.trans s7
        clear hx7 hq6 hP6 s6 s7
        walk_at "rd"
        refine ite_dec (fun h0 => ?_) (fun h0 => ?_)
        · walk_at "rd"
          refine ite_dec (fun h1 => ?_) (fun h1 => ?_)
          · walk_at "rd"
            intro lr2 hlr2
            have s78 := Same.new (o := .lst [.int z, .int (z / 17)]) hlr2
            replace hx8 := SqL.same' hx8 s78
            replace hq7 := s78 _ _ hq7
            replace hP7 := hP7.same s78
            have hr9 : (upd H7 lr2 (.lst [.int z, .int (z / 17)])) lr2 = some (.lst [.int z, .int (z / 17)]) := upd_same
            replace s67 := s67.trans s78
            generalize upd H7 lr2 (.lst [.int z, .int (z / 17)]) = H8 at *
            walk_at "rd"
            refine ⟨.inl ⟨rfl, _, SqL.of hq7⟩, ?_⟩
            walk_at "rd"
            refine ⟨_, _, rfl, by omega, Sz.mono (n := 20) (Sz.million (by omega) (by omega)) (by decide), fun v1 G1 t1 w1 => ?_⟩
            walk_at "rd"
            refine ⟨_, _, rfl, by omega, Sz.mono (n := 20) (Sz.million (by omega) (by omega)) (by decide), fun v2 G2 t2 w2 => ?_⟩
            walk_at "rd"
            intro g hg
            have sg := (t1.trans t2).trans (Same.new (o := .tup [v1, v2]) hg)
            refine ⟨lq, us, _, rfl, rfl, sg _ _ hq7, small_line (by have := hP7.len; omega), ?_⟩
            have tg : Tup (upd G2 g (.tup [v1, v2])) (upd (upd G2 g (.tup [v1, v2])) lq (.lst (us ++ [.ref g]))) := Tup.lst (sg _ _ hq7)
            have pv : PtV (upd G2 g (.tup [v1, v2])) (.ref g) _ _ := ⟨g, v1, v2, rfl, upd_same, (w1.same t2).same (Same.new hg), w2.same (Same.new hg)⟩
            refine ⟨_, _, _, _, _, us ++ [.ref g], ps ++ [(_, _)], rfl, same_upd hlq (s67.trans sg), upd_same, ((hP7.same sg).snoc pv).tup tg, by rw [List.length_append, hpl]; rfl, fun p hp => ?_⟩
            rcases List.mem_append.mp hp with hp | hp
            · exact hov p hp
            · rw [List.mem_singleton.mp hp]
              exact ⟨ov_divInt (by omega) (seat_sz3 (by omega) zsc zfa).1, ov_divInt (by omega) (seat_sz3 (by omega) zsc zfa).2⟩
          · walk_at "rd"
            refine ⟨.inl ⟨rfl, _, SqL.of hq7⟩, ?_⟩
            walk_at "rd"
            refine ⟨_, _, rfl, by omega, Sz.mono (n := 20) (Sz.million (by omega) (by omega)) (by decide), fun v1 G1 t1 w1 => ?_⟩
            walk_at "rd"
            refine ⟨_, _, rfl, by omega, Sz.mono (n := 20) (Sz.million (by omega) (by omega)) (by decide), fun v2 G2 t2 w2 => ?_⟩
            walk_at "rd"
            intro g hg
            have sg := (t1.trans t2).trans (Same.new (o := .tup [v1, v2]) hg)
            refine ⟨lq, us, _, rfl, rfl, sg _ _ hq7, small_line (by have := hP7.len; omega), ?_⟩
            have tg : Tup (upd G2 g (.tup [v1, v2])) (upd (upd G2 g (.tup [v1, v2])) lq (.lst (us ++ [.ref g]))) := Tup.lst (sg _ _ hq7)
            have pv : PtV (upd G2 g (.tup [v1, v2])) (.ref g) _ _ := ⟨g, v1, v2, rfl, upd_same, (w1.same t2).same (Same.new hg), w2.same (Same.new hg)⟩
            refine ⟨_, _, _, _, _, us ++ [.ref g], ps ++ [(_, _)], rfl, same_upd hlq (s67.trans sg), upd_same, ((hP7.same sg).snoc pv).tup tg, by rw [List.length_append, hpl]; rfl, fun p hp => ?_⟩
            rcases List.mem_append.mp hp with hp | hp
            · exact hov p hp
            · rw [List.mem_singleton.mp hp]
              exact ⟨ov_divInt (by omega) (seat_sz3 (by omega) zsc zfa).1, ov_divInt (by omega) (seat_sz3 (by omega) zsc zfa).2⟩
        · refine iteF ?_
          walk_at "rd"
          refine ⟨.inl ⟨rfl, _, SqL.of hq7⟩, ?_⟩
          walk_at "rd"
          refine ⟨_, _, rfl, by omega, Sz.mono (n := 20) (Sz.million (by omega) (by omega)) (by decide), fun v1 G1 t1 w1 => ?_⟩
          walk_at "rd"
          refine ⟨_, _, rfl, by omega, Sz.mono (n := 20) (Sz.million (by omega) (by omega)) (by decide), fun v2 G2 t2 w2 => ?_⟩
          walk_at "rd"
          intro g hg
          have sg := (t1.trans t2).trans (Same.new (o := .tup [v1, v2]) hg)
          refine ⟨lq, us, _, rfl, rfl, sg _ _ hq7, small_line (by have := hP7.len; omega), ?_⟩
          have tg : Tup (upd G2 g (.tup [v1, v2])) (upd (upd G2 g (.tup [v1, v2])) lq (.lst (us ++ [.ref g]))) := Tup.lst (sg _ _ hq7)
          have pv : PtV (upd G2 g (.tup [v1, v2])) (.ref g) _ _ := ⟨g, v1, v2, rfl, upd_same, (w1.same t2).same (Same.new hg), w2.same (Same.new hg)⟩
          refine ⟨_, _, _, _, _, us ++ [.ref g], ps ++ [(_, _)], rfl, same_upd hlq (s67.trans sg), upd_same, ((hP7.same sg).snoc pv).tup tg, by rw [List.length_append, hpl]; rfl, fun p hp => ?_⟩
          rcases List.mem_append.mp hp with hp | hp
          · exact hov p hp
          · rw [List.mem_singleton.mp hp]
            exact ⟨ov_divInt (by omega) (seat_sz3 (by omega) zsc zfa).1, ov_divInt (by omega) (seat_sz3 (by omega) zsc zfa).2⟩
      rintro σ H6 ⟨z10, z11, z12, z13, z14, us, ps, rfl, s6, hq6, hP6, hpl, hov⟩
      have nlq : lq ≠ lb := fun e => by rw [e, hb5] at hlq; cases hlq
      refine ⟨_, rfl, .inl ⟨rfl, _, SqL.of (s6 _ _ hb5)⟩, ?_⟩
      walk_at "rd"
      refine ⟨lb, vs, _, rfl, rfl, s6 _ _ hb5, small_line (by omega), ?_⟩
      have tg : Tup H6 (upd H6 lb (.lst (vs ++ [.ref lq]))) := Tup.lst (s6 _ _ hb5)
      refine ⟨_, _, _, _, _, _, _, vs ++ [.ref lq], rfl, same_upd hlbH (s5.trans s6), by rw [upd_ne nls]; exact s6 _ _ hx5', upd_same, by rw [List.length_append, hvl]; rfl, fun j v e => ?_⟩
      rcases snoc_get e with ⟨e1, e2⟩ | ⟨e1, rfl⟩
      · obtain ⟨l, ws, ps', n1, c1⟩ := hvs j v e2
        exact ⟨l, ws, ps', n1, c1.ref, by rw [upd_ne n1]; exact s6 _ _ c1.lst, (c1.pts.same s6).tup tg, c1.l1, c1.l2, c1.ov⟩
      · exact ⟨lq, us, ps, nlq, rfl, by rw [upd_ne nlq]; exact hq6, hP6.tup tg, by omega, by omega, hov⟩
    rintro σ H5 ⟨y8, y9, y10, y11, y12, y13, y14, vs, rfl, s5, hx5, hb5, hvl, hvs⟩
    obtain ⟨v0, v1, rfl⟩ := len2 (l := vs) hvl
    obtain ⟨l0, w0, p0, n0', c0⟩ := hvs 0 v0 rfl
    obtain ⟨l1, w1, p1, n1', c1⟩ := hvs 1 v1 rfl
    obtain rfl := c0.ref
    obtain rfl := c1.ref
    walk_at "rd"
    refine ifB (fun _ => ?_) (fun _ => ?_)
    · walk_at "rd"
      refine ⟨l0, _, rfl, SqL.of c0.lst, fun l2 hl2 => ?_⟩
      have s6 := Same.new (o := .lst w0.reverse) hl2
      have hb6 := s6 _ _ hb5
      have n2 : l2 ≠ lb := fun e => by rw [e, hb5] at hl2; cases hl2
      walk_at "rd"
      show Q (V.ref lb) (upd (upd H5 l2 (.lst w0.reverse)) lb (.lst [.ref l0, .ref l2]))
      have tg : Tup (upd H5 l2 (.lst w0.reverse)) (upd (upd H5 l2 (.lst w0.reverse)) lb (.lst [.ref l0, .ref l2])) := Tup.lst hb6
      refine k lb l0 l2 w0 w0.reverse p0 p0.reverse BB _ (same_upd hlbH (s5.trans s6)) hlbH upd_same ⟨rfl, by rw [upd_ne n0']; exact s6 _ _ c0.lst, (c0.pts.same s6).tup tg, c0.l1, c0.l2, c0.ov⟩ ⟨rfl, by rw [upd_ne n2]; exact upd_same, (c0.pts.rev.same s6).tup tg, by rw [List.length_reverse]; exact c0.l1, by rw [List.length_reverse]; exact c0.l2, fun p hp => c0.ov p (List.mem_reverse.mp hp)⟩ B1 B3
    · walk_at "rd"
      exact k lb l0 l1 w0 w1 p0 p1 BB H5 s5 hlbH hb5 c0 c1 B1 B3
theorem ok_l_whole (F : FunAt K mg "_law_whole" s_l_whole ["_law_found"]) (B : Blt mg) : DefOk P w K mg base CX0 1 "_law_whole" ["_law_found"] spWhole := by
  refine def_okI F sc_l_whole (fun vs H Q E h => ?_) (fun f cdv A outer s H vs Q E hr h => ?_)
  · obtain ⟨i, rfl, _⟩ := h; rfl
  · obtain ⟨i, rfl, k⟩ := h
    have hu := hr.units
    refine ⟨_, (pss_oneI (ps_retI (pe_andI (pe_callBI (call_isiK K) (by rfl) B.isinstance PyProof.Rows.boot_isinstance (pa_consI (pvI 0) (pa_consI (pe_bltnI (v := .ty "int") rfl B.int PyProof.Rows.boot_int rfl) pa_nilI))) (pe_oneI (pe_notI (pe_callBI (call_isiK K) (by rfl) B.isinstance PyProof.Rows.boot_isinstance (pa_consI (pvI 0) (pa_consI (pe_bltnI (v := .ty "bool") rfl B.bool PyProof.Rows.boot_bool rfl) pa_nilI)))))))), ?_⟩
    refine ⟨_, rfl, _, "int", _, _, rfl, TyOf.int i, kit_ii K, _, rfl, iteT ?_⟩
    exact ⟨_, rfl, _, "bool", _, _, rfl, TyOf.int i, kit_ib K, _, rfl, k⟩
theorem ok_l_is_share (F : FunAt K mg "_law_is_share" s_l_is_share ["_law_found"]) (B : Blt mg) (D_l_part : DefOk P w K mg base CX0 1 "_law_part" ["_law_one", "_law_other"] spPart) (D_l_whole : DefOk P w K mg base CX0 1 "_law_whole" ["_law_found"] spWhole) : DefOk P w K mg base CX0 2 "_law_is_share" ["_law_found"] spIsShare := by
  refine def_okI F sc_l_is_share (fun vs H Q E h => ?_) (fun f cdv A outer s H vs Q E hr h => ?_)
  · obtain ⟨x, q, rfl, _⟩ := h; rfl
  · obtain ⟨x, q, rfl, ⟨a, rfl, ha⟩, k⟩ := h
    have hu := hr.units
    refine ⟨_, (pss_consI (ps_ifI (PW_ptI (pw_orI (pt_notI (pt_valI (pe_callBI (call_isiK K) (by rfl) B.isinstance PyProof.Rows.boot_isinstance (pa_consI (pvI 0) (pa_consI (pe_bltnI (v := .ty "tuple") rfl B.tuple PyProof.Rows.boot_tuple rfl) pa_nilI))))) (pw_or1I (pt_cmpRI op_ne (pe_callBI (call_lenK K) (by rfl) B.len PySem.boot_len (pa_consI (pvI 0) pa_nilI)) pe_intI (nomark _))))) (pss_oneI (ps_retI pe_blI)) pss_nilI)
      (pss_consI (ps_ifI (PW_ptI (pw_orI (pt_notI (pt_valI (pe_fnI D_l_whole hr pass0 (pa_consI (pe_ixI (ix_tupK K) (pvI 0) pe_intI (fun _ _ => rfl)) pa_nilI)))) (pw_orI (pt_notI (pt_valI (pe_fnI D_l_whole hr pass0 (pa_consI (pe_ixI (ix_tupK K) (pvI 0) pe_intI (fun _ _ => rfl)) pa_nilI)))) (pw_or1I (pt_cmpRI op_lt (pe_ixI (ix_tupK K) (pvI 0) pe_intI (fun _ _ => rfl)) pe_intI (nomark _)))))) (pss_oneI (ps_retI pe_blI)) pss_nilI)
      (pss_oneI (ps_retI (pe_cmpRI op_eq (pe_fnI D_l_part hr pass0 (pa_consI (pe_callBI call_abs (by rfl) B.abs PyProof.Rows.boot_abs (pa_consI (pe_ixI (ix_tupK K) (pvI 0) pe_intI (fun _ _ => rfl)) pa_nilI)) (pa_consI (pe_ixI (ix_tupK K) (pvI 0) pe_intI (fun _ _ => rfl)) pa_nilI))) pe_intI (nomark _)))))), ?_⟩
    refine ⟨_, rfl, _, "tuple", _, _, rfl, TyOf.tup ha, kit_tt K, _, rfl, ifF rfl ?_⟩
    refine ⟨_, rfl, a, _, rfl, .inr (SqT.of ha), rfl, _, rfl, ifF rfl ?_⟩
    refine ⟨_, rfl, a, _, _, _, rfl, rfl, SqT.of ha, rfl, _, rfl, _, rfl, ifF rfl ?_⟩
    refine ⟨_, rfl, a, _, _, _, rfl, rfl, SqT.of ha, rfl, _, rfl, _, rfl, ifF rfl ?_⟩
    refine ⟨_, rfl, a, _, _, _, rfl, rfl, SqT.of ha, rfl, _, _, rfl, rfl, _, rfl, ifF ?_ ?_⟩
    · have := den_pos' q
      simp only [decide_eq_false_iff_not]; omega
    · refine ⟨_, rfl, a, _, _, _, rfl, rfl, SqT.of ha, rfl, _, rfl, _, rfl, a, _, _, _, rfl, rfl, SqT.of ha, rfl, _, _, rfl, (by split <;> omega), (by have := den_pos' q; omega), rfl, ?_⟩
      rw [gcd_red]
      exact k
theorem ok_l_is_point (F : FunAt K mg "_law_is_point" s_l_is_point ["_law_found"]) (B : Blt mg) (D_l_is_share : DefOk P w K mg base CX0 2 "_law_is_share" ["_law_found"] spIsShare) : DefOk P w K mg base CX0 3 "_law_is_point" ["_law_found"] spIsPoint := by
  refine def_okI F sc_l_is_point (fun vs H Q E h => ?_) (fun f cdv A outer s H vs Q E hr h => ?_)
  · obtain ⟨x, a, b, rfl, _⟩ := h; rfl
  · obtain ⟨x, p, q, rfl, ⟨a, u, v, rfl, ha, wu, wv⟩, k⟩ := h
    have hu := hr.units
    refine ⟨_, (pss_consI (ps_ifI (PW_ptI (pw_orI (pt_notI (pt_valI (pe_callBI (call_isiK K) (by rfl) B.isinstance PyProof.Rows.boot_isinstance (pa_consI (pvI 0) (pa_consI (pe_bltnI (v := .ty "tuple") rfl B.tuple PyProof.Rows.boot_tuple rfl) pa_nilI))))) (pw_or1I (pt_cmpRI op_ne (pe_callBI (call_lenK K) (by rfl) B.len PySem.boot_len (pa_consI (pvI 0) pa_nilI)) pe_intI (nomark _))))) (pss_oneI (ps_retI pe_blI)) pss_nilI)
      (pss_oneI (ps_retI (pe_andI (pe_fnI D_l_is_share hr pass0 (pa_consI (pe_ixI (ix_tupK K) (pvI 0) pe_intI (fun _ _ => rfl)) pa_nilI)) (pe_oneI (pe_fnI D_l_is_share hr pass0 (pa_consI (pe_ixI (ix_tupK K) (pvI 0) pe_intI (fun _ _ => rfl)) pa_nilI))))))), ?_⟩
    refine ⟨_, rfl, _, "tuple", _, _, rfl, TyOf.tup ha, kit_tt K, _, rfl, ifF rfl ?_⟩
    refine ⟨_, rfl, a, _, rfl, .inr (SqT.of ha), rfl, _, rfl, ifF rfl ?_⟩
    walk_at "rd"
    refine ⟨_, p, rfl, wu, ?_⟩
    walk_at "rd"
    exact ⟨_, q, rfl, wv, k⟩
theorem ok_l_powers (F : FunAt K mg "_law_powers" s_l_powers ["_law_number", "_law_n"]) (B : Blt mg) : DefOk P w K mg base CX0 1 "_law_powers" ["_law_number", "_law_n"] spPw := by
  refine def_okI F sc_l_powers (fun vs H Q E h => ?_) (fun f cdv A outer s H vs Q E hr h => ?_)
  · obtain ⟨x, n, rfl, _⟩ := h; rfl
  · obtain ⟨x, n, rfl, hn, zx, k⟩ := h
    have hu := hr.units
    refine ⟨_, (pss_consI (ps_setI (i := 2) sc_l_powers.nd rfl (by first | exact Or.inl rfl | exact Or.inr rfl) (pe_lstI (pa_consI pe_intI pa_nilI)))
      (pss_consI (ps_forI PassesOwn.never rfl (pi_range1I rfl B.range (pa_consI (pvI 1) pa_nilI)) (pg_nameI (i := 3) sc_l_powers.nd rfl (by first | exact Or.inl rfl | exact Or.inr rfl))
      (pss_oneI (ps_exprI (pe_bmI PySem.F.plainAttrs_list PySem.F.slot_list_append PySem.F.type_list_append mt_append (pvI 2) (pa_consI (pe_opI op_mulA (pe_ixI (ix_listK K) (pvI 2) (pe_unI un_neg pe_intI) (fun _ _ => rfl)) (pvI 0)) pa_nilI)))))
      (pss_oneI (ps_retI (pvI 2))))), ?_⟩
    walk_at "rd"
    intro l hl
    walk_at "rd"
    refine ⟨by omega, by omega, for_range (fun i σ H' => ∃ (y : Option V), σ = [some (.int x), some (.int (n : Int)), some (.ref l), y] ∧ Same H H' ∧ H' l = some (.lst (((List.range (i + 1)).map (fun k => x ^ k)).map V.int))) ⟨none, rfl, Same.new hl, by rw [upd_same]; simp⟩ ?_ ?_⟩
    · rintro i σ H2 hi ⟨y, rfl, s2, h2⟩
      have hi' : i < n := by omega
      have hlen : (((List.range (i + 1)).map (fun k => x ^ k)).map V.int).length = i + 1 := by simp
      have el : (((List.range (i + 1)).map (fun k => x ^ k)).map V.int)[(((List.range (i + 1)).map (fun k => x ^ k)).map V.int).length - 1]? = some (V.int (x ^ i)) := by
        rw [hlen, Nat.add_sub_cancel, List.getElem?_map, List.getElem?_map, List.getElem?_range (by omega)]; rfl
      walk_at "rd"
      refine ⟨.inl ⟨rfl, _, SqL.of h2⟩, ?_⟩
      walk_at "rd"
      refine ⟨l, _, _, _, rfl, rfl, SqL.of h2, atI_last' _ _ el (by omega), ?_⟩
      walk_at "rd"
      refine ⟨mulB (pw_sz zx (n := i) (by omega)) zx, ?_⟩
      refine ⟨l, _, _, rfl, rfl, h2, small_line (by omega), ?_⟩
      refine ⟨_, rfl, same_upd hl s2, ?_⟩
      rw [upd_same, range_snoc _ (i + 1), List.map_append, Int.pow_succ]; rfl
    · rintro σ H2 ⟨y, rfl, s2, h2⟩
      rw [Int.toNat_natCast] at h2
      walk_at "rd"
      exact k l H2 s2 h2
theorem ok_l_tops (F : FunAt K mg "_law_tops" s_l_tops ["_law_n", "_law_t"]) (B : Blt mg) (D_l_powers : DefOk P w K mg base CX0 1 "_law_powers" ["_law_number", "_law_n"] spPw) : DefOk P w K mg base CX0 2 "_law_tops" ["_law_n", "_law_t"] spTops := by
  refine def_okI F sc_l_tops (fun vs H Q E h => ?_) (fun f cdv A outer s H vs Q E hr h => ?_)
  · obtain ⟨z, n, t, rfl, _⟩ := h; rfl
  · obtain ⟨_, n, t, rfl, hn, ⟨a, rfl, ha⟩, bt, k⟩ := h
    have hu := hr.units
    refine ⟨_, (pss_consI (ps_setI (i := 2) sc_l_tops.nd rfl (by first | exact Or.inl rfl | exact Or.inr rfl) (pe_fnI D_l_powers hr pass0 (pa_consI (pe_ixI (ix_tupK K) (pvI 1) pe_intI (fun _ _ => rfl)) (pa_consI (pvI 0) pa_nilI))))
      (pss_consI (ps_setI (i := 3) sc_l_tops.nd rfl (by first | exact Or.inl rfl | exact Or.inr rfl) (pe_fnI D_l_powers hr pass0 (pa_consI (pe_opI op_sub (pe_ixI (ix_tupK K) (pvI 1) pe_intI (fun _ _ => rfl)) (pe_ixI (ix_tupK K) (pvI 1) pe_intI (fun _ _ => rfl))) (pa_consI (pvI 0) pa_nilI))))
      (pss_consI (ps_setI (i := 4) sc_l_tops.nd rfl (by first | exact Or.inl rfl | exact Or.inr rfl) (pe_lstI pa_nilI))
      (pss_consI (ps_setI (i := 5) sc_l_tops.nd rfl (by first | exact Or.inl rfl | exact Or.inr rfl) pe_intI)
      (pss_consI (ps_forI PassesOwn.never rfl (pi_range1I rfl B.range (pa_consI (pe_opI op_add (pvI 0) pe_intI) pa_nilI)) (pg_nameI (i := 6) sc_l_tops.nd rfl (by first | exact Or.inl rfl | exact Or.inr rfl))
      (pss_consI (ps_exprI (pe_bmI PySem.F.plainAttrs_list PySem.F.slot_list_append PySem.F.type_list_append mt_append (pvI 4) (pa_consI (pe_opI op_mulA (pe_opI op_mulA (pvI 5) (pe_ixI (ix_listK K) (pvI 2) (pvI 6) (fun _ _ => rfl))) (pe_ixI (ix_listK K) (pvI 3) (pe_opI op_sub (pvI 0) (pvI 6)) (fun _ _ => rfl))) pa_nilI)))
      (pss_oneI (ps_setI (i := 5) sc_l_tops.nd rfl (by first | exact Or.inl rfl | exact Or.inr rfl) (pe_opI op_fdivB (pe_opI op_mulA (pvI 5) (pe_opI op_sub (pvI 0) (pvI 6))) (pe_opI op_add (pvI 6) pe_intI))))))
      (pss_oneI (ps_retI (pvI 4)))))))), ?_⟩
    walk_at "rd"
    refine ⟨_, n, rfl, hn, bt.num.mono (by decide), fun lu H1 s1 hu => ?_⟩
    walk_at "rd"
    refine ⟨_, n, rfl, hn, (bt.den.sub bt.num).mono (by decide), fun ld H2 s2 hd => ?_⟩
    walk_at "rd"
    intro lt hlt
    walk_at "rd"
    refine ⟨by omega, by omega, for_range (fun i σ H' => ∃ (y : Option V), σ = [some (.int (n : Int)), some (.ref a), some (.ref lu), some (.ref ld), some (.ref lt), some (.int (ch n i : Int)), y] ∧ Same H2 H' ∧ H' lt = some (.lst (((List.range i).map (topI n t)).map V.int))) ⟨none, by rw [ch_zero]; rfl, Same.new hlt, upd_same⟩ ?_ ?_⟩
    · rintro i σ H3 hi ⟨y, rfl, s3, h3⟩
      have hi' : i ≤ n := by omega
      have hlen : (((List.range i).map (topI n t)).map V.int).length = i := by simp
      have eu : (((List.range (n + 1)).map (fun k => t.num ^ k)).map V.int)[i]? = some (V.int (t.num ^ i)) := by
        rw [List.getElem?_map, List.getElem?_map, List.getElem?_range (by omega)]; rfl
      have ed : (((List.range (n + 1)).map (fun k => ((t.den : Int) - t.num) ^ k)).map V.int)[n - i]? = some (V.int (((t.den : Int) - t.num) ^ (n - i))) := by
        rw [List.getElem?_map, List.getElem?_map, List.getElem?_range (by omega)]; rfl
      have z1 := ch_sz n i
      have z2 := pw_sz (bt.num.mono (m := 300) (by decide)) (n := i) (by omega)
      have z3 := pw_sz (n := n - i) ((bt.den.sub bt.num).mono (m := 300) (by decide)) (by omega)
      have z1' : Sz 20 (ch n i : Int) := z1.mono (by omega)
      have hu3 : H3 lu = some (.lst (((List.range (n + 1)).map (fun k => t.num ^ k)).map V.int)) := s3 _ _ (s2 _ _ hu)
      have hd3 := s3 _ _ hd
      walk_at "rd"
      refine ⟨.inl ⟨rfl, _, SqL.of h3⟩, ?_⟩
      walk_at "rd"
      refine ⟨lu, _, _, _, rfl, rfl, SqL.of hu3, atI_nat' (j := i) (by omega) eu, ?_⟩
      refine ⟨_, _, rfl, rfl, mulB z1' z2, ?_⟩
      walk_at "rd"
      refine ⟨ld, _, _, _, rfl, rfl, SqL.of hd3, atI_nat' (j := n - i) (by omega) ed, ?_⟩
      refine ⟨_, _, rfl, rfl, mulB (z1'.mul z2) z3, ?_⟩
      refine ⟨lt, _, _, rfl, rfl, h3, small_line (by omega), ?_⟩
      walk_at "rd"
      refine ⟨⟨by omega, Sz.mono (n := 20) (sz_of (b := 13) (by omega) (by decide)) (by decide)⟩, ?_⟩
      have ec : ((ch n i : Int) * ((n : Int) - (0 + (i : Int)))).fdiv (0 + (i : Int) + 1) = (ch n (i + 1) : Int) := by
        rw [Int.zero_add]; exact ch_div n i
      refine ⟨_, by rw [← ec]; rfl, same_upd hlt s3, ?_⟩
      rw [upd_same, range_snoc _ i, List.map_append]; rfl
    · rintro σ H3 ⟨y, rfl, s3, h3⟩
      have e : ((n : Int) + 1).toNat = n + 1 := by omega
      rw [e] at h3
      walk_at "rd"
      exact k lt H3 ((s1.trans s2).trans s3) h3
theorem ok_l_point (F : FunAt K mg "_law_point" s_l_point ["_law_curve", "_law_t"]) (B : Blt mg) (D_l_share : DefOk P w K mg base CX0 2 "_law_share" ["_law_top", "_law_bottom"] spLShare) (D_l_powers : DefOk P w K mg base CX0 1 "_law_powers" ["_law_number", "_law_n"] spPw) (D_l_tops : DefOk P w K mg base CX0 2 "_law_tops" ["_law_n", "_law_t"] spTops) : DefOk P w K mg base CX0 3 "_law_point" ["_law_curve", "_law_t"] (spWPt K) := by
  refine def_okI F sc_l_point (fun vs H Q E h => ?_) (fun f cdv A outer s H vs Q E hr h => ?_)
  · obtain ⟨a, z, ws, ps, t, rfl, _⟩ := h; rfl
  · obtain ⟨a, _, ws, ps, t, rfl, hS, hP, ⟨az, rfl, haz⟩, bt, h1, h12, bp, k⟩ := h
    have hu := hr.units
    refine ⟨_, (pss_consI (ps_setI (i := 2) sc_l_point.nd rfl (by first | exact Or.inl rfl | exact Or.inr rfl) (pe_opI op_sub (pe_callBI (call_lenK K) (by rfl) B.len PySem.boot_len (pa_consI (pvI 0) pa_nilI)) pe_intI))
      (pss_consI (ps_setI (i := 3) sc_l_point.nd rfl (by first | exact Or.inl rfl | exact Or.inr rfl) (pe_fnI D_l_tops hr pass0 (pa_consI (pvI 2) (pa_consI (pvI 1) pa_nilI))))
      (pss_consI (ps_setI (i := 4) sc_l_point.nd rfl (by first | exact Or.inl rfl | exact Or.inr rfl) (pe_lstI pa_nilI))
      (pss_consI (ps_forI PassesOwn.never rfl (pi_range1I rfl B.range (pa_consI pe_intI pa_nilI)) (pg_nameI (i := 5) sc_l_point.nd rfl (by first | exact Or.inl rfl | exact Or.inr rfl))
      (pss_consI (ps_setI (i := 6) sc_l_point.nd rfl (by first | exact Or.inl rfl | exact Or.inr rfl) pe_intI)
      (pss_consI (ps_setI (i := 7) sc_l_point.nd rfl (by first | exact Or.inl rfl | exact Or.inr rfl) pe_intI)
      (pss_consI (ps_forI PassesOwn.never rfl (pi_zipI rfl B.zip (pa_consI (pvI 3) (pa_consI (pvI 0) pa_nilI))) (pg_tupKI (n := 2) K rfl (pgs_consI (pg_nameI (i := 8) sc_l_point.nd rfl (by first | exact Or.inl rfl | exact Or.inr rfl)) (pgs_consI (pg_nameI (i := 9) sc_l_point.nd rfl (by first | exact Or.inl rfl | exact Or.inr rfl)) pgs_nilI)))
      (pss_consI (ps_setI (i := 6) sc_l_point.nd rfl (by first | exact Or.inl rfl | exact Or.inr rfl) (pe_opI op_add (pe_opI op_mulA (pvI 6) (pe_ixI (ix_tupK K) (pe_ixI (ix_tupK K) (pvI 9) (pvI 5) (fun _ _ => rfl)) pe_intI (fun _ _ => rfl))) (pe_opI op_mulA (pe_opI op_mulA (pvI 8) (pe_ixI (ix_tupK K) (pe_ixI (ix_tupK K) (pvI 9) (pvI 5) (fun _ _ => rfl)) pe_intI (fun _ _ => rfl))) (pvI 7))))
      (pss_oneI (ps_setI (i := 7) sc_l_point.nd rfl (by first | exact Or.inl rfl | exact Or.inr rfl) (pe_opI op_mulA (pvI 7) (pe_ixI (ix_tupK K) (pe_ixI (ix_tupK K) (pvI 9) (pvI 5) (fun _ _ => rfl)) pe_intI (fun _ _ => rfl)))))))
      (pss_oneI (ps_exprI (pe_bmI PySem.F.plainAttrs_list PySem.F.slot_list_append PySem.F.type_list_append mt_append (pvI 4) (pa_consI (pe_fnI D_l_share hr pass0 (pa_consI (pvI 6) (pa_consI (pe_opI op_mulA (pvI 7) (pe_ixI (ix_listK K) (pe_fnI D_l_powers hr pass0 (pa_consI (pe_ixI (ix_tupK K) (pvI 1) pe_intI (fun _ _ => rfl)) (pa_consI (pvI 2) pa_nilI))) (pvI 2) (fun _ _ => rfl))) pa_nilI))) pa_nilI))))))))
      (pss_oneI (ps_retI (pe_callTyI call_tuple_of rfl B.tuple PyProof.Rows.boot_tuple (pa_consI (pvI 4) pa_nilI)))))))), ?_⟩
    have hwl := hP.len
    obtain ⟨n, hn⟩ : ∃ n, ps.length = n + 1 := ⟨ps.length - 1, by omega⟩
    have en : (ws.length : Int) - 1 = (n : Int) := by omega
    have hpt := pt_top t ps h1 n hn
    walk_at "rd"
    refine ⟨a, ws, rfl, .inl hS, ?_⟩
    walk_at "rd"
    refine ⟨.ref az, n, t, by show [V.int ((ws.length : Int) - 1), V.ref az] = _; rw [en], by omega, ⟨az, rfl, haz⟩, bt, fun lt H1 s1 ht => ?_⟩
    walk_at "rd"
    intro lf hlf
    walk_at "rd"
    refine for_range (fun i σ H' => ∃ (y5 y6 y7 y8 y9 : Option V) (vs : List V), σ = [some (.ref a), some (.ref az), some (.int ((ws.length : Int) - 1)), some (.ref lt), some (.ref lf), y5, y6, y7, y8, y9] ∧ Same H1 H' ∧ H' lf = some (.lst vs) ∧ ShL H' vs ([(ptP t ps).1, (ptP t ps).2].take i)) ⟨none, none, none, none, none, [], rfl, Same.new hlf, upd_same, ShL.nil _⟩ ?_ ?_
    · rintro i σ H3 hi ⟨y5, y6, y7, y8, y9, vs, rfl, s3, h3, hV⟩
      have hP3 : PtsV H3 ws ps := by walk_at "mv"
      have hS3 : SqL K H3 a ws := by walk_at "mv"
      have ht3 : H3 lt = some (.lst (((List.range (n + 1)).map (topI n t)).map V.int)) := by walk_at "hf"
      have hj2 : i = 0 ∨ i = 1 := by omega
      rcases hj2 with rfl | rfl
      · skip
        walk_at "rd"
        refine ⟨lt, a, rfl, ⟨_, SqL.of (by walk_at "hf")⟩, ⟨_, by walk_at "mv"⟩, for_plain2 (plain_zip (xs := ((List.range (n + 1)).map (topI n t)).map V.int) (ys := ws) (SqL.of (by walk_at "hf")) (by walk_at "mv")) (fun i σ H' => ∃ (y1 y2 : Option V) (top bot : Int), σ = [some (.ref a), some (.ref az), some (.int ((ws.length : Int) - 1)), some (.ref lt), some (.ref lf), some (.int (0 + ((0 : Nat) : Int))), some (.int top), some (.int bot), y1, y2] ∧ Same H3 H' ∧ (top : Rat) = sm (fun j => ((topI n t j : Int) : Rat) * gX ps j) i * (bot : Rat) ∧ 0 < bot ∧ Sz (8500 + 400 * i) top ∧ Sz (340 * i + 1) bot) ⟨_, _, 0, 1, rfl, L2.Same.refl _, by show (0 : Rat) = 0 * 1; grind, by decide, ⟨by show 0 < _; exact Nat.two_pow_pos _⟩, ⟨by decide⟩⟩ (fun i σ H p => by obtain ⟨_, _, _, _, _, s, _⟩ := p; exact s) ?_ ?_⟩
        · rintro i g σ H4 H5 hi ⟨y1, y2, top, bot, rfl, s4, et, pb, zt, zb⟩ s5 hg
          have hi' : i < ps.length := by have : i < min (((List.range (n + 1)).map (topI n t)).map V.int).length ws.length := hi; omega
          have ep : ps[i]? = some (ps[i]'hi') := List.getElem?_eq_getElem _
          obtain ⟨w, ew, gi, vx, vy, rfl, hgi, ⟨ax, rfl, hax⟩, ⟨ay, rfl, hay⟩⟩ := ((hP3.same s4).same s5).at ep
          have bx := bp _ (List.getElem_mem hi')
          have ef : ((((List.range (n + 1)).map (topI n t)).map V.int)[i]?).getD .non = V.int (topI n t i) := by
            rw [List.getElem?_map, List.getElem?_map, List.getElem?_range (by omega)]; rfl
          have ef' : (ws[i]?).getD .non = .ref gi := by rw [ew]; rfl
          rw [ef, ef'] at hg
          have zT := top_szI (k := i) bt (show n ≤ 12 by omega) (by omega)
          have zt' : Sz 20000 top := zt.mono (by omega)
          have zb' : Sz 8000 bot := zb.mono (by omega)
          have bx1 := bx.1
          have bx2 := bx.2
          have gx : gX ps i = (ps[i]'hi').1 := by unfold gX; rw [ep]; rfl
          refine ⟨g, _, rfl, hg, rfl, _, _, rfl, _, _, rfl, rfl, ?_⟩
          walk_at "rd"
          refine ⟨_, _, _, _, rfl, s4.trans s5, ?_, Int.mul_pos pb (by have := (ps[i]'hi').1.den_pos; omega), ((zt.mul bx1.den).add ((zT.mul bx1.num).mul zb)).mono (by omega), (zb.mul bx1.den).mono (by omega)⟩
          show _ = (sm (fun j => ((topI n t j : Int) : Rat) * gX ps j) i + ((topI n t i : Int) : Rat) * gX ps i) * _
          have ec := num_cast (ps[i]'hi').1
          simp only [Rat.intCast_add, Rat.intCast_mul]
          rw [et, ec, gx]; grind
        rintro σ H4 ⟨y1, y2, top, bot, rfl, s4, et, pb, zt, zb⟩
        have em : min (((List.range (n + 1)).map (topI n t)).map V.int).length ws.length = ps.length := by simp; omega
        rw [em] at et zt zb
        have zb' : Sz 4200 bot := zb.mono (by omega)
        have elp : (((List.range (n + 1)).map (fun k => (t.den : Int) ^ k)).map V.int)[n]? = some (V.int ((t.den : Int) ^ n)) := by
          rw [List.getElem?_map, List.getElem?_map, List.getElem?_range (by omega)]; rfl
        have zd := pw_sz (bt.den.mono (m := 300) (by decide)) (n := n) (by omega)
        have pd : (0 : Int) < (t.den : Int) ^ n := pow_pos' (by have := t.den_pos; omega) n
        walk_at "rd"
        refine ⟨.inl ⟨rfl, _, SqL.of (s4 _ _ h3)⟩, ?_⟩
        walk_at "rd"
        refine ⟨_, n, by show [V.int _, V.int ((ws.length : Int) - 1)] = _; rw [en], by omega, bt.den.mono (by decide), fun lp H5 s5 hp => ?_⟩
        walk_at "rd"
        refine ⟨lp, _, _, _, rfl, rfl, SqL.of hp, atI_nat' (j := n) (by omega) elp, ?_⟩
        refine ⟨_, _, rfl, rfl, mulB zb' zd, ?_⟩
        walk_at "rd"
        refine ⟨_, _, rfl, Int.mul_pos pb pd, (zb'.mul zd).mono (by decide), fun v H6 s6 wv => ?_⟩
        have eqv : (ptP t ps).1 = Rat.divInt top (bot * (t.den : Int) ^ n) := by
          refine eq_divInt (Int.ne_of_gt (Int.mul_pos pb pd)) ?_
          rw [Rat.intCast_mul, et, ← hpt.1]; grind
        rw [← eqv] at wv
        have h6 : H6 lf = some (.lst vs) := s6 _ _ (s5 _ _ (s4 _ _ h3))
        have hvl := hV.len
        refine ⟨lf, _, _, rfl, rfl, h6, small_line (by rw [hvl, List.length_take]; omega), ?_⟩
        have t6 : Tup H6 (upd H6 lf (.lst (vs ++ [v]))) := Tup.lst h6
        refine ⟨_, _, _, _, _, vs ++ [v], rfl, same_upd hlf (((s3.trans s4).trans s5).trans s6), upd_same, ?_⟩
        exact ShL.snoc ((((hV.same s4).same s5).same s6).tup t6) (wv.tup t6)
      · skip
        walk_at "rd"
        refine ⟨lt, a, rfl, ⟨_, SqL.of (by walk_at "hf")⟩, ⟨_, by walk_at "mv"⟩, for_plain2 (plain_zip (xs := ((List.range (n + 1)).map (topI n t)).map V.int) (ys := ws) (SqL.of (by walk_at "hf")) (by walk_at "mv")) (fun i σ H' => ∃ (y1 y2 : Option V) (top bot : Int), σ = [some (.ref a), some (.ref az), some (.int ((ws.length : Int) - 1)), some (.ref lt), some (.ref lf), some (.int (0 + ((1 : Nat) : Int))), some (.int top), some (.int bot), y1, y2] ∧ Same H3 H' ∧ (top : Rat) = sm (fun j => ((topI n t j : Int) : Rat) * gY ps j) i * (bot : Rat) ∧ 0 < bot ∧ Sz (8500 + 400 * i) top ∧ Sz (340 * i + 1) bot) ⟨_, _, 0, 1, rfl, L2.Same.refl _, by show (0 : Rat) = 0 * 1; grind, by decide, ⟨by show 0 < _; exact Nat.two_pow_pos _⟩, ⟨by decide⟩⟩ (fun i σ H p => by obtain ⟨_, _, _, _, _, s, _⟩ := p; exact s) ?_ ?_⟩
        · rintro i g σ H4 H5 hi ⟨y1, y2, top, bot, rfl, s4, et, pb, zt, zb⟩ s5 hg
          have hi' : i < ps.length := by have : i < min (((List.range (n + 1)).map (topI n t)).map V.int).length ws.length := hi; omega
          have ep : ps[i]? = some (ps[i]'hi') := List.getElem?_eq_getElem _
          obtain ⟨w, ew, gi, vx, vy, rfl, hgi, ⟨ax, rfl, hax⟩, ⟨ay, rfl, hay⟩⟩ := ((hP3.same s4).same s5).at ep
          have bx := bp _ (List.getElem_mem hi')
          have ef : ((((List.range (n + 1)).map (topI n t)).map V.int)[i]?).getD .non = V.int (topI n t i) := by
            rw [List.getElem?_map, List.getElem?_map, List.getElem?_range (by omega)]; rfl
          have ef' : (ws[i]?).getD .non = .ref gi := by rw [ew]; rfl
          rw [ef, ef'] at hg
          have zT := top_szI (k := i) bt (show n ≤ 12 by omega) (by omega)
          have zt' : Sz 20000 top := zt.mono (by omega)
          have zb' : Sz 8000 bot := zb.mono (by omega)
          have bx1 := bx.1
          have bx2 := bx.2
          have gx : gY ps i = (ps[i]'hi').2 := by unfold gY; rw [ep]; rfl
          refine ⟨g, _, rfl, hg, rfl, _, _, rfl, _, _, rfl, rfl, ?_⟩
          walk_at "rd"
          refine ⟨_, _, _, _, rfl, s4.trans s5, ?_, Int.mul_pos pb (by have := (ps[i]'hi').2.den_pos; omega), ((zt.mul bx2.den).add ((zT.mul bx2.num).mul zb)).mono (by omega), (zb.mul bx2.den).mono (by omega)⟩
          show _ = (sm (fun j => ((topI n t j : Int) : Rat) * gY ps j) i + ((topI n t i : Int) : Rat) * gY ps i) * _
          have ec := num_cast (ps[i]'hi').2
          simp only [Rat.intCast_add, Rat.intCast_mul]
          rw [et, ec, gx]; grind
        rintro σ H4 ⟨y1, y2, top, bot, rfl, s4, et, pb, zt, zb⟩
        have em : min (((List.range (n + 1)).map (topI n t)).map V.int).length ws.length = ps.length := by simp; omega
        rw [em] at et zt zb
        have zb' : Sz 4200 bot := zb.mono (by omega)
        have elp : (((List.range (n + 1)).map (fun k => (t.den : Int) ^ k)).map V.int)[n]? = some (V.int ((t.den : Int) ^ n)) := by
          rw [List.getElem?_map, List.getElem?_map, List.getElem?_range (by omega)]; rfl
        have zd := pw_sz (bt.den.mono (m := 300) (by decide)) (n := n) (by omega)
        have pd : (0 : Int) < (t.den : Int) ^ n := pow_pos' (by have := t.den_pos; omega) n
        walk_at "rd"
        refine ⟨.inl ⟨rfl, _, SqL.of (s4 _ _ h3)⟩, ?_⟩
        walk_at "rd"
        refine ⟨_, n, by show [V.int _, V.int ((ws.length : Int) - 1)] = _; rw [en], by omega, bt.den.mono (by decide), fun lp H5 s5 hp => ?_⟩
        walk_at "rd"
        refine ⟨lp, _, _, _, rfl, rfl, SqL.of hp, atI_nat' (j := n) (by omega) elp, ?_⟩
        refine ⟨_, _, rfl, rfl, mulB zb' zd, ?_⟩
        walk_at "rd"
        refine ⟨_, _, rfl, Int.mul_pos pb pd, (zb'.mul zd).mono (by decide), fun v H6 s6 wv => ?_⟩
        have eqv : (ptP t ps).2 = Rat.divInt top (bot * (t.den : Int) ^ n) := by
          refine eq_divInt (Int.ne_of_gt (Int.mul_pos pb pd)) ?_
          rw [Rat.intCast_mul, et, ← hpt.2]; grind
        rw [← eqv] at wv
        have h6 : H6 lf = some (.lst vs) := s6 _ _ (s5 _ _ (s4 _ _ h3))
        have hvl := hV.len
        refine ⟨lf, _, _, rfl, rfl, h6, small_line (by rw [hvl, List.length_take]; omega), ?_⟩
        have t6 : Tup H6 (upd H6 lf (.lst (vs ++ [v]))) := Tup.lst h6
        refine ⟨_, _, _, _, _, vs ++ [v], rfl, same_upd hlf (((s3.trans s4).trans s5).trans s6), upd_same, ?_⟩
        exact ShL.snoc ((((hV.same s4).same s5).same s6).tup t6) (wv.tup t6)
    · rintro σ H3 ⟨y5, y6, y7, y8, y9, vs, rfl, s3, h3, hV⟩
      have hvl := hV.len
      obtain ⟨v1, v2, rfl⟩ := len2 (l := vs) hvl
      walk_at "rd"
      refine ⟨lf, _, rfl, .inl ⟨SqL.of h3, fun g hg => ?_⟩⟩
      exact k _ _ ((s1.trans s3).trans (Same.new hg)) ⟨g, v1, v2, rfl, upd_same, (hV.get 0 v1 _ rfl rfl).same (Same.new hg), (hV.get 1 v2 _ rfl rfl).same (Same.new hg)⟩
theorem ok_l_good (F : FunAt K mg "_law_good" s_l_good ["_law_found", "_law_curve", "_law_level"]) (B : Blt mg) (D_l_share : DefOk P w K mg base CX0 2 "_law_share" ["_law_top", "_law_bottom"] spLShare) (D_l_is_point : DefOk P w K mg base CX0 3 "_law_is_point" ["_law_found"] spIsPoint) (D_l_point : DefOk P w K mg base CX0 3 "_law_point" ["_law_curve", "_law_t"] (spWPt K)) : DefOk P w K mg base CX0 4 "_law_good" ["_law_found", "_law_curve", "_law_level"] (spGoodS K) := by
  refine def_okI F sc_l_good (fun vs H Q E h => ?_) (fun f cdv A outer s H vs Q E hr h => ?_)
  · obtain ⟨f, c, us, ws, qs, ps, L, rfl, _⟩ := h; rfl
  · obtain ⟨f, c, us, ws, qs, ps, L, rfl, hf, hU, hc, hP, ok, k⟩ := h
    have hu := hr.units
    refine ⟨_, (pss_consI (ps_setI (i := 3) sc_l_good.nd rfl (by first | exact Or.inl rfl | exact Or.inr rfl) (pe_opI op_shl pe_intI (pvI 2)))
      (pss_consI (ps_ifI (PW_ptI (pw_orI (pt_notI (pt_valI (pe_callBI (call_isiK K) (by rfl) B.isinstance PyProof.Rows.boot_isinstance (pa_consI (pvI 0) (pa_consI (pe_bltnI (v := .ty "list") rfl B.list PyProof.Rows.boot_list rfl) pa_nilI))))) (pw_or1I (pt_cmpRI op_ne (pe_callBI (call_lenK K) (by rfl) B.len PySem.boot_len (pa_consI (pvI 0) pa_nilI)) (pvI 3) (nomark _))))) (pss_oneI (ps_retI pe_blI)) pss_nilI)
      (pss_consI (ps_forI PassesOwn.never rfl (pi_range1I rfl B.range (pa_consI (pvI 3) pa_nilI)) (pg_nameI (i := 4) sc_l_good.nd rfl (by first | exact Or.inl rfl | exact Or.inr rfl))
      (pss_consI (ps_ifI (PW_ptI (pw_orI (pt_notI (pt_valI (pe_callBI (call_isiK K) (by rfl) B.isinstance PyProof.Rows.boot_isinstance (pa_consI (pe_ixI (ix_listK K) (pvI 0) (pvI 4) (fun _ _ => rfl)) (pa_consI (pe_bltnI (v := .ty "list") rfl B.list PyProof.Rows.boot_list rfl) pa_nilI))))) (pw_or1I (pt_cmpRI op_ne (pe_callBI (call_lenK K) (by rfl) B.len PySem.boot_len (pa_consI (pe_ixI (ix_listK K) (pvI 0) (pvI 4) (fun _ _ => rfl)) pa_nilI)) (pe_callBI (call_lenK K) (by rfl) B.len PySem.boot_len (pa_consI (pvI 1) pa_nilI)) (nomark _))))) (pss_oneI (ps_retI pe_blI)) pss_nilI)
      (pss_consI (ps_ifI (pt_notI (pt_valI (pe_callBI (call_allB rfl) (by rfl) B.all PyProof.Rows.boot_all (pa_consI (pe_compSI (os := ["_law_place"]) (caps := []) ["_law_found", "_law_curve", "_law_level", "_law_many", "_law_i", "_law_u"] (defScope s_l_good) (pi_listI (pe_ixI (ix_listK K) (pvI 0) (pvI 4) (fun _ _ => rfl))) (fun _ _ _ _ _ => (pg_nameI (i := 0) (show List.Nodup (["_law_place"] : List Str) from by decide +kernel) rfl (by first | exact Or.inl rfl | exact Or.inr rfl))) (fun _ _ _ _ _ => (pe_fnI D_l_is_point hr pass0 (pa_consI (pvI 0) pa_nilI))) (by decide +kernel)) pa_nilI)))) (pss_oneI (ps_retI pe_blI)) pss_nilI)
      (pss_oneI (ps_forI PassesOwn.never rfl (pi_range1I rfl B.range (pa_consI (pe_callBI (call_lenK K) (by rfl) B.len PySem.boot_len (pa_consI (pvI 1) pa_nilI)) pa_nilI)) (pg_nameI (i := 5) sc_l_good.nd rfl (by first | exact Or.inl rfl | exact Or.inr rfl))
      (pss_oneI (ps_ifI (pt_cmpRI (op_neDK K hu) (pe_fnI D_l_point hr pass0 (pa_consI (pe_ixI (ix_listK K) (pvI 0) (pvI 4) (fun _ _ => rfl)) (pa_consI (pe_tupI (pa_consI (pvI 5) (pa_consI pe_intI pa_nilI))) pa_nilI))) (pe_fnI D_l_point hr pass0 (pa_consI (pvI 1) (pa_consI (pe_fnI D_l_share hr pass0 (pa_consI (pe_opI op_add (pvI 4) (pvI 5)) (pa_consI (pvI 3) pa_nilI))) pa_nilI))) (nomark _)) (pss_oneI (ps_retI pe_blI)) pss_nilI)))))))
      (pss_oneI (ps_retI pe_blI))))), ?_⟩
    have hwl := hP.len
    have hul := hU.1
    have l1 := ok.l1
    have l12 := ok.l12
    have hL := ok.hL
    have p6 : (2 : Nat) ^ L ≤ 2 ^ 6 := Nat.pow_le_pow_right (by decide) hL
    have e2L : ((2 ^ L : Nat) : Int) = (2 : Int) ^ L := by simp
    walk_at "rd"
    refine ⟨⟨by omega, by omega, by decide⟩, ?_⟩
    have hM : (1 : Int) * 2 ^ ((L : Int)).toNat = ((2 ^ L : Nat) : Int) := by rw [Int.toNat_natCast, Int.one_mul, e2L]
    have hq : ∀ v, V.int ((1 : Int) * 2 ^ ((L : Int)).toNat) = v → v = .int ((2 ^ L : Nat) : Int) := fun v e => by rw [← e, hM]
    walk_at "rd"
    refine ifF (by rw [hul]; simpa using hM.symm) ?_
    walk_at "rd"
    refine ⟨by omega, by omega, for_range (fun i σ H' => ∃ (y4 y5 : Option V), σ = [some (.ref f), some (.ref c), some (.int (L : Int)), some (.int (1 * 2 ^ ((L : Int)).toNat)), y4, y5] ∧ Same H H') ⟨none, none, rfl, L2.Same.refl _⟩ ?_ ?_⟩
    · rintro i σ H1 hi ⟨y4, y5, rfl, s1⟩
      have hi' : i < 2 ^ L := by omega
      obtain ⟨l, xs, el, hl, hX⟩ := (hU.same s1).at hi'
      have hxl := hX.len
      have ql := ok.len i hi'
      have hf1 := s1 _ _ hf
      have hc1 := s1 _ _ hc
      have hP1 := hP.same s1
      walk_at "rd"
      refine ⟨f, _, _, _, rfl, rfl, SqL.of hf1, atI_nat' (j := i) (by omega) el, ?_⟩
      walk_at "rd"
      refine ⟨f, _, _, _, rfl, rfl, SqL.of hf1, atI_nat' (j := i) (by omega) el, ?_⟩
      walk_at "rd"
      refine ifF (by simp; omega) ?_
      walk_at "rd"
      refine ⟨f, _, _, _, rfl, rfl, SqL.of hf1, atI_nat' (j := i) (by omega) el, ?_⟩
      refine ⟨_, rfl, ⟨_, SqL.of hl⟩, comp1 (plain_list (SqL.of hl)) (by omega) (fun i v _ => v = V.bl true) (fun _ _ _ _ _ h => h) (fun j H2 kk hj s2 hk => ?_) (fun D bs H2 hD s2 hd hbl hr => ?_)⟩
      · obtain ⟨v, ev, pv⟩ := (hX.same s2).at (List.getElem?_eq_getElem (show j < (qs i).length by omega))
        rw [ev]
        walk_at "rd"
        refine ⟨_, _, _, rfl, pv, ?_⟩
        exact hk _ _ (L2.Same.refl _) rfl
      obtain rfl := bls_of hbl hr
      refine ⟨D, _, rfl, SqL.of hd, ?_⟩
      rw [all_true]
      refine ⟨_, rfl, ifF rfl ?_⟩
      have s12 := s1.trans s2
      replace hf1 := s2 _ _ hf1
      replace hc1 := s2 _ _ hc1
      replace hP1 := hP1.same s2
      replace hl := s2 _ _ hl
      replace hX := hX.same s2
      clear hd hD hr hbl s2 s1
      walk_at "rd"
      refine ⟨by omega, by omega, for_range (fun u σ H' => ∃ (y5 : Option V), σ = [some (.ref f), some (.ref c), some (.int (L : Int)), some (.int (1 * 2 ^ ((L : Int)).toNat)), some (.int (0 + (i : Int))), y5] ∧ Same H2 H') ⟨y5, rfl, L2.Same.refl _⟩ ?_ ?_⟩
      · rintro u σ H3 hu3 ⟨y5, rfl, s3⟩
        have hu4 : u < ps.length := by omega
        walk_at "rd"
        refine ⟨f, _, _, _, rfl, rfl, SqL.of (s3 _ _ hf1), atI_nat' (j := i) (by omega) el, ?_⟩
        walk_at "rd"
        intro g hg
        have s4 := s3.trans (Same.new (o := .tup [.int (0 + (u : Int)), .int 1]) hg)
        refine ⟨l, .ref g, xs, qs i, _, rfl, SqL.of (s4 _ _ hl), hX.same s4, ShV.int upd_same, Bd.mono (Bd.intc (n := 20) (sz_of (b := 12) (by omega) (by decide))) (by decide), by omega, by omega, ok.bd i hi', fun v5 H5 s5 w5 => ?_⟩
        walk_at "rd"
        refine ⟨_, _, rfl, by omega, Sz.mono (n := 20) (Sz.million (by omega) (by omega)) (by decide), fun v6 H6 s6 w6 => ?_⟩
        have s46 := (s4.trans s5).trans s6
        walk_at "rd"
        refine ⟨c, v6, ws, ps, _, rfl, SqL.of (s46 _ _ hc1), hP1.same s46, w6, (Bd.of (n := 20) (m := 20) (sz_of (b := 100) (by omega) (by decide)) (Sz.million (by omega) (by omega)) (by omega)).mono (by decide), by omega, by omega, ok.bp, fun v7 H7 s7 w7 => ?_⟩
        have ept : ptP ((0 + (u : Int) : Int) : Rat) (qs i) = ptP (Rat.divInt (0 + (i : Int) + (0 + (u : Int))) (1 * 2 ^ ((L : Int)).toNat)) ps := by
          rw [ok.pt i hi', tq_int, Int.toNat_natCast, Int.one_mul]; simp only [Int.zero_add]
        rw [← ept] at w7
        refine ⟨datPt _, datPt _, PtV.dn ((w5.same s6).same s7), PtV.dn w7, datPt_ok _ 6, datPt_ok _ 6, fun b1 hb1 => ?_⟩
        obtain rfl := hb1.mpr rfl
        exact ⟨_, rfl, ifF rfl ⟨_, rfl, s46.trans s7⟩⟩
      · rintro σ H3 ⟨y5, rfl, s3⟩
        exact ⟨_, _, rfl, s12.trans s3⟩
    rintro σ H1 ⟨y4, y5, rfl, s1⟩
    walk_at "rd"
    exact k H1 s1
theorem ok_greatest_common (F : FunAt K mg "greatest_common" s_greatest_common ["one", "other"]) (B : Blt mg) : DefOk P w K mg base CX0 1 "greatest_common" ["one", "other"] spGcd := by
  refine def_okI F sc_greatest_common (fun vs H Q E h => ?_) (fun f cdv A outer s H vs Q E hr h => ?_)
  · obtain ⟨a, b, rfl, _⟩ := h; rfl
  · obtain ⟨a, b, rfl, k⟩ := h
    have hu := hr.units
    refine ⟨_, (pss_consI (ps_whileI PassesOwn.never (pt_cmpRI op_ne (pvI 1) pe_intI (nomark _)) (pss_oneI (ps_parI (i := 0) (j := 1) rfl sc_greatest_common.nd rfl rfl (by decide) rfl rfl (pa_consI (pvI 1) (pa_consI (pe_opI op_modN (pvI 0) (pvI 1)) pa_nilI)) rfl)))
      (pss_oneI (ps_retI (pe_callBI call_abs (by rfl) B.abs PyProof.Rows.boot_abs (pa_consI (pvI 0) pa_nilI))))), ?_⟩
    refine while_by (fun σ H' => ∃ x y : Int, σ = [some (.int x), some (.int y)] ∧ H' = H ∧ Int.gcd x y = Int.gcd a b) (fun σ _ => match σ with | [_, some (.int y)] => y.natAbs | _ => 0) ⟨a, b, rfl, rfl, rfl⟩ ?_ ?_
    · rintro σ H' ⟨x, y, rfl, rfl, e⟩
      refine ⟨_, rfl, rfl, _, rfl, ?_⟩
      by_cases hy : y = 0
      · subst hy
        refine iteNS rfl ?_
        refine ⟨_, rfl, _, rfl, ?_⟩
        rw [gcd_zero, e]
        exact k
      · refine ifT (dec_int_ne hy) ?_
        refine ⟨_, rfl, _, rfl, _, rfl, _, _, rfl, rfl, hy, _, _, rfl, ⟨_, _, rfl, rfl, ?_⟩, ?_⟩
        · rw [gcd_step]; exact e
        · exact fmod_lt x y hy
    · rintro σ H' Q Q' hq ⟨v, h1, hs, k1, h2, h3⟩
      exact ⟨v, h1, hs, k1, h2, hq _ _ h3⟩
theorem ok_common_bottoms (F : FunAt K mg "common_bottoms" s_common_bottoms ["shares"]) (B : Blt mg) (D_greatest_common : DefOk P w K mg base CX0 1 "greatest_common" ["one", "other"] spGcd) : DefOk P w K mg base CX0 2 "common_bottoms" ["shares"] (spCommon K) := by
  refine def_okI F sc_common_bottoms (fun vs H Q E h => ?_) (fun f cdv A outer s H vs Q E hr h => ?_)
  · obtain ⟨a, ws, qs, D, rfl, _⟩ := h; rfl
  · obtain ⟨a, ws, qs, D, rfl, hS, hQ, hD, zD, hdv, h40, k⟩ := h
    have hu := hr.units
    refine ⟨_, (pss_consI (ps_setI (i := 1) sc_common_bottoms.nd rfl (by first | exact Or.inl rfl | exact Or.inr rfl) (pe_lstI pa_nilI))
      (pss_consI (ps_setI (i := 2) sc_common_bottoms.nd rfl (by first | exact Or.inl rfl | exact Or.inr rfl) pe_intI)
      (pss_consI (ps_forI PassesOwn.never rfl (pi_listI (pvI 0)) (pg_nameI (i := 3) sc_common_bottoms.nd rfl (by first | exact Or.inl rfl | exact Or.inr rfl))
      (pss_consI (ps_setI (i := 4) sc_common_bottoms.nd rfl (by first | exact Or.inl rfl | exact Or.inr rfl) (pe_opI op_fdivB (pe_ixI (ix_tupK K) (pvI 3) pe_intI (fun _ _ => rfl)) (pe_fnI D_greatest_common hr pass0 (pa_consI (pvI 2) (pa_consI (pe_ixI (ix_tupK K) (pvI 3) pe_intI (fun _ _ => rfl)) pa_nilI)))))
      (pss_oneI (ps_ifI (pt_cmpRI op_gt (pvI 4) pe_intI (nomark _)) (pss_consI (ps_exprI (pe_bmI PySem.F.plainAttrs_list PySem.F.slot_list_append PySem.F.type_list_append mt_append (pvI 1) (pa_consI (pvI 4) pa_nilI)))
      (pss_oneI (ps_setI (i := 2) sc_common_bottoms.nd rfl (by first | exact Or.inl rfl | exact Or.inr rfl) (pe_opI op_mulA (pvI 2) (pvI 4))))) pss_nilI))))
      (pss_oneI (ps_retI (pvI 1)))))), ?_⟩
    walk_at "rd"
    intro l hl
    walk_at "rd"
    refine ⟨⟨ws, by walk_at "mv"⟩, for_list (xs := ws) (fun i σ H' => ∃ (y1 y2 : Option V) (W : Int) (bs : List Int), σ = [some (.ref a), some (.ref l), some (.int W), y1, y2] ∧ W = prodI bs ∧ Same H H' ∧ H' l = some (.lst (bs.map V.int)) ∧ (∀ b ∈ bs, 0 < b ∧ Sz 9000 b) ∧ W ∣ D ∧ (∀ j q, j < i → qs[j]? = some q → (q.den : Int) ∣ W) ∧ bs.length ≤ i)
      ⟨none, none, 1, [], rfl, rfl, Same.new hl, upd_same, (fun _ h => nomatch h), ⟨D, by rw [Int.one_mul]⟩, fun j q h => absurd h (Nat.not_lt_zero _), Nat.le_refl _⟩ ?_ ?_ ?_⟩
    · rintro i σ H' hi ⟨y1, y2, W, bs, rfl, eW, s1, h1, hb, hW, hq, hn⟩
      exact s1.seq hS
    · rintro i x σ H' hx ⟨y1, y2, W, bs, rfl, eW, s1, h1, hb, hW, hq, hn⟩
      have hi : i < ws.length := (List.getElem?_eq_some_iff.mp hx).1
      have hwl := hQ.len
      obtain ⟨q, eq, c, rfl, hc⟩ := (hQ.same s1).atV hx
      have hdq := hdv q (List.mem_of_getElem? eq)
      have hd0 : 0 < (q.den : Int) := by have := q.den_pos; omega
      obtain ⟨g1, g2, g3, g4, g5⟩ := lcm_step hd0 hW hdq
      have zq : Sz 9000 (q.den : Int) := sz_dvd (by omega) hdq zD
      have zg : Sz 9000 (Int.gcd W q.den : Int) := sz_dvd (by omega) g5 zq
      walk_at "rd"
      refine ⟨W, q.den, rfl, ?_⟩
      refine ⟨_, _, rfl, rfl, ⟨by omega, zg⟩, ?_⟩
      walk_at "rd"
      have zW : Sz 9000 W := sz_dvd (by omega) hW zD
      have zm : Sz 9000 ((q.den : Int).fdiv (Int.gcd W q.den)) := quo_sz hd0 g4 g5 zq
      refine ite_dec (fun hm => ?_) (fun hm => ?_)
      · walk_at "rd"
        refine ⟨.inl ⟨rfl, _, SqL.of h1⟩, ?_⟩
        walk_at "rd"
        refine ⟨l, _, _, rfl, rfl, h1, small_line (by rw [List.length_map]; omega), ?_⟩
        walk_at "rd"
        refine ⟨_, _, _, bs ++ [(q.den : Int).fdiv (Int.gcd W q.den)], rfl, by rw [prodI_snoc, eW], fun b o e => ?_, ?_, ?_, g2, ?_, ?_⟩
        · rw [upd_ne (ne_of_none e hl)]; exact s1 b o e
        · rw [upd_same, List.map_append]; rfl
        · intro b hb'
          rcases List.mem_append.mp hb' with h | h
          · exact hb b h
          · rw [List.mem_singleton.mp h]; exact ⟨g3, zm⟩
        · intro j r hj er
          by_cases hji : j = i
          · subst hji
            rw [eq] at er; cases er
            exact g1
          · exact Int.dvd_trans (hq j r (by omega) er) ⟨_, rfl⟩
        · rw [List.length_append]; show bs.length + 1 ≤ i + 1; omega
      · have e1 : (q.den : Int).fdiv (Int.gcd W q.den) = 1 := by omega
        rw [e1, Int.mul_one] at g1
        refine ⟨_, _, _, bs, rfl, eW, s1, h1, hb, hW, ?_, by omega⟩
        intro j r hj er
        by_cases hji : j = i
        · subst hji
          rw [eq] at er; cases er
          exact g1
        · exact hq j r (by omega) er
    · rintro σ H' ⟨y1, y2, W, bs, rfl, eW, s1, h1, hb, hW, hq, hn⟩
      have hwl := hQ.len
      refine ⟨_, rfl, k l bs H' s1 h1 hb (fun q hm => ?_) (eW ▸ hW) (by omega)⟩
      obtain ⟨j, hj, rfl⟩ := List.getElem_of_mem hm
      rw [← eW]
      exact hq j _ (by omega) (List.getElem?_eq_getElem hj)
theorem ok_product (F : FunAt K mg "product" s_product ["numbers"]) (B : Blt mg) : DefOk P w K mg base CX0 1 "product" ["numbers"] (spProduct K) := by
  refine def_okI F sc_product (fun vs H Q E h => ?_) (fun f cdv A outer s H vs Q E hr h => ?_)
  · obtain ⟨a, bs, rfl, _⟩ := h; rfl
  · obtain ⟨a, bs, rfl, hS, hb, hn, k⟩ := h
    have hu := hr.units
    refine ⟨_, (pss_consI (ps_setI (i := 1) sc_product.nd rfl (by first | exact Or.inl rfl | exact Or.inr rfl) pe_intI)
      (pss_consI (ps_forI PassesOwn.never rfl (pi_listI (pvI 0)) (pg_nameI (i := 2) sc_product.nd rfl (by first | exact Or.inl rfl | exact Or.inr rfl))
      (pss_oneI (ps_setI (i := 1) sc_product.nd rfl (by first | exact Or.inl rfl | exact Or.inr rfl) (pe_opI op_mulA (pvI 1) (pvI 2)))))
      (pss_oneI (ps_retI (pvI 1))))), ?_⟩
    walk_at "rd"
    refine ⟨⟨_, hS⟩, for_list (xs := bs.map V.int) (fun i σ H' => ∃ (y : Option V) (W : Int), σ = [some (.ref a), some (.int W), y] ∧ W = prodI (bs.take i) ∧ H' = H) ⟨none, 1, rfl, rfl, rfl⟩ ?_ ?_ ?_⟩
    · rintro i σ H' hi ⟨y, W, rfl, eW, rfl⟩
      exact hS
    · rintro i x σ H' hx ⟨y, W, rfl, eW, rfl⟩
      obtain ⟨b, eb, rfl⟩ := ints_at hx
      have zW : Sz (9000 * 100 + 1) W := by
        rw [eW]
        exact (prod_sz fun c hc => hb c (List.mem_of_mem_take hc)).mono (by rw [List.length_take]; omega)
      walk_at "rd"
      refine ⟨mulB zW (hb b (List.mem_of_getElem? eb)).2, _, _, rfl, ?_, rfl⟩
      rw [take_snoc eb, prodI_snoc, eW]
    · rintro σ H' ⟨y, W, rfl, eW, rfl⟩
      refine ⟨_, rfl, ?_⟩
      rw [List.length_map, List.take_length] at eW
      rw [eW]; exact k
theorem ok_axis (F : FunAt K mg "axis" s_axis ["shares"]) (B : Blt mg) (D_common_bottoms : DefOk P w K mg base CX0 2 "common_bottoms" ["shares"] (spCommon K)) (D_product : DefOk P w K mg base CX0 1 "product" ["numbers"] (spProduct K)) : DefOk P w K mg base CX0 3 "axis" ["shares"] (spAxisD K) := by
  refine def_okI F sc_axis (fun vs H Q E h => ?_) (fun f cdv A outer s H vs Q E hr h => ?_)
  · obtain ⟨a, ws, qs, D, m, rfl, _⟩ := h; rfl
  · obtain ⟨a, ws, qs, D, m, rfl, hS, hQ, hD, zD, hdv, hm, h40, k⟩ := h
    have hu := hr.units
    refine ⟨_, (pss_consI (ps_setI (i := 1) sc_axis.nd rfl (by first | exact Or.inl rfl | exact Or.inr rfl) (pe_fnI D_common_bottoms hr pass0 (pa_consI (pvI 0) pa_nilI)))
      (pss_consI (ps_setI (i := 2) sc_axis.nd rfl (by first | exact Or.inl rfl | exact Or.inr rfl) (pe_fnI D_product hr pass0 (pa_consI (pvI 1) pa_nilI)))
      (pss_oneI (ps_retI (pe_tupI (pa_consI (pe_compSI (os := ["one"]) (caps := [(2, "whole")]) ["shares", "bottoms", "whole"] (defScope s_axis) (pi_listI (pvI 0)) (fun _ _ _ _ _ => (pg_nameI (i := 0) (show List.Nodup (["one", "whole"] : List Str) from by decide +kernel) rfl (by first | exact Or.inl rfl | exact Or.inr rfl))) (fun _ _ _ _ _ => (pe_opI op_mulA (pe_ixI (ix_tupK K) (pvI 0) pe_intI (fun _ _ => rfl)) (pe_opI op_fdivB (pvI 1) (pe_ixI (ix_tupK K) (pvI 0) pe_intI (fun _ _ => rfl))))) (by decide +kernel)) (pa_consI (pvI 1) pa_nilI))))))), ?_⟩
    walk_at "rd"
    refine ⟨a, ws, qs, D, rfl, hS, hQ, hD, zD, fun q hq => (hdv q hq).1, h40, fun lb bs H1 s1 hlb hb hdb hbD hbl => ?_⟩
    have hW : 0 < prodI bs := prodI_pos fun b hb' => (hb b hb').1
    have zW : Sz 9000 (prodI bs) := sz_dvd (by omega) hbD zD
    have hwl := hQ.len
    walk_at "rd"
    refine ⟨lb, bs, rfl, SqL.of hlb, hb, by omega, ?_⟩
    walk_at "rd"
    refine ⟨⟨_, s1.seq hS⟩, comp1 (plain_list (s1.seq hS)) (by omega) (fun i v _ => ∀ q, qs[i]? = some q → v = .int (q.num * (prodI bs).fdiv q.den)) (fun _ _ _ _ _ h => h) (fun i H2 kk hi s2 hk => ?_) (fun E2 ys H2 hE s2 hE2 hl hr => ?_)⟩
    · have ew : ws[i]? = some ws[i] := List.getElem?_eq_getElem hi
      obtain ⟨q, eq, c, ec, hc⟩ := ((hQ.same s1).same s2).atV ew
      have ef : (ws[i]?).getD V.non = .ref c := by rw [ew]; exact ec
      obtain ⟨dq, bq⟩ := hdv q (List.mem_of_getElem? eq)
      have hd0 : 0 < (q.den : Int) := by have := q.den_pos; omega
      have zq : Sz 9000 (q.den : Int) := sz_dvd (by omega) dq zD
      have dW := hdb q (List.mem_of_getElem? eq)
      have zf : Sz 9000 ((prodI bs).fdiv q.den) := quo_sz hW hd0 dW zW
      rw [ef]
      walk_at "rd"
      refine ⟨⟨by omega, zq⟩, ?_⟩
      refine ⟨_, _, rfl, rfl, mulN bq.num zf (by omega), ?_⟩
      refine hk _ _ (L2.Same.refl _) fun q' e' => ?_
      rw [eq] at e'; cases e'
      rfl
    · walk_at "rd"
      intro p hp
      have ey := ints_of (by omega) hr
      refine k _ (qs.map fun q => q.num * (prodI bs).fdiv q.den) bs _ (by walk_at "sm") ⟨p, E2, lb, rfl, upd_same, ?_, ?_, ?_, hb, by omega, by rw [List.length_map]; omega⟩ (axR_tops hW hdb) hbl hbD
      · rw [← ey]; exact upd_keep hp hE2
      · exact upd_keep hp (s2 _ _ hlb)
      · intro x hx
        obtain ⟨q, hq, rfl⟩ := List.mem_map.mp hx
        obtain ⟨dq, bq⟩ := hdv q hq
        exact (bq.num.mul (quo_sz hW (by have := q.den_pos; omega) (hdb q hq) zW)).mono (by omega)
theorem ok_axes (F : FunAt K mg "axes" s_axes ["points"]) (B : Blt mg) (D_axis : DefOk P w K mg base CX0 3 "axis" ["shares"] (spAxisD K)) : DefOk P w K mg base CX0 4 "axes" ["points"] (spAxesD K) := by
  refine def_okI F sc_axes (fun vs H Q E h => ?_) (fun f cdv A outer s H vs Q E hr h => ?_)
  · obtain ⟨a, ws, ps, D, m, rfl, _⟩ := h; rfl
  · obtain ⟨a, ws, ps, D, m, rfl, hS, hP, hD, zD, hdv, hm, h40, k⟩ := h
    have hu := hr.units
    refine ⟨_, (pss_oneI (ps_retI (pe_tupI (pa_consI (pe_fnI D_axis hr pass0 (pa_consI (pe_compSI (os := ["place"]) (caps := []) ["points"] (defScope s_axes) (pi_listI (pvI 0)) (fun _ _ _ _ _ => (pg_nameI (i := 0) (show List.Nodup (["place"] : List Str) from by decide +kernel) rfl (by first | exact Or.inl rfl | exact Or.inr rfl))) (fun _ _ _ _ _ => (pe_ixI (ix_tupK K) (pvI 0) pe_intI (fun _ _ => rfl))) (by decide +kernel)) pa_nilI)) (pa_consI (pe_fnI D_axis hr pass0 (pa_consI (pe_compSI (os := ["place"]) (caps := []) ["points"] (defScope s_axes) (pi_listI (pvI 0)) (fun _ _ _ _ _ => (pg_nameI (i := 0) (show List.Nodup (["place"] : List Str) from by decide +kernel) rfl (by first | exact Or.inl rfl | exact Or.inr rfl))) (fun _ _ _ _ _ => (pe_ixI (ix_tupK K) (pvI 0) pe_intI (fun _ _ => rfl))) (by decide +kernel)) pa_nilI)) pa_nilI))))), ?_⟩
    have hwl := hP.len
    walk_at "rd"
    refine ⟨⟨ws, by walk_at "mv"⟩, comp1 (plain_list (by walk_at "mv" : SqL K _ a ws)) (by omega) (fun i v H => ∀ p, ps[i]? = some p → ShV H v p.1) (fun _ _ _ _ t h p e => (h p e).tup t) (fun i H2 kk hi s2 hk => ?_) (fun E2 ys2 H2 hE2 s2 hE'2 hl2 hr2 => ?_)⟩
    · have ew : ws[i]? = some ws[i] := List.getElem?_eq_getElem hi
      obtain ⟨p, ep, c, vx, vy, ec, hc, hx, hy⟩ := (show PtsV H2 ws ps by walk_at "mv").atV ew
      have ef : (ws[i]?).getD V.non = .ref c := by rw [ew]; exact ec
      rw [ef]
      walk_at "rd"
      refine hk _ _ (L2.Same.refl _) fun p' e' => ?_
      rw [ep] at e'; cases e'
      assumption
    have hq2 : ShL H2 ys2 (ps.map (·.1)) := ShL.map (by omega) hr2
    clear hr2
    refine ⟨E2, ys2, ps.map (·.1), D, m, rfl, SqL.of hE'2, hq2, hD, zD, fun q hq => ?_, hm, by rw [List.length_map]; omega, fun v3 t3 b3 H3 s3 A3 e3 n3 g3 => ?_⟩
    · obtain ⟨p, hp, rfl⟩ := List.mem_map.mp hq
      exact (hdv p hp).1
    rw [List.length_map] at n3
    walk_at "rd"
    refine ⟨⟨ws, by walk_at "mv"⟩, comp1 (plain_list (by walk_at "mv" : SqL K _ a ws)) (by omega) (fun i v H => ∀ p, ps[i]? = some p → ShV H v p.2) (fun _ _ _ _ t h p e => (h p e).tup t) (fun i H4 kk hi s4 hk => ?_) (fun E4 ys4 H4 hE4 s4 hE'4 hl4 hr4 => ?_)⟩
    · have ew : ws[i]? = some ws[i] := List.getElem?_eq_getElem hi
      obtain ⟨p, ep, c, vx, vy, ec, hc, hx, hy⟩ := (show PtsV H4 ws ps by walk_at "mv").atV ew
      have ef : (ws[i]?).getD V.non = .ref c := by rw [ew]; exact ec
      rw [ef]
      walk_at "rd"
      refine hk _ _ (L2.Same.refl _) fun p' e' => ?_
      rw [ep] at e'; cases e'
      assumption
    have hq4 : ShL H4 ys4 (ps.map (·.2)) := ShL.map (by omega) hr4
    clear hr4
    refine ⟨E4, ys4, ps.map (·.2), D, m, rfl, SqL.of hE'4, hq4, hD, zD, fun q hq => ?_, hm, by rw [List.length_map]; omega, fun v5 t5 b5 H5 s5 A5 e5 n5 g5 => ?_⟩
    · obtain ⟨p, hp, rfl⟩ := List.mem_map.mp hq
      exact (hdv p hp).2
    rw [List.length_map] at n5
    walk_at "rd"
    intro c hc
    exact k c v3 v5 t3 b3 t5 b5 _ (by walk_at "sm") upd_same (by walk_at "mv") (by walk_at "mv") e3 e5 n3 n5 g3 g5
theorem ok_halves (F : FunAt K mg "halves" s_halves ["curve"]) (B : Blt mg) : DefOk P w K mg base CX0 1 "halves" ["curve"] spHalves := by
  refine def_okI F sc_halves (fun vs H Q E h => ?_) (fun f cdv A outer s H vs Q E hr h => ?_)
  · obtain ⟨a, ws, c, rfl, _⟩ := h; rfl
  · obtain ⟨a, ws, c, rfl, ha, hP, h12, k⟩ := h
    have hu := hr.units
    refine ⟨_, (pss_consI (ps_parI (i := 1) (j := 2) rfl sc_halves.nd rfl rfl (by decide) rfl rfl (pa_consI (pe_lstI pa_nilI) (pa_consI (pe_lstI pa_nilI) pa_nilI)) rfl)
      (pss_consI (ps_setI (i := 3) sc_halves.nd rfl (by first | exact Or.inl rfl | exact Or.inr rfl) (pvI 0))
      (pss_consI (ps_whileI PassesOwn.never (pt_lstI (pvI 3)) (pss_consI (ps_exprI (pe_bmI PySem.F.plainAttrs_list PySem.F.slot_list_append PySem.F.type_list_append mt_append (pvI 1) (pa_consI (pe_ixI (ix_listK K) (pvI 3) pe_intI (fun _ _ => rfl)) pa_nilI)))
      (pss_consI (ps_exprI (pe_bmI PySem.F.plainAttrs_list PySem.F.slot_list_append PySem.F.type_list_append mt_append (pvI 2) (pa_consI (pe_ixI (ix_listK K) (pvI 3) (pe_unI un_neg pe_intI) (fun _ _ => rfl)) pa_nilI)))
      (pss_oneI (ps_compSI (i := 3) (os := ["x", "y", "u", "v"]) (caps := []) ["curve", "first", "second", "row"] (defScope s_halves) sc_halves.nd rfl rfl (pi_zipI rfl B.zip (pa_consI (pvI 3) (pa_consI (pe_sliceI (sl_listK K) (pvI 3) (po_someI pe_intI) po_noneI) pa_nilI))) (fun _ _ _ _ _ => (pg_tupKI (n := 2) K rfl (pgs_consI (pg_tupKI (n := 2) K rfl (pgs_consI (pg_nameI (i := 0) (show List.Nodup (["x", "y", "u", "v"] : List Str) from by decide +kernel) rfl (by first | exact Or.inl rfl | exact Or.inr rfl)) (pgs_consI (pg_nameI (i := 1) (show List.Nodup (["x", "y", "u", "v"] : List Str) from by decide +kernel) rfl (by first | exact Or.inl rfl | exact Or.inr rfl)) pgs_nilI))) (pgs_consI (pg_tupKI (n := 2) K rfl (pgs_consI (pg_nameI (i := 2) (show List.Nodup (["x", "y", "u", "v"] : List Str) from by decide +kernel) rfl (by first | exact Or.inl rfl | exact Or.inr rfl)) (pgs_consI (pg_nameI (i := 3) (show List.Nodup (["x", "y", "u", "v"] : List Str) from by decide +kernel) rfl (by first | exact Or.inl rfl | exact Or.inr rfl)) pgs_nilI))) pgs_nilI)))) (fun _ _ _ _ _ => (pe_tupI (pa_consI (pe_opI op_fdiv (pe_opI op_add (pvI 0) (pvI 2)) pe_intI) (pa_consI (pe_opI op_fdiv (pe_opI op_add (pvI 1) (pvI 3)) pe_intI) pa_nilI)))) (by decide +kernel))))))
      (pss_oneI (ps_retI (pe_tupI (pa_consI (pvI 1) (pa_consI (pe_backwardI K (pvI 2) (po_someI (pe_unI un_neg pe_intI))) pa_nilI)))))))), ?_⟩
    walk_at "rd"
    intro l1 hl1
    walk_at "rd"
    intro l2 hl2
    refine ⟨_, _, rfl, ?_⟩
    walk_at "rd"
    have n12 : l1 ≠ l2 := fun e => by subst e; rw [upd_same] at hl2; cases hl2
    have na1 : a ≠ l1 := ne_of_none ha hl1
    have hl2' : H l2 = none := (Same.new (o := .lst []) hl1).free hl2
    have na2 : a ≠ l2 := ne_of_none ha hl2'
    have sA : Same H (upd (upd H l1 (.lst [])) l2 (.lst [])) := (Same.new hl1).trans (Same.new hl2)
    have b1 : (upd (upd H l1 (.lst [])) l2 (.lst [])) l1 = some (.lst []) := upd_keep hl2 upd_same
    have b2 : (upd (upd H l1 (.lst [])) l2 (.lst [])) l2 = some (.lst []) := upd_same
    clear hl2
    generalize upd (upd H l1 (.lst [])) l2 (.lst []) = H2 at *
    refine while_by (fun σ H' => ∃ (lr : Addr) (rs us1 us2 : List V) (r : Nat), σ = [some (.ref a), some (.ref l1), some (.ref l2), some (.ref lr)] ∧ Same H H' ∧ H' l1 = some (.lst us1) ∧ H' l2 = some (.lst us2) ∧ H' lr = some (.lst rs) ∧ lr ≠ l1 ∧ lr ≠ l2 ∧ PlsV H' rs (hrow c r) ∧ r ≤ c.length ∧ PlsV H' us1 ((List.range r).map fun r => ((hrow c r)[0]?).getD (0, 0)) ∧ PlsV H' us2 ((List.range r).map fun r => ((hrow c r)[c.length - 1 - r]?).getD (0, 0))) muR ⟨a, ws, [], [], 0, rfl, sA, b1, b2, sA _ _ ha, na1, na2, hP.same sA, by omega, ⟨rfl, fun i v p e => by simp at e⟩, ⟨rfl, fun i v p e => by simp at e⟩⟩ ?_ ?_
    · rintro σ H3 ⟨lr, rs, us1, us2, r, rfl, s3, q1, q2, q3, n1, n2, P3, hr, P1, P2⟩
      have hrl := P3.len
      rw [hrow_len] at hrl
      have mu0 : muR [some (.ref a), some (.ref l1), some (.ref l2), some (.ref lr)] H3 = rs.length := muR_eq q3
      have u1l := P1.len
      have u2l := P2.len
      rw [List.length_map, List.length_range] at u1l u2l
      refine ⟨_, rfl, lr, rs, rfl, q3, ?_⟩
      refine ifB (fun he => ?_) (fun he => ?_)
      · have hlt : r < c.length := by
          cases rs with
          | nil => simp at he
          | cons x xs => simp at hrl; omega
        have e0 : (hrow c r)[0]? = some ((hrow c r)[0]'(by rw [hrow_len]; omega)) := List.getElem?_eq_getElem _
        obtain ⟨a0, w0, g0⟩ := P3.at e0
        obtain ⟨vL, wL, gL⟩ := row_last hlt P3
        refine ⟨_, rfl, .inl ⟨rfl, _, SqL.of q1⟩, ?_⟩
        refine ⟨_, rfl, lr, _, _, _, rfl, rfl, SqL.of q3, atI_nat' (j := 0) rfl w0, ?_⟩
        refine ⟨l1, _, _, rfl, rfl, q1, small_line (by omega), ?_⟩
        have t1 : Tup H3 (upd H3 l1 (.lst (us1 ++ [.ref a0]))) := Tup.lst q1
        have q1' : (upd H3 l1 (.lst (us1 ++ [.ref a0]))) l1 = some (.lst (us1 ++ [.ref a0])) := upd_same
        have q2' : (upd H3 l1 (.lst (us1 ++ [.ref a0]))) l2 = some (.lst us2) := by rw [upd_ne n12.symm]; exact q2
        have q3' : (upd H3 l1 (.lst (us1 ++ [.ref a0]))) lr = some (.lst rs) := by rw [upd_ne n1]; exact q3
        have s3' : Same H (upd H3 l1 (.lst (us1 ++ [.ref a0]))) := same_upd hl1 s3
        have P1' := (P1.snoc (v := .ref a0) (p := ((hrow c r)[0]'(by rw [hrow_len]; omega))) ⟨a0, rfl, g0⟩).tup t1
        have P2' := P2.tup t1
        have P3' := P3.tup t1
        have gL' := gL.tup t1
        clear q1 q2 q3 s3 P1 P2 P3 gL t1
        generalize upd H3 l1 (.lst (us1 ++ [.ref a0])) = H4 at *
        refine ⟨_, rfl, .inl ⟨rfl, _, SqL.of q2'⟩, ?_⟩
        walk_at "rd"
        refine ⟨lr, _, _, _, rfl, rfl, SqL.of q3', atI_last' rs vL wL (by omega), ?_⟩
        refine ⟨l2, _, _, rfl, rfl, q2', small_line (by omega), ?_⟩
        have t2 : Tup H4 (upd H4 l2 (.lst (us2 ++ [vL]))) := Tup.lst q2'
        have c1 : (upd H4 l2 (.lst (us2 ++ [vL]))) l1 = some (.lst (us1 ++ [.ref a0])) := by rw [upd_ne n12]; exact q1'
        have c2 : (upd H4 l2 (.lst (us2 ++ [vL]))) l2 = some (.lst (us2 ++ [vL])) := upd_same
        have c3 : (upd H4 l2 (.lst (us2 ++ [vL]))) lr = some (.lst rs) := by rw [upd_ne n2]; exact q3'
        have s5 : Same H (upd H4 l2 (.lst (us2 ++ [vL]))) := same_upd hl2' s3'
        have R1 := P1'.tup t2
        have R2 := (P2'.snoc (v := vL) (p := ((hrow c r)[c.length - 1 - r]?).getD (0, 0)) gL').tup t2
        have R3 := P3'.tup t2
        clear q1' q2' q3' s3' P1' P2' P3' gL' t2
        generalize upd H4 l2 (.lst (us2 ++ [vL])) = H5 at *
        walk_at "rd"
        refine ⟨lr, _, rfl, SqL.of c3, fun l5 hl5 => ?_⟩
        rw [cut_rest rs (by omega)]
        have s6 : Same H5 (upd H5 l5 (.lst (rs.drop 1))) := Same.new hl5
        refine ⟨_, _, rfl, ⟨_, SqL.of (s6 _ _ c3)⟩, ⟨_, SqL.of upd_same⟩, comp_hv (s6 _ _ c3) (R3.same s6) upd_same (by rw [hrow_len]; omega) (fun H6 kk x y u v s7 hk => ?_) (fun D ys H6 hD s7 hd hP6 => ?_)⟩
        · walk_at "rd"
          intro p hp
          exact hk _ _ (Same.new hp) ⟨p, rfl, upd_same⟩
        have s8 : Same H5 H6 := s6.trans s7
        have d1 := s8 _ _ c1
        have d2 := s8 _ _ c2
        have nD : H5 D = none := s6.free hD
        refine ⟨⟨D, ys, _, _, r + 1, rfl, s5.trans s8, d1, d2, hd, (fun e => by rw [e, c1] at nD; cases nD), (fun e => by rw [e, c2] at nD; cases nD), hP6, by omega, ?_, ?_⟩, ?_⟩
        · rw [range_snoc, e0]; exact R1.same s8
        · rw [range_snoc]; exact R2.same s8
        · show muR [_, _, _, some (.ref D)] H6 < muR [_, _, _, some (.ref lr)] H3
          rw [muR_eq hd, mu0, hP6.len, hvN_len, hrow_len, hrl]; omega
      · have hre : r = c.length := by
          cases rs with
          | nil => simp at hrl; omega
          | cons x xs => simp at he
        subst hre
        walk_at "rd"
        refine ⟨l2, _, rfl, SqL.of q2, fun l6 hl6 => ?_⟩
        walk_at "rd"
        intro p hp
        have s6 := (Same.new (o := .lst us2.reverse) hl6).trans (Same.new (o := .tup [.ref l1, .ref l6]) hp)
        have P2r := P2.rev
        rw [lh_rev] at P2r
        exact k p l1 l6 us1 us2.reverse _ (s3.trans s6) upd_same hl1 (s3.free hl6) (s6 _ _ q1) (upd_keep hp upd_same) (P1.same s6) (P2r.same s6)
    · rintro σ H1 Q1 Q2 hq ⟨v, h1, p, ys, h2, h3, h4⟩
      exact ⟨v, h1, p, ys, h2, h3, hq _ _ h4⟩
theorem ok_halved (F : FunAt K mg "halved" s_halved ["curves"]) (B : Blt mg) (D_halves : DefOk P w K mg base CX0 1 "halves" ["curve"] spHalves) : DefOk P w K mg base CX0 2 "halved" ["curves"] (spHalved K) := by
  refine def_okI F sc_halved (fun vs H Q E h => ?_) (fun f cdv A outer s H vs Q E hr h => ?_)
  · obtain ⟨a, ys, css, rfl, _⟩ := h; rfl
  · obtain ⟨a, ys, css, rfl, ha, hC, hn, hc, k⟩ := h
    have hu := hr.units
    refine ⟨_, (pss_oneI (ps_retI (pe_comp2SI (os := ["curve", "half"]) (caps := []) ["curves"] (defScope s_halved) (pi_listI (pvI 0)) (fun _ _ _ _ _ => (pg_nameI (i := 0) (show List.Nodup (["curve", "half"] : List Str) from by decide +kernel) rfl (by first | exact Or.inl rfl | exact Or.inr rfl))) (fun _ _ _ _ _ => (pi_tupKI K (pe_fnI D_halves hr pass0 (pa_consI (pvI 0) pa_nilI)))) (fun _ _ _ _ _ => (pg_nameI (i := 1) (show List.Nodup (["curve", "half"] : List Str) from by decide +kernel) rfl (by first | exact Or.inl rfl | exact Or.inr rfl))) (fun _ _ _ _ _ => (pvI 1)) (by decide +kernel)))), ?_⟩
    walk_at "rd"
    refine ⟨⟨_, SqL.of ha⟩, halved_goal ha hC hn (fun l us c o H2 R hm hl hP hR => ?_) (fun v o H2 kk hk => ?_) (fun D zs H2 hD s2 hd hCs => ?_)⟩
    · walk_at "rd"
      refine ⟨l, us, c, rfl, hl, hP, hc c hm, fun p l1 l2 u1 u2 H3 s3 hp f1 f2 g1 g2 P1 P2 => ?_⟩
      walk_at "rd"
      exact ⟨⟨_, SqT.of hp⟩, hR p l1 l2 u1 u2 H3 s3 hp f1 f2 g1 g2 P1 P2⟩
    · walk_at "rd"
      exact hk
    · exact k D zs H2 s2 hD hd hCs
theorem ok_share_over (F : FunAt K mg "share_over" s_share_over ["top", "bottoms"]) (B : Blt mg) (D_greatest_common : DefOk P w K mg base CX0 1 "greatest_common" ["one", "other"] spGcd) : DefOk P w K mg base CX0 2 "share_over" ["top", "bottoms"] (spOverAll K) := by
  refine def_okI F sc_share_over (fun vs H Q E h => ?_) (fun f cdv A outer s H vs Q E hr h => ?_)
  · obtain ⟨top, a, bs, rfl, _⟩ := h; rfl
  · obtain ⟨top, a, bs, rfl, hS, hb, hn, k⟩ := h
    have hu := hr.units
    refine ⟨_, (pss_consI (ps_setI (i := 2) sc_share_over.nd rfl (by first | exact Or.inl rfl | exact Or.inr rfl) pe_intI)
      (pss_consI (ps_forI PassesOwn.never rfl (pi_listI (pvI 1)) (pg_nameI (i := 3) sc_share_over.nd rfl (by first | exact Or.inl rfl | exact Or.inr rfl))
      (pss_consI (ps_setI (i := 4) sc_share_over.nd rfl (by first | exact Or.inl rfl | exact Or.inr rfl) (pe_fnI D_greatest_common hr pass0 (pa_consI (pvI 0) (pa_consI (pvI 3) pa_nilI))))
      (pss_oneI (ps_parI (i := 0) (j := 2) rfl sc_share_over.nd rfl rfl (by decide) rfl rfl (pa_consI (pe_opI op_fdivB (pvI 0) (pvI 4)) (pa_consI (pe_opI op_mulA (pvI 2) (pe_opI op_fdivB (pvI 3) (pvI 4))) pa_nilI)) rfl))))
      (pss_oneI (ps_retI (pe_tupI (pa_consI (pvI 0) (pa_consI (pvI 2) pa_nilI))))))), ?_⟩
    walk_at "rd"
    refine ⟨⟨_, hS⟩, for_list (xs := bs.map V.int) (fun i σ H' => ∃ (y1 y2 : Option V) (T B : Int), σ = [some (.int T), some (.ref a), some (.int B), y1, y2] ∧ 0 < B ∧ Int.gcd T B = 1 ∧ T * prodI (bs.take i) = top * B ∧ Sz (9000 * i + 1) B ∧ H' = H) ⟨none, none, top, 1, rfl, by decide, by simp, by simp [prodI], ⟨by decide⟩, rfl⟩ ?_ ?_ ?_⟩
    · rintro i σ H' hi ⟨y1, y2, T, B, rfl, hB, hg, he, hz, rfl⟩
      exact hS
    · rintro i x σ H' hx ⟨y1, y2, T, B, rfl, hB, hg, he, hz, rfl⟩
      obtain ⟨b, eb, rfl⟩ := ints_at hx
      have hi : i < bs.length := (List.getElem?_eq_some_iff.mp eb).1
      obtain ⟨b0, zb⟩ := hb b (List.mem_of_getElem? eb)
      obtain ⟨g1, g2, g3, g4, g5⟩ := over_step b0 hB hg
      have zg : Sz 9000 (Int.gcd T b : Int) := sz_dvd (by omega) g5 zb
      have zq : Sz 9000 (b.fdiv (Int.gcd T b)) := quo_sz b0 g4 g5 zb
      walk_at "rd"
      refine ⟨T, b, rfl, ?_⟩
      walk_at "rd"
      refine ⟨⟨by omega, zg⟩, ?_⟩
      walk_at "rd"
      refine ⟨⟨by omega, zg⟩, ?_⟩
      refine ⟨_, _, rfl, rfl, mulN hz zq (by omega), ?_⟩
      refine ⟨_, _, rfl, _, _, _, _, rfl, g2, g1, ?_, (hz.mul zq).mono (by omega), rfl⟩
      rw [take_snoc eb, prodI_snoc]
      have e1 : T.fdiv (Int.gcd T b) * (prodI (bs.take i) * b) = (T.fdiv (Int.gcd T b) * b) * prodI (bs.take i) := by grind
      rw [e1, g3]
      have e2 : T * b.fdiv (Int.gcd T b) * prodI (bs.take i) = (T * prodI (bs.take i)) * b.fdiv (Int.gcd T b) := by grind
      rw [e2, he]; grind
    · rintro σ H' ⟨y1, y2, T, B, rfl, hB, hg, he, hz, rfl⟩
      rw [List.length_map, List.take_length] at he
      walk_at "rd"
      intro p hp
      have hu := low_unique hB (prodI_pos fun b hb' => (hb b hb').1) hg he
      refine k _ _ (Same.new hp) ⟨p, rfl, ?_⟩
      rw [upd_same, hu.1, hu.2]
theorem ok_points_of (F : FunAt K mg "points_of" s_points_of ["xs", "ys"]) (B : Blt mg) (D_share_over : DefOk P w K mg base CX0 2 "share_over" ["top", "bottoms"] (spOverAll K)) : DefOk P w K mg base CX0 3 "points_of" ["xs", "ys"] spPointsOf := by
  refine def_okI F sc_points_of (fun vs H Q E h => ?_) (fun f cdv A outer s H vs Q E hr h => ?_)
  · obtain ⟨x, y, n, t1, b1, t2, b2, rfl, _⟩ := h; rfl
  · obtain ⟨_, _, n, t1, b1, t2, b2, rfl, ⟨a1, lt1, lb1, rfl, h1, ht1, hb1, z1, g1, n1, m1⟩, ⟨a2, lt2, lb2, rfl, h2, ht2, hb2, z2, g2, n2, m2⟩, h12, k⟩ := h
    have hu := hr.units
    refine ⟨_, (pss_oneI (ps_retI (pe_compSI (os := ["x", "y"]) (caps := [(0, "xs"), (1, "ys")]) ["xs", "ys"] (defScope s_points_of) (pi_zipI rfl B.zip (pa_consI (pe_ixI (ix_tupK K) (pvI 0) pe_intI (fun _ _ => rfl)) (pa_consI (pe_ixI (ix_tupK K) (pvI 1) pe_intI (fun _ _ => rfl)) pa_nilI))) (fun _ _ _ _ _ => (pg_tupKI (n := 2) K rfl (pgs_consI (pg_nameI (i := 0) (show List.Nodup (["x", "y", "xs", "ys"] : List Str) from by decide +kernel) rfl (by first | exact Or.inl rfl | exact Or.inr rfl)) (pgs_consI (pg_nameI (i := 1) (show List.Nodup (["x", "y", "xs", "ys"] : List Str) from by decide +kernel) rfl (by first | exact Or.inl rfl | exact Or.inr rfl)) pgs_nilI)))) (fun _ _ _ _ _ => (pe_tupI (pa_consI (pe_fnI D_share_over hr pass0 (pa_consI (pvI 0) (pa_consI (pe_ixI (ix_tupK K) (pvI 2) pe_intI (fun _ _ => rfl)) pa_nilI))) (pa_consI (pe_fnI D_share_over hr pass0 (pa_consI (pvI 1) (pa_consI (pe_ixI (ix_tupK K) (pvI 3) pe_intI (fun _ _ => rfl)) pa_nilI))) pa_nilI)))) (by decide +kernel)))), ?_⟩
    walk_at "rd"
    refine ⟨_, _, rfl, ⟨_, SqL.of ht1⟩, ⟨_, SqL.of ht2⟩, comp2 (plain_zip (SqL.of ht1) (SqL.of ht2)) (by rw [List.length_map, List.length_map]; omega) (fun i v H => ∀ x y, t1[i]? = some x → t2[i]? = some y → PtV H v (Rat.divInt x (prodI b1)) (Rat.divInt y (prodI b2))) (fun _ _ _ _ t h x y e f => (h x y e f).tup t) (fun i H2 kk hi s2 hk => ?_) (fun D us H2 hD s2 hD2 hl hr => ?_)⟩
    · rw [List.length_map, List.length_map] at hi
      have e1 : t1[i]? = some (t1[i]'(by omega)) := List.getElem?_eq_getElem _
      have e2 : t2[i]? = some (t2[i]'(by omega)) := List.getElem?_eq_getElem _
      rw [int_at e1, int_at e2]
      walk_at "rd"
      refine ⟨_, lb1, b1, rfl, SqL.of (by walk_at "hf"), g1, n1, fun v3 H3 s3 w3 => ?_⟩
      walk_at "rd"
      refine ⟨_, lb2, b2, rfl, SqL.of (by walk_at "hf"), g2, n2, fun v4 H4 s4 w4 => ?_⟩
      walk_at "rd"
      intro p hp
      refine hk _ _ (by walk_at "sm") fun x y ex ey => ?_
      rw [e1] at ex; rw [e2] at ey
      cases ex; cases ey
      exact ⟨p, v3, v4, rfl, upd_same, (w3.same s4).same (Same.new hp), w4.same (Same.new hp)⟩
    · rw [List.length_map, List.length_map] at hl
      obtain ⟨ps, q1, q2, q3⟩ := pts_zip (b1 := b1) (b2 := b2) (show us.length = t1.length by omega) h12 hr
      exact k D us ps H2 s2 hD hD2 q1 q2 q3
theorem ok_room_for (F : FunAt K mg "room_for" s_room_for ["seats", "level"]) (B : Blt mg) : DefOk P w K mg base CX0 1 "room_for" ["seats", "level"] spRoom := by
  refine def_okI F sc_room_for (fun vs H Q E h => ?_) (fun f cdv A outer s H vs Q E hr h => ?_)
  · obtain ⟨n, L, rfl, _⟩ := h; rfl
  · obtain ⟨n, L, rfl, h1, h2, h3, k⟩ := h
    have hu := hr.units
    refine ⟨_, (pss_oneI (ps_retI (pe_opI op_shl pe_intI (pe_opI op_mulA (pvI 1) (pe_opI op_sub (pvI 0) pe_intI))))), ?_⟩
    walk_at "rd"
    have e : (L : Int) * ((n : Int) - 1) = ((L * (n - 1) : Nat) : Int) := by
      rw [show (n : Int) - 1 = ((n - 1 : Nat) : Int) by omega]; exact (Int.natCast_mul L (n - 1)).symm
    have m1 : L * (n - 1) ≤ 1000 * 1000 := Nat.mul_le_mul (by omega) (by omega)
    refine ⟨⟨by show (0 : Int) ≤ (L : Int) * ((n : Int) - 1); omega, by show (L : Int) * ((n : Int) - 1) ≤ 1000000; omega, by decide⟩, ?_⟩
    show Q (.int (1 * 2 ^ ((L : Int) * ((n : Int) - 1)).toNat)) H
    rw [e, Int.toNat_natCast, Int.one_mul]
    exact k
theorem ok_whole_curve (F : FunAt K mg "whole_curve" s_whole_curve ["xs", "ys", "room"]) (B : Blt mg) : DefOk P w K mg base CX0 1 "whole_curve" ["xs", "ys", "room"] spWhole2 := by
  refine def_okI F sc_whole_curve (fun vs H Q E h => ?_) (fun f cdv A outer s H vs Q E hr h => ?_)
  · obtain ⟨x, y, n, t1, b1, t2, b2, R, rfl, _⟩ := h; rfl
  · obtain ⟨_, _, n, t1, b1, t2, b2, R, rfl, ⟨a1, lt1, lb1, rfl, h1, ht1, hb1, z1, g1, n1, m1⟩, ⟨a2, lt2, lb2, rfl, h2, ht2, hb2, z2, g2, n2, m2⟩, h12, zR, hn, k⟩ := h
    have hu := hr.units
    refine ⟨_, (pss_oneI (ps_retI (pe_compSI (os := ["x", "y"]) (caps := [(2, "room")]) ["xs", "ys", "room"] (defScope s_whole_curve) (pi_zipI rfl B.zip (pa_consI (pe_ixI (ix_tupK K) (pvI 0) pe_intI (fun _ _ => rfl)) (pa_consI (pe_ixI (ix_tupK K) (pvI 1) pe_intI (fun _ _ => rfl)) pa_nilI))) (fun _ _ _ _ _ => (pg_tupKI (n := 2) K rfl (pgs_consI (pg_nameI (i := 0) (show List.Nodup (["x", "y", "room"] : List Str) from by decide +kernel) rfl (by first | exact Or.inl rfl | exact Or.inr rfl)) (pgs_consI (pg_nameI (i := 1) (show List.Nodup (["x", "y", "room"] : List Str) from by decide +kernel) rfl (by first | exact Or.inl rfl | exact Or.inr rfl)) pgs_nilI)))) (fun _ _ _ _ _ => (pe_tupI (pa_consI (pe_opI op_mulA (pvI 0) (pvI 2)) (pa_consI (pe_opI op_mulA (pvI 1) (pvI 2)) pa_nilI)))) (by decide +kernel)))), ?_⟩
    walk_at "rd"
    refine ⟨_, _, rfl, ⟨_, SqL.of ht1⟩, ⟨_, SqL.of ht2⟩, comp2 (plain_zip (SqL.of ht1) (SqL.of ht2)) (by rw [List.length_map, List.length_map]; omega) (fun i v H => ∀ x y, t1[i]? = some x → t2[i]? = some y → RwV H v (x * R) (y * R)) (fun _ _ _ _ t h x y e f => (h x y e f).tup t) (fun i H2 kk hi s2 hk => ?_) (fun D us H2 hD s2 hD2 hl hr => ?_)⟩
    · rw [List.length_map, List.length_map] at hi
      have e1 : t1[i]? = some (t1[i]'(by omega)) := List.getElem?_eq_getElem _
      have e2 : t2[i]? = some (t2[i]'(by omega)) := List.getElem?_eq_getElem _
      rw [int_at e1, int_at e2]
      have c1 := z1 _ (List.mem_of_getElem? e1)
      have c2 := z2 _ (List.mem_of_getElem? e2)
      walk_at "rd"
      refine ⟨mulN c1 zR (by omega), ?_⟩
      walk_at "rd"
      refine ⟨mulN c2 zR (by omega), ?_⟩
      walk_at "rd"
      intro p hp
      refine hk _ _ (by walk_at "sm") fun x y ex ey => ?_
      rw [e1] at ex; rw [e2] at ey
      cases ex; cases ey
      exact ⟨p, rfl, upd_same⟩
    · rw [List.length_map, List.length_map] at hl
      refine k D us H2 s2 hD hD2 ⟨by unfold wcI; rw [List.length_zipWith]; exact hl, fun i v p e1 e2 => ?_⟩
      have hi : i < us.length := (List.getElem?_eq_some_iff.mp e1).1
      have f1 : t1[i]? = some (t1[i]'(by omega)) := List.getElem?_eq_getElem _
      have f2 : t2[i]? = some (t2[i]'(by omega)) := List.getElem?_eq_getElem _
      unfold wcI at e2
      rw [List.getElem?_zipWith, f1, f2] at e2
      cases e2
      exact hr i v e1 _ _ f1 f2
theorem ok_stretches (F : FunAt K mg "stretches" s_stretches ["curve", "level"]) (B : Blt mg) (D_axes : DefOk P w K mg base CX0 4 "axes" ["points"] (spAxesD K)) (D_halved : DefOk P w K mg base CX0 2 "halved" ["curves"] (spHalved K)) (D_points_of : DefOk P w K mg base CX0 3 "points_of" ["xs", "ys"] spPointsOf) (D_room_for : DefOk P w K mg base CX0 1 "room_for" ["seats", "level"] spRoom) (D_whole_curve : DefOk P w K mg base CX0 1 "whole_curve" ["xs", "ys", "room"] spWhole2) : DefOk P w K mg base CX0 5 "stretches" ["curve", "level"] (spStretches K) := by
  refine def_okI F sc_stretches (fun vs H Q E h => ?_) (fun f cdv A outer s H vs Q E hr h => ?_)
  · obtain ⟨a, ws, ps, D, m, z, L, rfl, _⟩ := h; rfl
  · obtain ⟨a, ws, ps, D, m, z, L, rfl, ha, hP, h1, h12, hD, zD, hz, hm, hov, hL, hLn, k⟩ := h
    have hu := hr.units
    refine ⟨_, (pss_consI (ps_asgI (pe_fnI D_axes hr pass0 (pa_consI (pvI 0) pa_nilI)) (pg_tupKI (n := 2) K rfl (pgs_consI (pg_nameI (i := 2) sc_stretches.nd rfl (by first | exact Or.inl rfl | exact Or.inr rfl)) (pgs_consI (pg_nameI (i := 3) sc_stretches.nd rfl (by first | exact Or.inl rfl | exact Or.inr rfl)) pgs_nilI))))
      (pss_consI (ps_setI (i := 4) sc_stretches.nd rfl (by first | exact Or.inl rfl | exact Or.inr rfl) (pe_fnI D_room_for hr pass0 (pa_consI (pe_callBI (call_lenK K) (by rfl) B.len PySem.boot_len (pa_consI (pvI 0) pa_nilI)) (pa_consI (pvI 1) pa_nilI))))
      (pss_consI (ps_setI (i := 5) sc_stretches.nd rfl (by first | exact Or.inl rfl | exact Or.inr rfl) (pe_lstI (pa_consI (pe_fnI D_whole_curve hr pass0 (pa_consI (pvI 2) (pa_consI (pvI 3) (pa_consI (pvI 4) pa_nilI)))) pa_nilI)))
      (pss_consI (ps_forI PassesOwn.never rfl (pi_range1I rfl B.range (pa_consI (pvI 1) pa_nilI)) (pg_nameI (i := 6) sc_stretches.nd rfl (by first | exact Or.inl rfl | exact Or.inr rfl))
      (pss_oneI (ps_setI (i := 5) sc_stretches.nd rfl (by first | exact Or.inl rfl | exact Or.inr rfl) (pe_fnI D_halved hr pass0 (pa_consI (pvI 5) pa_nilI)))))
      (pss_oneI (ps_retI (pe_compSI (os := ["part"]) (caps := [(2, "xs"), (4, "room"), (3, "ys")]) ["curve", "level", "xs", "ys", "room", "found", "depth"] (defScope s_stretches) (pi_listI (pvI 5)) (fun _ _ _ _ _ => (pg_nameI (i := 0) (show List.Nodup (["part", "xs", "room", "ys"] : List Str) from by decide +kernel) rfl (by first | exact Or.inl rfl | exact Or.inr rfl))) (fun _ _ _ _ _ => (pe_fnI D_points_of hr pass0 (pa_consI (pe_tupI (pa_consI (pe_comp0I (os := ["x", "y"]) (pi_listKI K (pvI 0)) (fun _ _ _ _ _ => (pg_tupKI (n := 2) K rfl (pgs_consI (pg_nameI (i := 0) (show List.Nodup (["x", "y"] : List Str) from by decide +kernel) rfl (by first | exact Or.inl rfl | exact Or.inr rfl)) (pgs_consI (pg_nameI (i := 1) (show List.Nodup (["x", "y"] : List Str) from by decide +kernel) rfl (by first | exact Or.inl rfl | exact Or.inr rfl)) pgs_nilI)))) (fun _ _ _ _ _ => (pvI 0)) (by decide +kernel)) (pa_consI (pe_opI op_cat (pe_ixI (ix_tupK K) (pvI 1) pe_intI (fun _ _ => rfl)) (pe_lstI (pa_consI (pvI 2) pa_nilI))) pa_nilI))) (pa_consI (pe_tupI (pa_consI (pe_comp0I (os := ["x", "y"]) (pi_listKI K (pvI 0)) (fun _ _ _ _ _ => (pg_tupKI (n := 2) K rfl (pgs_consI (pg_nameI (i := 0) (show List.Nodup (["x", "y"] : List Str) from by decide +kernel) rfl (by first | exact Or.inl rfl | exact Or.inr rfl)) (pgs_consI (pg_nameI (i := 1) (show List.Nodup (["x", "y"] : List Str) from by decide +kernel) rfl (by first | exact Or.inl rfl | exact Or.inr rfl)) pgs_nilI)))) (fun _ _ _ _ _ => (pvI 1)) (by decide +kernel)) (pa_consI (pe_opI op_cat (pe_ixI (ix_tupK K) (pvI 3) pe_intI (fun _ _ => rfl)) (pe_lstI (pa_consI (pvI 2) pa_nilI))) pa_nilI))) pa_nilI)))) (by decide +kernel)))))))), ?_⟩
    have hwl := hP.len
    walk_at "rd"
    refine ⟨a, ws, ps, D, 400, rfl, SqL.of ha, hP, hD, zD.mono (by omega), fun p hp => ?_, by omega, by omega, fun c x y t1 b1 t2 b2 H1 s1 hc A1 A2 e1 e2 n1 n2 g1 g2 => ?_⟩
    · obtain ⟨o1, o2⟩ := hov p hp
      obtain ⟨b1, b2⟩ := ovp_bd4 hD zD ⟨o1, o2⟩ 400 (by omega) (by omega)
      exact ⟨⟨den_dvd o1, b1⟩, den_dvd o2, b2⟩
    have l1 : t1.length = ps.length := by have := congrArg List.length e1; rw [axR_len, List.length_map] at this; exact this
    have l2 : t2.length = ps.length := by have := congrArg List.length e2; rw [axR_len, List.length_map] at this; exact this
    have W1 : 0 < prodI b1 := by obtain ⟨_, _, _, _, _, _, _, _, zz, _⟩ := id A1; exact prodI_pos fun b hb => (zz b hb).1
    have W2 : 0 < prodI b2 := by obtain ⟨_, _, _, _, _, _, _, _, zz, _⟩ := id A2; exact prodI_pos fun b hb => (zz b hb).1
    refine ⟨c, _, rfl, SqT.of hc, rfl, _, _, rfl, _, _, rfl, rfl, ?_⟩
    walk_at "rd"
    refine ⟨ws.length, L, rfl, by omega, by omega, by omega, ?_⟩
    rw [hwl]
    have eKK : ∃ KK, KK = L * (ps.length - 1) := ⟨_, rfl⟩
    obtain ⟨KK, eK⟩ := eKK
    rw [← eK]
    have hKK : KK ≤ 40 := by omega
    have R0 : (0 : Int) < 2 ^ KK := pow_posI KK
    have zR : Sz 41 ((2 : Int) ^ KK) := (pow_szI KK).mono (by omega)
    have T1 : ∀ x ∈ t1, Sz m x := tops_sz W1 hD g1 e1 fun q hq => by obtain ⟨p, hp, rfl⟩ := List.mem_map.mp hq; exact (hov p hp).1
    have T2 : ∀ x ∈ t2, Sz m x := tops_sz W2 hD g2 e2 fun q hq => by obtain ⟨p, hp, rfl⟩ := List.mem_map.mp hq; exact (hov p hp).2
    have C0 := wc_toP (R := 2 ^ KK) (by omega) e1 e2
    have C1 := wc_dvs KK t1 t2
    have C2 := wc_sz (k := KK) T1 T2
    generalize hRR : (2 : Int) ^ KK = R at *
    walk_at "rd"
    refine ⟨x, y, _, t1, b1, t2, b2, R, rfl, A1, A2, by omega, zR.mono (by decide), by omega, fun l3 u3 H3 s3 hl3 hu3 hP3 => ?_⟩
    generalize hcc : wcI R t1 t2 = c0 at *
    have hc0l : c0.length = ps.length := by rw [← C0, toP_len]
    walk_at "rd"
    intro lf hlf
    have s4 : Same H1 (upd H3 lf (.lst [.ref l3])) := s3.trans (Same.new hlf)
    have hC4 : CsV (upd H3 lf (.lst [.ref l3])) none [.ref l3] (lvI c0 0) := ⟨rfl, fun i v e e1 e2 => by
      cases i with
      | zero => cases e1; cases e2; exact ⟨l3, u3, rfl, (fun z => by cases z), upd_keep hlf hu3, hP3.same (Same.new hlf)⟩
      | succ i => simp at e1⟩
    have hf4 : (upd H3 lf (.lst [.ref l3])) lf = some (.lst [.ref l3]) := upd_same
    clear hlf s3 hu3 hP3
    generalize upd H3 lf (.lst [.ref l3]) = H4 at *
    have LV := fun d hd => lv_all (L := L) (d := d) h1 C0 C2 hd (by rw [← eK]; exact C1)
    walk_at "rd"
    refine ⟨by omega, by omega, for_range (fun i σ H' => ∃ (lf : Addr) (ys : List V) (o : Option V), σ = [some (.ref a), some (.int (L : Int)), some x, some y, some (.int R), some (.ref lf), o] ∧ Same H4 H' ∧ H' lf = some (.lst ys) ∧ CsV H' none ys (lvI c0 i)) ⟨lf, _, none, rfl, L2.Same.refl _, hf4, hC4⟩ ?_ ?_⟩
    · rintro i σ H5 hi ⟨lf', ys', o, rfl, s5, hf5, hC5⟩
      have hi' : i < L := by omega
      have lv := LV i (by omega)
      have p6 : (2 : Nat) ^ i ≤ 2 ^ 6 := Nat.pow_le_pow_right (by decide) (by omega)
      walk_at "rd"
      refine ⟨lf', ys', lvI c0 i, rfl, hf5, hC5, by rw [lvI_len]; omega, fun e he => by have := lv.len e he; omega, fun l6 u6 H6 s6 h60 h6 hC6 => ?_⟩
      exact ⟨l6, u6, _, rfl, s5.trans s6, h6, hC6⟩
    rintro σ H5 ⟨lf', ys', o, rfl, s5, hf5, hC5⟩
    rw [Int.toNat_natCast] at hC5
    have lv := LV L (by omega)
    rw [Nat.sub_self, Nat.zero_mul] at lv
    have hyl := hC5.len
    rw [lvI_len] at hyl
    have p6 : (2 : Nat) ^ L ≤ 2 ^ 6 := Nat.pow_le_pow_right (by decide) (by omega)
    have sH : Same H H5 := (s1.trans s4).trans s5
    have A1' := (A1.same s4).same s5
    have A2' := (A2.same s4).same s5
    clear s4 s5 hC4 hf4 hc A1 A2
    walk_at "rd"
    refine ⟨⟨_, SqL.of hf5⟩, compL (plain_list (SqL.of hf5)) (by omega) (fun i xs H => ∀ ci, (lvI c0 L)[i]? = some ci → PtsV H xs (toP (prodI b1 * R) (prodI b2 * R) ci)) (fun _ _ _ _ tt h ci e => (h ci e).tup tt) (fun i H6 kk hi s6 hk => ?_) (fun l us H6 hl0 s6 hl hln hLs => ?_)⟩
    · have hi' : i < 2 ^ L := by omega
      have eci : (lvI c0 L)[i]? = some ((lvI c0 L)[i]'(by rw [lvI_len]; exact hi')) := List.getElem?_eq_getElem _
      obtain ⟨lp, up, elp, hlp, hPlp⟩ := (hC5.same s6).at eci
      have hcil := lv.len _ (List.mem_of_getElem? eci)
      have hciz := lv.sz _ (List.mem_of_getElem? eci)
      generalize (lvI c0 L)[i]'(by rw [lvI_len]; exact hi') = ci at *
      rw [elp]
      obtain ⟨ax, ltx, lbx, rfl, hax, htx, hbx, zx, gx, nx, mx⟩ := A1'.same s6
      obtain ⟨ay, lty, lby, rfl, hay, hty, hby, zy, gy, ny, my⟩ := A2'.same s6
      walk_at "rd"
      refine ⟨⟨_, SqL.of hlp⟩, comp2 (plain_pls (SqL.of hlp) hPlp) (by omega) (fun i v _ => v = .int ((ci[i]?).getD (0, 0)).1) (fun _ _ _ _ _ h => h) (fun i H5 k5 hi s5 hk5 => ?_) (fun D1 us1 G1 hD1 sD1 hd1 hul1 hr1 => ?_)⟩
      · walk_at "rd"
        exact hk5 _ _ (L2.Same.refl _) rfl
      have eu1 : us1 = (ci.map (·.1)).map V.int := ints_of hul1 fun i v e q eq => by rw [hr1 i v e, eq]; rfl
      subst eu1
      have d1 := sD1
      have hbx1 := sD1 _ _ hbx
      have hlp1 := sD1 _ _ hlp
      have hP1 := hPlp.same sD1
      have hax1 := sD1 _ _ hax
      have hay1 := sD1 _ _ hay
      have hby1 := sD1 _ _ hby
      clear hlp hPlp hax hay hbx hby htx hty hul1 hr1
      walk_at "rd"
      intro r1 hr1
      refine ⟨lbx, r1, _, _, rfl, rfl, upd_keep hr1 hbx1, upd_same, Nat.le_of_lt (small_line (by rw [List.length_map, List.length_singleton]; omega)), fun q1 hq1 => ?_⟩
      rw [show (b1.map V.int ++ [V.int R]) = (b1 ++ [R]).map V.int by rw [List.map_append]; rfl]
      walk_at "rd"
      intro p1 hp1
      have sP := ((Same.new (o := .lst [V.int R]) hr1).trans (Same.new (o := .lst ((b1 ++ [R]).map V.int)) hq1)).trans (Same.new (o := .tup [.ref D1, .ref q1]) hp1)
      have hp1' : (upd (upd (upd G1 r1 (.lst [.int R])) q1 (.lst ((b1 ++ [R]).map V.int))) p1 (.tup [.ref D1, .ref q1])) p1 = some (.tup [.ref D1, .ref q1]) := upd_same
      have hq1' : (upd (upd (upd G1 r1 (.lst [.int R])) q1 (.lst ((b1 ++ [R]).map V.int))) p1 (.tup [.ref D1, .ref q1])) q1 = some (.lst ((b1 ++ [R]).map V.int)) := upd_keep hp1 upd_same
      replace hd1 := sP _ _ hd1
      replace hlp1 := sP _ _ hlp1
      replace hP1 := hP1.same sP
      replace hay1 := sP _ _ hay1
      replace hby1 := sP _ _ hby1
      have s7 := sD1.trans sP
      clear hr1 hq1 hp1 hbx1 hax1 sP sD1 d1
      generalize upd (upd (upd G1 r1 (.lst [.int R])) q1 (.lst ((b1 ++ [R]).map V.int))) p1 (.tup [.ref D1, .ref q1]) = G2 at *
      walk_at "rd"
      refine ⟨⟨_, SqL.of hlp1⟩, comp2 (plain_pls (SqL.of hlp1) hP1) (by omega) (fun i v _ => v = .int ((ci[i]?).getD (0, 0)).2) (fun _ _ _ _ _ h => h) (fun i H5 k5 hi s5 hk5 => ?_) (fun D2 us2 G2 hD2 sD2 hd2 hul2 hr2 => ?_)⟩
      · walk_at "rd"
        exact hk5 _ _ (L2.Same.refl _) rfl
      have eu2 : us2 = (ci.map (·.2)).map V.int := ints_of hul2 fun i v e q eq => by rw [hr2 i v e, eq]; rfl
      subst eu2
      have hq2' := sD2 _ _ hq1'
      have hp2' := sD2 _ _ hp1'
      have hd2' := sD2 _ _ hd1
      replace hay1 := sD2 _ _ hay1
      replace hby1 := sD2 _ _ hby1
      clear hlp1 hP1 hul2 hr2 hd1 hp1' hq1'
      walk_at "rd"
      intro r2 hr2
      refine ⟨lby, r2, _, _, rfl, rfl, upd_keep hr2 hby1, upd_same, Nat.le_of_lt (small_line (by rw [List.length_map, List.length_singleton]; omega)), fun q2 hq2 => ?_⟩
      rw [show (b2.map V.int ++ [V.int R]) = (b2 ++ [R]).map V.int by rw [List.map_append]; rfl]
      walk_at "rd"
      intro p2 hp2
      have sP := ((Same.new (o := .lst [V.int R]) hr2).trans (Same.new (o := .lst ((b2 ++ [R]).map V.int)) hq2)).trans (Same.new (o := .tup [.ref D2, .ref q2]) hp2)
      have zb1 : ∀ b ∈ b1 ++ [R], 0 < b ∧ Sz 9000 b := fun b hb => by
        rcases List.mem_append.mp hb with hb | hb
        · exact gx b hb
        · rw [List.mem_singleton.mp hb]; exact ⟨R0, zR.mono (by decide)⟩
      have zb2 : ∀ b ∈ b2 ++ [R], 0 < b ∧ Sz 9000 b := fun b hb => by
        rcases List.mem_append.mp hb with hb | hb
        · exact gy b hb
        · rw [List.mem_singleton.mp hb]; exact ⟨R0, zR.mono (by decide)⟩
      refine ⟨.ref p1, .ref p2, m + (KK + 1), ci.map (·.1), b1 ++ [R], ci.map (·.2), b2 ++ [R], rfl, ⟨p1, D1, q1, rfl, sP _ _ hp2', sP _ _ hd2', sP _ _ hq2', (fun x hx => by obtain ⟨p, hp, rfl⟩ := List.mem_map.mp hx; exact (hciz p hp).1), zb1, by rw [List.length_append, List.length_singleton]; omega, by rw [List.length_map]; omega⟩, ⟨p2, D2, q2, rfl, upd_same, sP _ _ hd2, upd_keep hp2 upd_same, (fun x hx => by obtain ⟨p, hp, rfl⟩ := List.mem_map.mp hx; exact (hciz p hp).2), zb2, by rw [List.length_append, List.length_singleton]; omega, by rw [List.length_map]; omega⟩, by rw [List.length_map, List.length_map], fun lz uz pz H9 s9 hz0 hlz hPz ez1 ez2 => ?_⟩
      have s10 : Same H6 H9 := ((s7.trans sD2).trans sP).trans s9
      refine hk lz uz H9 s10 (((s7.trans sD2).trans sP).free hz0) hlz fun ci' e => ?_
      rw [eci] at e
      cases e
      have : pz = toP (prodI b1 * R) (prodI b2 * R) ci := pairs_eq ez1 ez2 (by rw [toP_fst, axR_snoc]) (by rw [toP_snd, axR_snoc])
      rw [← this]; exact hPz
    refine k l us (fun i => toP (prodI b1 * R) (prodI b2 * R) (((lvI c0 L)[i]?).getD [])) H6 (sH.trans s6) (sH.free hl0) hl (by omega) ((hLs.base sH).mono fun i xs hi e => ?_) fun i hi => ?_
    · have hi' : i < 2 ^ L := by omega
      have eci : (lvI c0 L)[i]? = some ((lvI c0 L)[i]'(by rw [lvI_len]; exact hi')) := List.getElem?_eq_getElem _
      show PtsV H6 xs (toP _ _ (((lvI c0 L)[i]?).getD []))
      have q := e _ eci
      rw [eci]; exact q
    have eci : (lvI c0 L)[i]? = some ((lvI c0 L)[i]'(by rw [lvI_len]; exact hi)) := List.getElem?_eq_getElem _
    have hm1 := List.mem_of_getElem? eci
    have hpt := lv.pt i _ eci
    have zD1 : Sz z (prodI b1) := sz_dvd (by omega) g1 zD
    have zD2 : Sz z (prodI b2) := sz_dvd (by omega) g2 zD
    have n1' : prodI b1 * R ≠ 0 := by have := Int.mul_pos W1 R0; omega
    have n2' : prodI b2 * R ≠ 0 := by have := Int.mul_pos W2 R0; omega
    rw [eci]
    refine ⟨by rw [Option.getD_some, toP_len]; exact lv.len _ hm1, fun p hp => ?_, hpt⟩
    have q := toP_bd n1' n2' (zD1.mul zR) (zD2.mul zR) (lv.sz _ hm1) p hp
    exact ⟨q.1.mono (by omega), q.2.mono (by omega)⟩
theorem ok_law (F : FunAt K mg "law" s_law ["_law_script"]) (B : Blt mg) (D_l_cell_at : DefOk P w K mg base CX0 1 "_law_cell_at" ["_law_script", "_law_k"] (spCell K)) (D_l_drawn_two : DefOk P w K mg base CX0 3 "_law_drawn_two" ["_law_script", "_law_most"] (spDTwo K)) (D_l_good : DefOk P w K mg base CX0 4 "_law_good" ["_law_found", "_law_curve", "_law_level"] (spGoodS K)) (D_stretches : DefOk P w K mg base CX0 5 "stretches" ["curve", "level"] (spStretches K)) : DefOk P w K mg base CX0 6 "law" ["_law_script"] (spLaw K) := by
  refine def_okI F sc_law (fun vs H Q E h => ?_) (fun f cdv A outer s H vs Q E hr h => ?_)
  · obtain ⟨a, ns, rfl, _⟩ := h; rfl
  · obtain ⟨a, ns, rfl, hS, hlen, k⟩ := h
    have hu := hr.units
    refine ⟨_, (pss_consI (ps_setI (i := 1) sc_law.nd rfl (by first | exact Or.inl rfl | exact Or.inr rfl) (pe_ixI (ix_listK K) (pe_lstI (pa_consI pe_intI (pa_consI pe_intI (pa_consI pe_intI (pa_consI pe_intI (pa_consI pe_intI (pa_consI pe_intI (pa_consI pe_intI (pa_consI pe_intI pa_nilI))))))))) (pe_opI op_mod (pe_fnI D_l_cell_at hr pass0 (pa_consI (pvI 0) (pa_consI pe_intI pa_nilI))) pe_intI) (fun _ _ => rfl)))
      (pss_consI (ps_setI (i := 2) sc_law.nd rfl (by first | exact Or.inl rfl | exact Or.inr rfl) (pe_ixI (ix_listK K) (pe_lstI (pa_consI pe_intI (pa_consI pe_intI (pa_consI pe_intI (pa_consI pe_intI pa_nilI))))) (pe_opI op_mod (pe_opI op_fdiv (pe_fnI D_l_cell_at hr pass0 (pa_consI (pvI 0) (pa_consI pe_intI pa_nilI))) pe_intI) pe_intI) (fun _ _ => rfl)))
      (pss_consI (ps_ifI (pt_cmpRI op_eq (pvI 2) pe_intI (nomark _)) (pss_oneI (ps_setI (i := 1) sc_law.nd rfl (by first | exact Or.inl rfl | exact Or.inr rfl) (pe_opI op_mod (pvI 1) pe_intI))) pss_nilI)
      (pss_consI (ps_ifI (pt_cmpRI op_eq (pe_opI op_mod (pe_opI op_fdiv (pe_fnI D_l_cell_at hr pass0 (pa_consI (pvI 0) (pa_consI pe_intI pa_nilI))) pe_intI) pe_intI) pe_intI (nomark _)) (pss_consI (ps_setI (i := 2) sc_law.nd rfl (by first | exact Or.inl rfl | exact Or.inr rfl) pe_intI)
      (pss_oneI (ps_setI (i := 1) sc_law.nd rfl (by first | exact Or.inl rfl | exact Or.inr rfl) (pe_opI op_add pe_intI (pe_opI op_mod (pe_opI op_fdiv (pe_fnI D_l_cell_at hr pass0 (pa_consI (pvI 0) (pa_consI pe_intI pa_nilI))) pe_intI) pe_intI))))) pss_nilI)
      (pss_consI (ps_forI PassesOwn.never rfl (pi_listI (pe_fnI D_l_drawn_two hr pass0 (pa_consI (pvI 0) (pa_consI (pvI 2) pa_nilI)))) (pg_nameI (i := 3) sc_law.nd rfl (by first | exact Or.inl rfl | exact Or.inr rfl))
      (pss_consI (ps_setI (i := 4) sc_law.nd rfl (by first | exact Or.inl rfl | exact Or.inr rfl) (pe_callTyI call_list_of rfl B.list PyProof.Rows.boot_list (pa_consI (pvI 3) pa_nilI)))
      (pss_consI (ps_setI (i := 5) sc_law.nd rfl (by first | exact Or.inl rfl | exact Or.inr rfl) (pe_fnI D_stretches hr pass0 (pa_consI (pvI 4) (pa_consI (pvI 1) pa_nilI))))
      (pss_consI (ps_ifI (PW_ptI (pw_orI (pt_notI (pt_valI (pe_fnI D_l_good hr pass0 (pa_consI (pvI 5) (pa_consI (pvI 3) (pa_consI (pvI 1) pa_nilI)))))) (pw_or1I (pt_cmpRI (op_neDK K hu) (pvI 4) (pvI 3) (nomark _))))) (pss_oneI (ps_retI pe_blI)) pss_nilI)
      (pss_consI (ps_compSI (i := 6) (os := ["_law_one"]) (caps := []) ["_law_script", "_law_level", "_law_most", "_law_curve", "_law_handed", "_law_found", "_law_kept", "_law_k"] (defScope s_law) sc_law.nd rfl rfl (pi_listI (pvI 5)) (fun _ _ _ _ _ => (pg_nameI (i := 0) (show List.Nodup (["_law_one"] : List Str) from by decide +kernel) rfl (by first | exact Or.inl rfl | exact Or.inr rfl))) (fun _ _ _ _ _ => (pe_callTyI (call_list_ofK K) rfl B.list PyProof.Rows.boot_list (pa_consI (pvI 0) pa_nilI))) (by decide +kernel))
      (pss_consI (ps_forI PassesOwn.never rfl (pi_range1I rfl B.range (pa_consI (pe_callBI (call_lenK K) (by rfl) B.len PySem.boot_len (pa_consI (pvI 5) pa_nilI)) pa_nilI)) (pg_nameI (i := 7) sc_law.nd rfl (by first | exact Or.inl rfl | exact Or.inr rfl))
      (pss_consI (ps_exprI (pe_bm0I PySem.F.plainAttrs_list PySem.F.slot_list_clear PySem.F.type_list_clear mt_clear (pe_ixI (ix_listK K) (pvI 5) (pvI 7) (fun _ _ => rfl))))
      (pss_oneI (ps_ifI (pt_cmpRI (op_neDK K hu) (pe_sliceI (sl_listK K) (pvI 5) (po_someI (pe_opI op_add (pvI 7) pe_intI)) po_noneI) (pe_sliceI (sl_listK K) (pvI 6) (po_someI (pe_opI op_add (pvI 7) pe_intI)) po_noneI) (nomark _)) (pss_oneI (ps_retI pe_blI)) pss_nilI))))
      (pss_consI (ps_exprI (pe_bmI PySem.F.plainAttrs_list PySem.F.slot_list_append PySem.F.type_list_append mt_append (pvI 5) (pa_consI (pe_lstI pa_nilI) pa_nilI)))
      (pss_oneI (ps_ifI (pt_notI (pt_valI (pe_fnI D_l_good hr pass0 (pa_consI (pe_fnI D_stretches hr pass0 (pa_consI (pvI 4) (pa_consI (pvI 1) pa_nilI))) (pa_consI (pvI 3) (pa_consI (pvI 1) pa_nilI)))))) (pss_oneI (ps_retI pe_blI)) pss_nilI)))))))))
      (pss_oneI (ps_retI pe_blI))))))), ?_⟩
    walk_at "rd"
    intro g1 hg1
    walk_at "rd"
    refine ⟨a, ns, 1, rfl, by walk_at "mv", by omega, fun z1 => ?_⟩
    walk_at "rd"
    obtain ⟨v1, hv1, hm1⟩ := atI_lt [V.int 0, V.int 1, V.int 2, V.int 3, V.int 2, V.int 1, V.int 4, V.int 3] (z1 % 8) (by omega) (by show _ < (8 : Int); omega)
    have hL0 : ∃ L : Nat, v1 = V.int (L : Int) ∧ L ≤ 4 := by
      simp only [List.mem_cons, List.not_mem_nil, or_false] at hm1
      rcases hm1 with rfl | rfl | rfl | rfl | rfl | rfl | rfl | rfl
      · exact ⟨0, rfl, by decide⟩
      · exact ⟨1, rfl, by decide⟩
      · exact ⟨2, rfl, by decide⟩
      · exact ⟨3, rfl, by decide⟩
      · exact ⟨2, rfl, by decide⟩
      · exact ⟨1, rfl, by decide⟩
      · exact ⟨4, rfl, by decide⟩
      · exact ⟨3, rfl, by decide⟩
    obtain ⟨L0, rfl, hL0⟩ := hL0
    refine ⟨g1, _, _, _, rfl, rfl, SqL.of upd_same, hv1, ?_⟩
    walk_at "rd"
    intro g2 hg2
    walk_at "rd"
    refine ⟨a, ns, 1, rfl, by walk_at "mv", by omega, fun z2 => ?_⟩
    walk_at "rd"
    obtain ⟨v2, hv2, hm2⟩ := atI_lt [V.int 4, V.int 4, V.int 4, V.int 8] (z2 / 8 % 4) (by omega) (by show _ < (4 : Int); omega)
    have hM0 : ∃ mo : Nat, v2 = V.int (mo : Int) ∧ (mo = 4 ∨ mo = 8) := by
      simp only [List.mem_cons, List.not_mem_nil, or_false] at hm2
      rcases hm2 with rfl | rfl | rfl | rfl
      · exact ⟨4, rfl, .inl rfl⟩
      · exact ⟨4, rfl, .inl rfl⟩
      · exact ⟨4, rfl, .inl rfl⟩
      · exact ⟨8, rfl, .inr rfl⟩
    obtain ⟨M0, rfl, hM0⟩ := hM0
    refine ⟨g2, _, _, _, rfl, rfl, SqL.of upd_same, hv2, ?_⟩
    have sA := (Same.new (o := .lst [V.int 0, V.int 1, V.int 2, V.int 3, V.int 2, V.int 1, V.int 4, V.int 3]) hg1).trans (Same.new (o := .lst [V.int 4, V.int 4, V.int 4, V.int 8]) hg2)
    generalize upd (upd H g1 (.lst [V.int 0, V.int 1, V.int 2, V.int 3, V.int 2, V.int 1, V.int 4, V.int 3])) g2 (.lst [V.int 4, V.int 4, V.int 4, V.int 8]) = H2 at *
    have hS2 : SqL K H2 a (ns.map V.int) := SqL.same' hS sA
    clear hg1 hg2 hv1 hv2 hm1 hm2 sA
    walk_at "rd"
    refine if_mergeN (fun σ' H' => H' = H2 ∧ ∃ (L mo : Nat), σ' = [some (.ref a), some (.int (L : Int)), some (.int (mo : Int)), none, none, none, none, none] ∧ ((mo = 4 ∧ L ≤ 4) ∨ (mo = 8 ∧ L ≤ 2))) ?_ (fun N hR hb => ?_) (fun hb => ?_)
    rotate_left
    · walk_at "rd"
      have e8 : (M0 : Int) = 8 := by simpa using hb
      exact hR _ _ ⟨rfl, L0 % 3, M0, by rw [Int.natCast_emod]; rfl, .inr ⟨by omega, by omega⟩⟩
    · have e8 : ¬ (M0 : Int) = 8 := by simpa using hb
      exact ⟨rfl, L0, M0, rfl, .inl ⟨by omega, hL0⟩⟩
    rintro σ' H2 ⟨rfl, L1, M1, rfl, hLM⟩
    walk_at "rd"
    refine ⟨a, ns, 1, rfl, hS2, by omega, fun z3 => ?_⟩
    walk_at "rd"
    refine if_mergeN (fun σ' H' => H' = H2 ∧ ∃ (L mo : Nat), σ' = [some (.ref a), some (.int (L : Int)), some (.int (mo : Int)), none, none, none, none, none] ∧ 1 ≤ mo ∧ mo ≤ 8 ∧ L ≤ 6 ∧ L * (mo - 1) ≤ 14) ?_ (fun N hR hb => ?_) (fun hb => ?_)
    rotate_left
    · walk_at "rd"
      refine ⟨a, ns, 1, rfl, hS2, by omega, fun z4 => ?_⟩
      walk_at "rd"
      exact hR _ _ ⟨rfl, (5 + z4 / 128 % 2).toNat, 2, by rw [Int.toNat_of_nonneg (by omega)]; rfl, by decide, by decide, by omega, by omega⟩
    · refine ⟨rfl, L1, M1, rfl, by omega, by omega, by omega, ?_⟩
      rcases hLM with ⟨rfl, h⟩ | ⟨rfl, h⟩
      · omega
      · omega
    rintro σ' H2 ⟨rfl, L, mo, rfl, m1, m8, hL, hLm⟩
    clear hLM hM0 hL0
    walk_at "rd"
    refine ⟨a, ns, mo, rfl, hS2, m1, m8, fun lb l0 l1 w0 w1 p0 p1 B H3 s3 hlb hb c0 c1 B1 B3 => ?_⟩
    clear hS2 s3
    walk_at "rd"
    refine ⟨⟨_, SqL.of hb⟩, for_list (xs := [.ref l0, .ref l1]) (fun i σ H' => ∃ (y3 y4 y5 y6 y7 : Option V), σ = [some (.ref a), some (.int (L : Int)), some (.int (mo : Int)), y3, y4, y5, y6, y7] ∧ Same H3 H') ⟨none, none, none, none, none, rfl, L2.Same.refl _⟩ ?_ ?_ ?_⟩
    · rintro i σ H4 hi ⟨y3, y4, y5, y6, y7, rfl, s4⟩
      exact SqL.of (s4 _ _ hb)
    · rintro i x σ H4 hx ⟨y3, y4, y5, y6, y7, rfl, s4⟩
      have hcx : ∃ l ws ps, CvB H4 x l ws ps B mo := by
        have hm := List.mem_of_getElem? hx
        simp only [List.mem_cons, List.not_mem_nil, or_false] at hm
        rcases hm with rfl | rfl
        · exact ⟨l0, w0, p0, c0.same s4⟩
        · exact ⟨l1, w1, p1, c1.same s4⟩
      obtain ⟨l, ws, ps, cb⟩ := hcx
      obtain rfl := cb.ref
      have pl1 := cb.l1
      have pl2 := cb.l2
      have hwl := cb.pts.len
      have hl4 := cb.lst
      have hP4 := cb.pts
      have hov := cb.ov
      clear cb c0 c1 hb hx hlb
      have zB : Sz 2 B := ⟨by show B.natAbs < 4; omega⟩
      have hLn : L * (ps.length - 1) ≤ 40 := by
        have := Nat.mul_le_mul_left L (show ps.length - 1 ≤ mo - 1 by omega)
        omega
      have hbd : ∀ p ∈ ps, Bd 340 p.1 ∧ Bd 340 p.2 := fun p hp => ovp_bd4 (by omega) zB (hov p hp) 340 (by decide) (by decide)
      walk_at "rd"
      intro lh hlh
      have sB : Same H4 (upd H4 lh (.lst ws)) := Same.new hlh
      replace hl4 := sB _ _ hl4
      replace hP4 := hP4.same sB
      have hh4 : (upd H4 lh (.lst ws)) lh = some (.lst ws) := upd_same
      replace s4 := s4.trans sB
      clear sB hlh
      generalize upd H4 lh (.lst ws) = H5 at *
      walk_at "rd"
      refine ⟨lh, ws, ps, B, 110, 2, L, rfl, hh4, hP4, by omega, by omega, by omega, zB, by decide, by decide, hov, hL, hLn, fun fo us qs H6 s6 hf0 hf hul hLs hq => ?_⟩
      have ok : StOk L qs ps := ⟨fun i hi => (hq i hi).1, fun i hi => (hq i hi).2.1, fun i hi => (hq i hi).2.2, hbd, pl1, by omega, hL⟩
      walk_at "rd"
      refine ⟨fo, l, us, ws, qs, ps, L, rfl, hf, hLs.pss hul, s6 _ _ hl4, hP4.same s6, ok, fun H7 s7 => ?_⟩
      walk_at "rd"
      refine ⟨datPts ps, datPts ps, dnP (s7 _ _ (s6 _ _ hh4)) ((hP4.same s6).same s7), dnP (s7 _ _ (s6 _ _ hl4)) ((hP4.same s6).same s7), datPts_ok _ 5, datPts_ok _ 5, fun b1 hb1 => ?_⟩
      obtain rfl := hb1.mpr rfl
      refine ⟨_, rfl, ifF rfl ?_⟩
      have hLs7 : LsV H5 H7 fo us fun i xs H => PtsV H xs (qs i) := ⟨fun j v e => by obtain ⟨l', xs, e1, e2, e3, e4, e5⟩ := hLs.get j v e; exact ⟨l', xs, e1, e2, e3, s7 _ _ e4, e5.same s7⟩, hLs.one⟩
      have hf7 := s7 _ _ hf
      have s57 := s6.trans s7
      clear hLs hf s6 s7
      have p6 : (2 : Nat) ^ L ≤ 2 ^ 6 := Nat.pow_le_pow_right (by decide) hL
      walk_at "rd"
      refine ⟨⟨_, SqL.of hf7⟩, compL (plain_list (SqL.of hf7)) (by omega) (fun i xs H => PtsV H xs (qs i)) (fun _ _ _ _ tt h => h.tup tt) (fun j H8 kk hj s8 hk => ?_) (fun lk ks H8 hk0 s8 hk8 hkl hKs => ?_)⟩
      · obtain ⟨lj, xj, ej, hj8, hPj⟩ := ((hLs7.pss hul).same s8).at (show j < 2 ^ L by omega)
        rw [ej]
        walk_at "rd"
        intro l9 hl9
        exact hk l9 xj _ (Same.new hl9) hl9 upd_same (hPj.same (Same.new hl9))
      have hu7 : ∀ (j : Nat) (l : Addr), us[j]? = some (.ref l) → ∃ xs, H7 l = some (.lst xs) := fun j l e => by obtain ⟨l', xs, e1, _, _, e4, _⟩ := hLs7.get j _ e; cases e1; exact ⟨xs, e4⟩
      have hLs8 : LsV H5 H8 fo us fun i xs H => PtsV H xs (qs i) := ⟨fun j v e => by obtain ⟨l', xs, e1, e2, e3, e4, e5⟩ := hLs7.get j v e; exact ⟨l', xs, e1, e2, e3, s8 _ _ e4, e5.same s8⟩, hLs7.one⟩
      have hf8 := s8 _ _ hf7
      have nf : ∀ j : Nat, us[j]? ≠ some (.ref fo) := fun j e => by obtain ⟨l', xs, e1, _, e3, _⟩ := hLs7.get j _ e; cases e1; exact e3 rfl
      have nk : ∀ j : Nat, us[j]? ≠ some (.ref lk) := fun j e => by obtain ⟨xs, hx⟩ := hu7 j _ e; rw [hk0] at hx; cases hx
      walk_at "rd"
      refine ⟨by omega, by omega, for_range (fun i σ H' => ∃ (y7 : Option V), σ = [some (.ref a), some (.int (L : Int)), some (.int (mo : Int)), some (.ref l), some (.ref lh), some (.ref fo), some (.ref lk), y7] ∧ Same H5 H' ∧ But us i H8 H') ⟨y7, rfl, s57.trans s8, But.refl _ _⟩ ?_ ?_⟩
      · rintro j σ H9 hj ⟨y7, rfl, s9, but9⟩
        have hj' : j < us.length := by omega
        obtain ⟨lj, xj, ej, _, _, hj8, _⟩ := hLs8.get j _ (List.getElem?_eq_getElem hj')
        have ej' : us[j]? = some (.ref lj) := by rw [List.getElem?_eq_getElem hj', ej]
        have hj5 : H5 lj = none := by obtain ⟨l', xs, e1, e2, _⟩ := hLs8.get j _ ej'; cases e1; exact e2
        have hj9 : H9 lj = some (.lst xj) := but9.keep _ _ hj8 fun j' hj2 z => by have := hLs8.one _ _ _ ej' z; omega
        have hf9 := but9.keep _ _ hf8 fun j' _ => nf j'
        walk_at "rd"
        refine ⟨fo, _, _, _, rfl, rfl, SqL.of hf9, atI_nat' (j := j) (by omega) ej', ?_⟩
        refine ⟨.inl ⟨rfl, _, SqL.of hj9⟩, ?_⟩
        refine ⟨lj, xj, rfl, rfl, hj9, ?_⟩
        have but10 : But us (j + 1) H8 (upd H9 lj (.lst [])) := but9.step ej'
        have s10 : Same H5 (upd H9 lj (.lst [])) := same_upd hj5 s9
        clear but9 s9 hj9 hf9
        generalize upd H9 lj (.lst []) = H10 at *
        have hf10 := but10.keep _ _ hf8 fun j' _ => nf j'
        have hk10 := but10.keep _ _ hk8 fun j' _ => nk j'
        walk_at "rd"
        refine ⟨fo, _, rfl, SqL.of hf10, fun q1 hq1 => ?_⟩
        rw [cut_dropV us _ (j + 1) (by omega) (by omega)]
        have t1 := Same.new (o := .lst (us.drop (j + 1))) hq1
        walk_at "rd"
        refine ⟨lk, _, rfl, SqL.of (t1 _ _ hk10), fun q2 hq2 => ?_⟩
        rw [cut_dropV ks _ (j + 1) (by omega) (by omega)]
        have t2 := Same.new (o := .lst (ks.drop (j + 1))) hq2
        have but11 := but10.same (t1.trans t2)
        refine ⟨datCs _, datCs _, dnCs (upd_keep hq2 upd_same) (but11.first hLs8 hul (by omega)), dnCs upd_same ((but11.other hu7 s8 hKs (show ks.length = 2 ^ L by omega)).drop (by omega)), datCs_ok _ 4, datCs_ok _ 4, fun b2 hb2 => ?_⟩
        obtain rfl := hb2.mpr rfl
        exact ⟨_, rfl, ifF rfl ⟨_, rfl, (s10.trans t1).trans t2, but11⟩⟩
      rintro σ H9 ⟨y7, rfl, s9, but9⟩
      have hf9 := but9.keep _ _ hf8 fun j' _ => nf j'
      refine ⟨_, rfl, .inl ⟨rfl, _, SqL.of hf9⟩, ?_⟩
      walk_at "rd"
      intro n1 hn1
      refine ⟨fo, us, _, rfl, rfl, upd_keep hn1 hf9, small_line (by omega), ?_⟩
      have s10 : Same H5 (upd (upd H9 n1 (.lst [])) fo (.lst (us ++ [.ref n1]))) := same_upd hf0 (s9.trans (Same.new hn1))
      clear but9 s9 hf9 hn1 hLs8 hf8 hk8 hKs hLs7 hf7 hk0 s8 hu7
      generalize upd (upd H9 n1 (.lst [])) fo (.lst (us ++ [.ref n1])) = H10 at *
      walk_at "rd"
      refine ⟨lh, ws, ps, B, 110, 2, L, rfl, s10 _ _ hh4, hP4.same s10, by omega, by omega, by omega, zB, by decide, by decide, hov, hL, hLn, fun fo2 us2 qs2 H11 s11 hf02 hf2 hul2 hLs2 hq2 => ?_⟩
      have ok2 : StOk L qs2 ps := ⟨fun i hi => (hq2 i hi).1, fun i hi => (hq2 i hi).2.1, fun i hi => (hq2 i hi).2.2, hbd, pl1, by omega, hL⟩
      walk_at "rd"
      refine ⟨fo2, l, us2, ws, qs2, ps, L, rfl, hf2, hLs2.pss hul2, s11 _ _ (s10 _ _ hl4), (hP4.same s10).same s11, ok2, fun H12 s12 => ?_⟩
      walk_at "rd"
      exact ⟨_, _, _, _, _, rfl, ((s4.trans s10).trans s11).trans s12⟩
    rintro σ H4 ⟨y3, y4, y5, y6, y7, rfl, s4⟩
    walk_at "rd"
    exact k H4
end
theorem all_mk {w : World} {K : PySem.W.Frag} {h : Heap} {mg : Str → Option Value} {fa : Addr} (KX : K.In h) (GN : h.Ns mainGlobals mg) (hfa : mg "law" = some (.ref fa))
    {f0 : Addr} {od0 an0 : Option Addr} {sl0 : Array (Option Value)} {oc0 kV0 dc0 pm0 cd0 ct0 : Value}
    {f1 : Addr} {od1 an1 : Option Addr} {sl1 : Array (Option Value)} {oc1 kV1 dc1 pm1 cd1 ct1 : Value}
    {f2 : Addr} {od2 an2 : Option Addr} {sl2 : Array (Option Value)} {oc2 kV2 dc2 pm2 cd2 ct2 : Value}
    {f3 : Addr} {od3 an3 : Option Addr} {sl3 : Array (Option Value)} {oc3 kV3 dc3 pm3 cd3 ct3 : Value}
    {f4 : Addr} {od4 an4 : Option Addr} {sl4 : Array (Option Value)} {oc4 kV4 dc4 pm4 cd4 ct4 : Value}
    {f5 : Addr} {od5 an5 : Option Addr} {sl5 : Array (Option Value)} {oc5 kV5 dc5 pm5 cd5 ct5 : Value}
    {f6 : Addr} {od6 an6 : Option Addr} {sl6 : Array (Option Value)} {oc6 kV6 dc6 pm6 cd6 ct6 : Value}
    {f7 : Addr} {od7 an7 : Option Addr} {sl7 : Array (Option Value)} {oc7 kV7 dc7 pm7 cd7 ct7 : Value}
    {f8 : Addr} {od8 an8 : Option Addr} {sl8 : Array (Option Value)} {oc8 kV8 dc8 pm8 cd8 ct8 : Value}
    {f9 : Addr} {od9 an9 : Option Addr} {sl9 : Array (Option Value)} {oc9 kV9 dc9 pm9 cd9 ct9 : Value}
    {f10 : Addr} {od10 an10 : Option Addr} {sl10 : Array (Option Value)} {oc10 kV10 dc10 pm10 cd10 ct10 : Value}
    {f11 : Addr} {od11 an11 : Option Addr} {sl11 : Array (Option Value)} {oc11 kV11 dc11 pm11 cd11 ct11 : Value}
    {f12 : Addr} {od12 an12 : Option Addr} {sl12 : Array (Option Value)} {oc12 kV12 dc12 pm12 cd12 ct12 : Value}
    {f13 : Addr} {od13 an13 : Option Addr} {sl13 : Array (Option Value)} {oc13 kV13 dc13 pm13 cd13 ct13 : Value}
    {f14 : Addr} {od14 an14 : Option Addr} {sl14 : Array (Option Value)} {oc14 kV14 dc14 pm14 cd14 ct14 : Value}
    {f15 : Addr} {od15 an15 : Option Addr} {sl15 : Array (Option Value)} {oc15 kV15 dc15 pm15 cd15 ct15 : Value}
    {f16 : Addr} {od16 an16 : Option Addr} {sl16 : Array (Option Value)} {oc16 kV16 dc16 pm16 cd16 ct16 : Value}
    {f17 : Addr} {od17 an17 : Option Addr} {sl17 : Array (Option Value)} {oc17 kV17 dc17 pm17 cd17 ct17 : Value}
    {f18 : Addr} {od18 an18 : Option Addr} {sl18 : Array (Option Value)} {oc18 kV18 dc18 pm18 cd18 ct18 : Value}
    {f19 : Addr} {od19 an19 : Option Addr} {sl19 : Array (Option Value)} {oc19 kV19 dc19 pm19 cd19 ct19 : Value}
    {f20 : Addr} {od20 an20 : Option Addr} {sl20 : Array (Option Value)} {oc20 kV20 dc20 pm20 cd20 ct20 : Value}
    {f21 : Addr} {od21 an21 : Option Addr} {sl21 : Array (Option Value)} {oc21 kV21 dc21 pm21 cd21 ct21 : Value}
    {f22 : Addr} {od22 an22 : Option Addr} {sl22 : Array (Option Value)} {oc22 kV22 dc22 pm22 cd22 ct22 : Value}
    {f23 : Addr} {od23 an23 : Option Addr} {sl23 : Array (Option Value)} {oc23 kV23 dc23 pm23 cd23 ct23 : Value}
    {f24 : Addr} {od24 an24 : Option Addr} {sl24 : Array (Option Value)} {oc24 kV24 dc24 pm24 cd24 ct24 : Value}
    (a0 : PySem.W.nsIn K mainGlobals "_law_cell_at" = some (some (.ref f0))) (l0 : K.lookup f0 = some ⟨oc0, od0, .func (PySem.W.fnOf "_law_cell_at" "_law_cell_at" (defArgs s_l_cell_at) (defBody s_l_cell_at) (defScope s_l_cell_at) .none kV0 dc0 pm0 an0 cd0 ct0), sl0⟩) (c0 : PySem.W.codeIn K cd0 "_law_cell_at" = true) (k0 : PySem.W.keepIn K (.ref f0) = true)
    (a1 : PySem.W.nsIn K mainGlobals "_law_part" = some (some (.ref f1))) (l1 : K.lookup f1 = some ⟨oc1, od1, .func (PySem.W.fnOf "_law_part" "_law_part" (defArgs s_l_part) (defBody s_l_part) (defScope s_l_part) .none kV1 dc1 pm1 an1 cd1 ct1), sl1⟩) (c1 : PySem.W.codeIn K cd1 "_law_part" = true) (k1 : PySem.W.keepIn K (.ref f1) = true)
    (a2 : PySem.W.nsIn K mainGlobals "_law_share" = some (some (.ref f2))) (l2 : K.lookup f2 = some ⟨oc2, od2, .func (PySem.W.fnOf "_law_share" "_law_share" (defArgs s_l_share) (defBody s_l_share) (defScope s_l_share) .none kV2 dc2 pm2 an2 cd2 ct2), sl2⟩) (c2 : PySem.W.codeIn K cd2 "_law_share" = true) (k2 : PySem.W.keepIn K (.ref f2) = true)
    (a3 : PySem.W.nsIn K mainGlobals "_law_stream" = some (some (.ref f3))) (l3 : K.lookup f3 = some ⟨oc3, od3, .func (PySem.W.fnOf "_law_stream" "_law_stream" (defArgs s_l_stream) (defBody s_l_stream) (defScope s_l_stream) .none kV3 dc3 pm3 an3 cd3 ct3), sl3⟩) (c3 : PySem.W.codeIn K cd3 "_law_stream" = true) (k3 : PySem.W.keepIn K (.ref f3) = true)
    (a4 : PySem.W.nsIn K mainGlobals "_law_drawn_two" = some (some (.ref f4))) (l4 : K.lookup f4 = some ⟨oc4, od4, .func (PySem.W.fnOf "_law_drawn_two" "_law_drawn_two" (defArgs s_l_drawn_two) (defBody s_l_drawn_two) (defScope s_l_drawn_two) .none kV4 dc4 pm4 an4 cd4 ct4), sl4⟩) (c4 : PySem.W.codeIn K cd4 "_law_drawn_two" = true) (k4 : PySem.W.keepIn K (.ref f4) = true)
    (a5 : PySem.W.nsIn K mainGlobals "_law_whole" = some (some (.ref f5))) (l5 : K.lookup f5 = some ⟨oc5, od5, .func (PySem.W.fnOf "_law_whole" "_law_whole" (defArgs s_l_whole) (defBody s_l_whole) (defScope s_l_whole) .none kV5 dc5 pm5 an5 cd5 ct5), sl5⟩) (c5 : PySem.W.codeIn K cd5 "_law_whole" = true) (k5 : PySem.W.keepIn K (.ref f5) = true)
    (a6 : PySem.W.nsIn K mainGlobals "_law_is_share" = some (some (.ref f6))) (l6 : K.lookup f6 = some ⟨oc6, od6, .func (PySem.W.fnOf "_law_is_share" "_law_is_share" (defArgs s_l_is_share) (defBody s_l_is_share) (defScope s_l_is_share) .none kV6 dc6 pm6 an6 cd6 ct6), sl6⟩) (c6 : PySem.W.codeIn K cd6 "_law_is_share" = true) (k6 : PySem.W.keepIn K (.ref f6) = true)
    (a7 : PySem.W.nsIn K mainGlobals "_law_is_point" = some (some (.ref f7))) (l7 : K.lookup f7 = some ⟨oc7, od7, .func (PySem.W.fnOf "_law_is_point" "_law_is_point" (defArgs s_l_is_point) (defBody s_l_is_point) (defScope s_l_is_point) .none kV7 dc7 pm7 an7 cd7 ct7), sl7⟩) (c7 : PySem.W.codeIn K cd7 "_law_is_point" = true) (k7 : PySem.W.keepIn K (.ref f7) = true)
    (a8 : PySem.W.nsIn K mainGlobals "_law_powers" = some (some (.ref f8))) (l8 : K.lookup f8 = some ⟨oc8, od8, .func (PySem.W.fnOf "_law_powers" "_law_powers" (defArgs s_l_powers) (defBody s_l_powers) (defScope s_l_powers) .none kV8 dc8 pm8 an8 cd8 ct8), sl8⟩) (c8 : PySem.W.codeIn K cd8 "_law_powers" = true) (k8 : PySem.W.keepIn K (.ref f8) = true)
    (a9 : PySem.W.nsIn K mainGlobals "_law_tops" = some (some (.ref f9))) (l9 : K.lookup f9 = some ⟨oc9, od9, .func (PySem.W.fnOf "_law_tops" "_law_tops" (defArgs s_l_tops) (defBody s_l_tops) (defScope s_l_tops) .none kV9 dc9 pm9 an9 cd9 ct9), sl9⟩) (c9 : PySem.W.codeIn K cd9 "_law_tops" = true) (k9 : PySem.W.keepIn K (.ref f9) = true)
    (a10 : PySem.W.nsIn K mainGlobals "_law_point" = some (some (.ref f10))) (l10 : K.lookup f10 = some ⟨oc10, od10, .func (PySem.W.fnOf "_law_point" "_law_point" (defArgs s_l_point) (defBody s_l_point) (defScope s_l_point) .none kV10 dc10 pm10 an10 cd10 ct10), sl10⟩) (c10 : PySem.W.codeIn K cd10 "_law_point" = true) (k10 : PySem.W.keepIn K (.ref f10) = true)
    (a11 : PySem.W.nsIn K mainGlobals "_law_good" = some (some (.ref f11))) (l11 : K.lookup f11 = some ⟨oc11, od11, .func (PySem.W.fnOf "_law_good" "_law_good" (defArgs s_l_good) (defBody s_l_good) (defScope s_l_good) .none kV11 dc11 pm11 an11 cd11 ct11), sl11⟩) (c11 : PySem.W.codeIn K cd11 "_law_good" = true) (k11 : PySem.W.keepIn K (.ref f11) = true)
    (a12 : PySem.W.nsIn K mainGlobals "greatest_common" = some (some (.ref f12))) (l12 : K.lookup f12 = some ⟨oc12, od12, .func (PySem.W.fnOf "greatest_common" "greatest_common" (defArgs s_greatest_common) (defBody s_greatest_common) (defScope s_greatest_common) .none kV12 dc12 pm12 an12 cd12 ct12), sl12⟩) (c12 : PySem.W.codeIn K cd12 "greatest_common" = true) (k12 : PySem.W.keepIn K (.ref f12) = true)
    (a13 : PySem.W.nsIn K mainGlobals "common_bottoms" = some (some (.ref f13))) (l13 : K.lookup f13 = some ⟨oc13, od13, .func (PySem.W.fnOf "common_bottoms" "common_bottoms" (defArgs s_common_bottoms) (defBody s_common_bottoms) (defScope s_common_bottoms) .none kV13 dc13 pm13 an13 cd13 ct13), sl13⟩) (c13 : PySem.W.codeIn K cd13 "common_bottoms" = true) (k13 : PySem.W.keepIn K (.ref f13) = true)
    (a14 : PySem.W.nsIn K mainGlobals "product" = some (some (.ref f14))) (l14 : K.lookup f14 = some ⟨oc14, od14, .func (PySem.W.fnOf "product" "product" (defArgs s_product) (defBody s_product) (defScope s_product) .none kV14 dc14 pm14 an14 cd14 ct14), sl14⟩) (c14 : PySem.W.codeIn K cd14 "product" = true) (k14 : PySem.W.keepIn K (.ref f14) = true)
    (a15 : PySem.W.nsIn K mainGlobals "axis" = some (some (.ref f15))) (l15 : K.lookup f15 = some ⟨oc15, od15, .func (PySem.W.fnOf "axis" "axis" (defArgs s_axis) (defBody s_axis) (defScope s_axis) .none kV15 dc15 pm15 an15 cd15 ct15), sl15⟩) (c15 : PySem.W.codeIn K cd15 "axis" = true) (k15 : PySem.W.keepIn K (.ref f15) = true)
    (a16 : PySem.W.nsIn K mainGlobals "axes" = some (some (.ref f16))) (l16 : K.lookup f16 = some ⟨oc16, od16, .func (PySem.W.fnOf "axes" "axes" (defArgs s_axes) (defBody s_axes) (defScope s_axes) .none kV16 dc16 pm16 an16 cd16 ct16), sl16⟩) (c16 : PySem.W.codeIn K cd16 "axes" = true) (k16 : PySem.W.keepIn K (.ref f16) = true)
    (a17 : PySem.W.nsIn K mainGlobals "halves" = some (some (.ref f17))) (l17 : K.lookup f17 = some ⟨oc17, od17, .func (PySem.W.fnOf "halves" "halves" (defArgs s_halves) (defBody s_halves) (defScope s_halves) .none kV17 dc17 pm17 an17 cd17 ct17), sl17⟩) (c17 : PySem.W.codeIn K cd17 "halves" = true) (k17 : PySem.W.keepIn K (.ref f17) = true)
    (a18 : PySem.W.nsIn K mainGlobals "halved" = some (some (.ref f18))) (l18 : K.lookup f18 = some ⟨oc18, od18, .func (PySem.W.fnOf "halved" "halved" (defArgs s_halved) (defBody s_halved) (defScope s_halved) .none kV18 dc18 pm18 an18 cd18 ct18), sl18⟩) (c18 : PySem.W.codeIn K cd18 "halved" = true) (k18 : PySem.W.keepIn K (.ref f18) = true)
    (a19 : PySem.W.nsIn K mainGlobals "share_over" = some (some (.ref f19))) (l19 : K.lookup f19 = some ⟨oc19, od19, .func (PySem.W.fnOf "share_over" "share_over" (defArgs s_share_over) (defBody s_share_over) (defScope s_share_over) .none kV19 dc19 pm19 an19 cd19 ct19), sl19⟩) (c19 : PySem.W.codeIn K cd19 "share_over" = true) (k19 : PySem.W.keepIn K (.ref f19) = true)
    (a20 : PySem.W.nsIn K mainGlobals "points_of" = some (some (.ref f20))) (l20 : K.lookup f20 = some ⟨oc20, od20, .func (PySem.W.fnOf "points_of" "points_of" (defArgs s_points_of) (defBody s_points_of) (defScope s_points_of) .none kV20 dc20 pm20 an20 cd20 ct20), sl20⟩) (c20 : PySem.W.codeIn K cd20 "points_of" = true) (k20 : PySem.W.keepIn K (.ref f20) = true)
    (a21 : PySem.W.nsIn K mainGlobals "room_for" = some (some (.ref f21))) (l21 : K.lookup f21 = some ⟨oc21, od21, .func (PySem.W.fnOf "room_for" "room_for" (defArgs s_room_for) (defBody s_room_for) (defScope s_room_for) .none kV21 dc21 pm21 an21 cd21 ct21), sl21⟩) (c21 : PySem.W.codeIn K cd21 "room_for" = true) (k21 : PySem.W.keepIn K (.ref f21) = true)
    (a22 : PySem.W.nsIn K mainGlobals "whole_curve" = some (some (.ref f22))) (l22 : K.lookup f22 = some ⟨oc22, od22, .func (PySem.W.fnOf "whole_curve" "whole_curve" (defArgs s_whole_curve) (defBody s_whole_curve) (defScope s_whole_curve) .none kV22 dc22 pm22 an22 cd22 ct22), sl22⟩) (c22 : PySem.W.codeIn K cd22 "whole_curve" = true) (k22 : PySem.W.keepIn K (.ref f22) = true)
    (a23 : PySem.W.nsIn K mainGlobals "stretches" = some (some (.ref f23))) (l23 : K.lookup f23 = some ⟨oc23, od23, .func (PySem.W.fnOf "stretches" "stretches" (defArgs s_stretches) (defBody s_stretches) (defScope s_stretches) .none kV23 dc23 pm23 an23 cd23 ct23), sl23⟩) (c23 : PySem.W.codeIn K cd23 "stretches" = true) (k23 : PySem.W.keepIn K (.ref f23) = true)
    (a24 : PySem.W.nsIn K mainGlobals "law" = some (some (.ref f24))) (l24 : K.lookup f24 = some ⟨oc24, od24, .func (PySem.W.fnOf "law" "law" (defArgs s_law) (defBody s_law) (defScope s_law) .none kV24 dc24 pm24 an24 cd24 ct24), sl24⟩) (c24 : PySem.W.codeIn K cd24 "law" = true) (k24 : PySem.W.keepIn K (.ref f24) = true)
    (z_len : PySem.W.nsIn K mainGlobals "len" = some none)
    (z_abs : PySem.W.nsIn K mainGlobals "abs" = some none)
    (z_range : PySem.W.nsIn K mainGlobals "range" = some none)
    (z_max : PySem.W.nsIn K mainGlobals "max" = some none)
    (z_min : PySem.W.nsIn K mainGlobals "min" = some none)
    (z_any : PySem.W.nsIn K mainGlobals "any" = some none)
    (z_all : PySem.W.nsIn K mainGlobals "all" = some none)
    (z_sum : PySem.W.nsIn K mainGlobals "sum" = some none)
    (z_isinstance : PySem.W.nsIn K mainGlobals "isinstance" = some none)
    (z_int : PySem.W.nsIn K mainGlobals "int" = some none)
    (z_bool : PySem.W.nsIn K mainGlobals "bool" = some none)
    (z_tuple : PySem.W.nsIn K mainGlobals "tuple" = some none)
    (z_list : PySem.W.nsIn K mainGlobals "list" = some none)
    (z_str : PySem.W.nsIn K mainGlobals "str" = some none)
    (z_ValueError : PySem.W.nsIn K mainGlobals "ValueError" = some none)
    (z_zip : PySem.W.nsIn K mainGlobals "zip" = some none)
    (z_reversed : PySem.W.nsIn K mainGlobals "reversed" = some none)
    (z_enumerate : PySem.W.nsIn K mainGlobals "enumerate" = some none)
    (z_sorted : PySem.W.nsIn K mainGlobals "sorted" = some none)
    (z_dict : PySem.W.nsIn K mainGlobals "dict" = some none)
    : ∃ fd : FuncData, (∀ (s : Shared) (v : Value), BindsTo s fd ⟨[v], []⟩ [("_law_script", v)]) ∧ ∀ (P : Program) (base : Heap), K.In base → base.Ns mainGlobals mg → FnOk P w K mg base CX0 6 fa fd ["_law_script"] ((spLaw K)) := by
  have e := hfa.symm.trans (PySem.W.mg_of KX GN a24)
  cases e
  have B : Blt mg := ⟨PySem.W.mg_none_of KX GN z_len, PySem.W.mg_none_of KX GN z_abs, PySem.W.mg_none_of KX GN z_range, PySem.W.mg_none_of KX GN z_max, PySem.W.mg_none_of KX GN z_min, PySem.W.mg_none_of KX GN z_any, PySem.W.mg_none_of KX GN z_all, PySem.W.mg_none_of KX GN z_sum, PySem.W.mg_none_of KX GN z_isinstance, PySem.W.mg_none_of KX GN z_int, PySem.W.mg_none_of KX GN z_bool, PySem.W.mg_none_of KX GN z_tuple, PySem.W.mg_none_of KX GN z_list, PySem.W.mg_none_of KX GN z_str, PySem.W.mg_none_of KX GN z_ValueError, PySem.W.mg_none_of KX GN z_zip, PySem.W.mg_none_of KX GN z_reversed, PySem.W.mg_none_of KX GN z_enumerate, PySem.W.mg_none_of KX GN z_sorted, PySem.W.mg_none_of KX GN z_dict⟩
  have F0 : FunAt K mg "_law_cell_at" s_l_cell_at ["_law_script", "_law_k"] := FunAt.mk' (PySem.W.mg_of KX GN a0) l0 c0 k0 fun _ _ _ _ _ _ us hl => match us, hl with | [_, _], _ => rfl
  have F1 : FunAt K mg "_law_part" s_l_part ["_law_one", "_law_other"] := FunAt.mk' (PySem.W.mg_of KX GN a1) l1 c1 k1 fun _ _ _ _ _ _ us hl => match us, hl with | [_, _], _ => rfl
  have F2 : FunAt K mg "_law_share" s_l_share ["_law_top", "_law_bottom"] := FunAt.mk' (PySem.W.mg_of KX GN a2) l2 c2 k2 fun _ _ _ _ _ _ us hl => match us, hl with | [_, _], _ => rfl
  have F3 : FunAt K mg "_law_stream" s_l_stream ["_law_cell", "_law_place"] := FunAt.mk' (PySem.W.mg_of KX GN a3) l3 c3 k3 fun _ _ _ _ _ _ us hl => match us, hl with | [_, _], _ => rfl
  have F4 : FunAt K mg "_law_drawn_two" s_l_drawn_two ["_law_script", "_law_most"] := FunAt.mk' (PySem.W.mg_of KX GN a4) l4 c4 k4 fun _ _ _ _ _ _ us hl => match us, hl with | [_, _], _ => rfl
  have F5 : FunAt K mg "_law_whole" s_l_whole ["_law_found"] := FunAt.mk' (PySem.W.mg_of KX GN a5) l5 c5 k5 fun _ _ _ _ _ _ us hl => match us, hl with | [_], _ => rfl
  have F6 : FunAt K mg "_law_is_share" s_l_is_share ["_law_found"] := FunAt.mk' (PySem.W.mg_of KX GN a6) l6 c6 k6 fun _ _ _ _ _ _ us hl => match us, hl with | [_], _ => rfl
  have F7 : FunAt K mg "_law_is_point" s_l_is_point ["_law_found"] := FunAt.mk' (PySem.W.mg_of KX GN a7) l7 c7 k7 fun _ _ _ _ _ _ us hl => match us, hl with | [_], _ => rfl
  have F8 : FunAt K mg "_law_powers" s_l_powers ["_law_number", "_law_n"] := FunAt.mk' (PySem.W.mg_of KX GN a8) l8 c8 k8 fun _ _ _ _ _ _ us hl => match us, hl with | [_, _], _ => rfl
  have F9 : FunAt K mg "_law_tops" s_l_tops ["_law_n", "_law_t"] := FunAt.mk' (PySem.W.mg_of KX GN a9) l9 c9 k9 fun _ _ _ _ _ _ us hl => match us, hl with | [_, _], _ => rfl
  have F10 : FunAt K mg "_law_point" s_l_point ["_law_curve", "_law_t"] := FunAt.mk' (PySem.W.mg_of KX GN a10) l10 c10 k10 fun _ _ _ _ _ _ us hl => match us, hl with | [_, _], _ => rfl
  have F11 : FunAt K mg "_law_good" s_l_good ["_law_found", "_law_curve", "_law_level"] := FunAt.mk' (PySem.W.mg_of KX GN a11) l11 c11 k11 fun _ _ _ _ _ _ us hl => match us, hl with | [_, _, _], _ => rfl
  have F12 : FunAt K mg "greatest_common" s_greatest_common ["one", "other"] := FunAt.mk' (PySem.W.mg_of KX GN a12) l12 c12 k12 fun _ _ _ _ _ _ us hl => match us, hl with | [_, _], _ => rfl
  have F13 : FunAt K mg "common_bottoms" s_common_bottoms ["shares"] := FunAt.mk' (PySem.W.mg_of KX GN a13) l13 c13 k13 fun _ _ _ _ _ _ us hl => match us, hl with | [_], _ => rfl
  have F14 : FunAt K mg "product" s_product ["numbers"] := FunAt.mk' (PySem.W.mg_of KX GN a14) l14 c14 k14 fun _ _ _ _ _ _ us hl => match us, hl with | [_], _ => rfl
  have F15 : FunAt K mg "axis" s_axis ["shares"] := FunAt.mk' (PySem.W.mg_of KX GN a15) l15 c15 k15 fun _ _ _ _ _ _ us hl => match us, hl with | [_], _ => rfl
  have F16 : FunAt K mg "axes" s_axes ["points"] := FunAt.mk' (PySem.W.mg_of KX GN a16) l16 c16 k16 fun _ _ _ _ _ _ us hl => match us, hl with | [_], _ => rfl
  have F17 : FunAt K mg "halves" s_halves ["curve"] := FunAt.mk' (PySem.W.mg_of KX GN a17) l17 c17 k17 fun _ _ _ _ _ _ us hl => match us, hl with | [_], _ => rfl
  have F18 : FunAt K mg "halved" s_halved ["curves"] := FunAt.mk' (PySem.W.mg_of KX GN a18) l18 c18 k18 fun _ _ _ _ _ _ us hl => match us, hl with | [_], _ => rfl
  have F19 : FunAt K mg "share_over" s_share_over ["top", "bottoms"] := FunAt.mk' (PySem.W.mg_of KX GN a19) l19 c19 k19 fun _ _ _ _ _ _ us hl => match us, hl with | [_, _], _ => rfl
  have F20 : FunAt K mg "points_of" s_points_of ["xs", "ys"] := FunAt.mk' (PySem.W.mg_of KX GN a20) l20 c20 k20 fun _ _ _ _ _ _ us hl => match us, hl with | [_, _], _ => rfl
  have F21 : FunAt K mg "room_for" s_room_for ["seats", "level"] := FunAt.mk' (PySem.W.mg_of KX GN a21) l21 c21 k21 fun _ _ _ _ _ _ us hl => match us, hl with | [_, _], _ => rfl
  have F22 : FunAt K mg "whole_curve" s_whole_curve ["xs", "ys", "room"] := FunAt.mk' (PySem.W.mg_of KX GN a22) l22 c22 k22 fun _ _ _ _ _ _ us hl => match us, hl with | [_, _, _], _ => rfl
  have F23 : FunAt K mg "stretches" s_stretches ["curve", "level"] := FunAt.mk' (PySem.W.mg_of KX GN a23) l23 c23 k23 fun _ _ _ _ _ _ us hl => match us, hl with | [_, _], _ => rfl
  have F24 : FunAt K mg "law" s_law ["_law_script"] := FunAt.mk' (PySem.W.mg_of KX GN a24) l24 c24 k24 fun _ _ _ _ _ _ us hl => match us, hl with | [_], _ => rfl
  refine ⟨PySem.W.fnOf "law" "law" (defArgs s_law) (defBody s_law) (defScope s_law) .none kV24 dc24 pm24 an24 cd24 ct24, fun s v => .of_eq rfl, fun P base _ _ => ?_⟩
  have D0 : DefOk P w K mg base CX0 1 "_law_cell_at" ["_law_script", "_law_k"] (spCell K) := ok_l_cell_at F0 B
  have D1 : DefOk P w K mg base CX0 1 "_law_part" ["_law_one", "_law_other"] spPart := ok_l_part F1 B
  have D2 : DefOk P w K mg base CX0 2 "_law_share" ["_law_top", "_law_bottom"] spLShare := ok_l_share F2 B D1
  have D3 : DefOk P w K mg base CX0 1 "_law_stream" ["_law_cell", "_law_place"] spStream := ok_l_stream F3 B
  have D4 : DefOk P w K mg base CX0 3 "_law_drawn_two" ["_law_script", "_law_most"] (spDTwo K) := ok_l_drawn_two F4 B D0 D2 D3
  have D5 : DefOk P w K mg base CX0 1 "_law_whole" ["_law_found"] spWhole := ok_l_whole F5 B
  have D6 : DefOk P w K mg base CX0 2 "_law_is_share" ["_law_found"] spIsShare := ok_l_is_share F6 B D1 D5
  have D7 : DefOk P w K mg base CX0 3 "_law_is_point" ["_law_found"] spIsPoint := ok_l_is_point F7 B D6
  have D8 : DefOk P w K mg base CX0 1 "_law_powers" ["_law_number", "_law_n"] spPw := ok_l_powers F8 B
  have D9 : DefOk P w K mg base CX0 2 "_law_tops" ["_law_n", "_law_t"] spTops := ok_l_tops F9 B D8
  have D10 : DefOk P w K mg base CX0 3 "_law_point" ["_law_curve", "_law_t"] (spWPt K) := ok_l_point F10 B D2 D8 D9
  have D11 : DefOk P w K mg base CX0 4 "_law_good" ["_law_found", "_law_curve", "_law_level"] (spGoodS K) := ok_l_good F11 B D2 D7 D10
  have D12 : DefOk P w K mg base CX0 1 "greatest_common" ["one", "other"] spGcd := ok_greatest_common F12 B
  have D13 : DefOk P w K mg base CX0 2 "common_bottoms" ["shares"] (spCommon K) := ok_common_bottoms F13 B D12
  have D14 : DefOk P w K mg base CX0 1 "product" ["numbers"] (spProduct K) := ok_product F14 B
  have D15 : DefOk P w K mg base CX0 3 "axis" ["shares"] (spAxisD K) := ok_axis F15 B D13 D14
  have D16 : DefOk P w K mg base CX0 4 "axes" ["points"] (spAxesD K) := ok_axes F16 B D15
  have D17 : DefOk P w K mg base CX0 1 "halves" ["curve"] spHalves := ok_halves F17 B
  have D18 : DefOk P w K mg base CX0 2 "halved" ["curves"] (spHalved K) := ok_halved F18 B D17
  have D19 : DefOk P w K mg base CX0 2 "share_over" ["top", "bottoms"] (spOverAll K) := ok_share_over F19 B D12
  have D20 : DefOk P w K mg base CX0 3 "points_of" ["xs", "ys"] spPointsOf := ok_points_of F20 B D19
  have D21 : DefOk P w K mg base CX0 1 "room_for" ["seats", "level"] spRoom := ok_room_for F21 B
  have D22 : DefOk P w K mg base CX0 1 "whole_curve" ["xs", "ys", "room"] spWhole2 := ok_whole_curve F22 B
  have D23 : DefOk P w K mg base CX0 5 "stretches" ["curve", "level"] (spStretches K) := ok_stretches F23 B D16 D18 D20 D21 D22
  have D24 : DefOk P w K mg base CX0 6 "law" ["_law_script"] (spLaw K) := ok_law F24 B D0 D4 D11 D23
  exact D24.law l24 (PySem.W.mg_of KX GN a24)
end Cv
open PySem PySem.W PyProof.Rows
set_option maxHeartbeats 0 in
theorem PySem.Challenge.cw_curveseat_k60_stretches_holds : PySem.Challenge.rw_curveseat_k60_stretches.Holds := by
  w_on; o_law; k_head; (case hw => w_witness2)
  k_fill
  refine Cv.walk (l := PySem.Challenge.rw_curveseat_k60_stretches) (k := 6) (x := "_law_script") (CX := L2.CX0) (sp := fun K => (Cv.spLaw K)) rfl rfl ⟨rfl, by decide, by decide⟩ (fun w h Y => PySem.W.kIn_of Y) ?F (fun K H a ns h1 h2 h3 => ⟨a, ns, rfl, h3, h1, fun _ => rfl⟩) (fun _ _ _ _ z => z)
  case F =>
    intro w mg fa h KX G hmg
    refine' Cv.all_mk KX G hmg ?a0 ?l0 ?c0 ?k0 ?a1 ?l1 ?c1 ?k1 ?a2 ?l2 ?c2 ?k2 ?a3 ?l3 ?c3 ?k3 ?a4 ?l4 ?c4 ?k4 ?a5 ?l5 ?c5 ?k5 ?a6 ?l6 ?c6 ?k6 ?a7 ?l7 ?c7 ?k7 ?a8 ?l8 ?c8 ?k8 ?a9 ?l9 ?c9 ?k9 ?a10 ?l10 ?c10 ?k10 ?a11 ?l11 ?c11 ?k11 ?a12 ?l12 ?c12 ?k12 ?a13 ?l13 ?c13 ?k13 ?a14 ?l14 ?c14 ?k14 ?a15 ?l15 ?c15 ?k15 ?a16 ?l16 ?c16 ?k16 ?a17 ?l17 ?c17 ?k17 ?a18 ?l18 ?c18 ?k18 ?a19 ?l19 ?c19 ?k19 ?a20 ?l20 ?c20 ?k20 ?a21 ?l21 ?c21 ?k21 ?a22 ?l22 ?c22 ?k22 ?a23 ?l23 ?c23 ?k23 ?a24 ?l24 ?c24 ?k24 ?z_len ?z_abs ?z_range ?z_max ?z_min ?z_any ?z_all ?z_sum ?z_isinstance ?z_int ?z_bool ?z_tuple ?z_list ?z_str ?z_ValueError ?z_zip ?z_reversed ?z_enumerate ?z_sorted ?z_dict
    (case a0 => k_is)
    (case l0 => k_is)
    (case c0 => k_is)
    (case k0 => k_is)
    (case a1 => k_is)
    (case l1 => k_is)
    (case c1 => k_is)
    (case k1 => k_is)
    (case a2 => k_is)
    (case l2 => k_is)
    (case c2 => k_is)
    (case k2 => k_is)
    (case a3 => k_is)
    (case l3 => k_is)
    (case c3 => k_is)
    (case k3 => k_is)
    (case a4 => k_is)
    (case l4 => k_is)
    (case c4 => k_is)
    (case k4 => k_is)
    (case a5 => k_is)
    (case l5 => k_is)
    (case c5 => k_is)
    (case k5 => k_is)
    (case a6 => k_is)
    (case l6 => k_is)
    (case c6 => k_is)
    (case k6 => k_is)
    (case a7 => k_is)
    (case l7 => k_is)
    (case c7 => k_is)
    (case k7 => k_is)
    (case a8 => k_is)
    (case l8 => k_is)
    (case c8 => k_is)
    (case k8 => k_is)
    (case a9 => k_is)
    (case l9 => k_is)
    (case c9 => k_is)
    (case k9 => k_is)
    (case a10 => k_is)
    (case l10 => k_is)
    (case c10 => k_is)
    (case k10 => k_is)
    (case a11 => k_is)
    (case l11 => k_is)
    (case c11 => k_is)
    (case k11 => k_is)
    (case a12 => k_is)
    (case l12 => k_is)
    (case c12 => k_is)
    (case k12 => k_is)
    (case a13 => k_is)
    (case l13 => k_is)
    (case c13 => k_is)
    (case k13 => k_is)
    (case a14 => k_is)
    (case l14 => k_is)
    (case c14 => k_is)
    (case k14 => k_is)
    (case a15 => k_is)
    (case l15 => k_is)
    (case c15 => k_is)
    (case k15 => k_is)
    (case a16 => k_is)
    (case l16 => k_is)
    (case c16 => k_is)
    (case k16 => k_is)
    (case a17 => k_is)
    (case l17 => k_is)
    (case c17 => k_is)
    (case k17 => k_is)
    (case a18 => k_is)
    (case l18 => k_is)
    (case c18 => k_is)
    (case k18 => k_is)
    (case a19 => k_is)
    (case l19 => k_is)
    (case c19 => k_is)
    (case k19 => k_is)
    (case a20 => k_is)
    (case l20 => k_is)
    (case c20 => k_is)
    (case k20 => k_is)
    (case a21 => k_is)
    (case l21 => k_is)
    (case c21 => k_is)
    (case k21 => k_is)
    (case a22 => k_is)
    (case l22 => k_is)
    (case c22 => k_is)
    (case k22 => k_is)
    (case a23 => k_is)
    (case l23 => k_is)
    (case c23 => k_is)
    (case k23 => k_is)
    (case a24 => k_is)
    (case l24 => k_is)
    (case c24 => k_is)
    (case k24 => k_is)
    (case z_len => k_is)
    (case z_abs => k_is)
    (case z_range => k_is)
    (case z_max => k_is)
    (case z_min => k_is)
    (case z_any => k_is)
    (case z_all => k_is)
    (case z_sum => k_is)
    (case z_isinstance => k_is)
    (case z_int => k_is)
    (case z_bool => k_is)
    (case z_tuple => k_is)
    (case z_list => k_is)
    (case z_str => k_is)
    (case z_ValueError => k_is)
    (case z_zip => k_is)
    (case z_reversed => k_is)
    (case z_enumerate => k_is)
    (case z_sorted => k_is)
    (case z_dict => k_is)
#print axioms PySem.Challenge.cw_curveseat_k60_stretches_holds
