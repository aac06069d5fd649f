import PyProof.Rows.All
import Wide.All
import OpenK.AllK
import Wide.FinOn
import Lean
import PyProof.EqAt
import PyProof.EqKinds
import PyProof.TupleCall
import PySem.Challenge.RW_curveseat_k73_paths_joined
set_option compiler.extract_closed false
set_option genSizeOfSpec false
set_option Elab.async false
set_option linter.all false
set_option maxRecDepth 100000
/-! THE HAND LAYER, for ints, bools, texts, own classes, LISTS and tuples (index, slices, in, append, pop ..), calls, loops. Paste it whole ahead of your own text; what your proof does not reach may be deleted. -/
namespace L2
open PySem PySem.Spec PyProof.Rows

/-- a key: an int or a str -/
noncomputable abbrev Key := Sum Int Str
noncomputable def keyIs : Key → Value → Bool
  | .inl k, v => Value.isInt k v
  | .inr x, v => Value.isStrOf x v
noncomputable def keyH (w : World) : Key → Int
  | .inl k => hashInt k
  | .inr x => hashStr w x
theorem keyIs_shape : ∀ {k : Key} {v : Value}, keyIs k v = true → (∃ i t, k = Sum.inl i ∧ v = Value.int i t) ∨ (∃ x t, k = Sum.inr x ∧ v = Value.str x t)
  | .inl i, v, h => by
    obtain ⟨t, e⟩ := Value.isInt_shape (k := i) (v := v) h
    exact .inl ⟨i, t, rfl, e⟩
  | .inr x, v, h => by
    obtain ⟨t, e⟩ := Value.isStrOf_shape (x := x) (v := v) h
    exact .inr ⟨x, t, rfl, e⟩
theorem key_ll (a b : Int) : decide ((Sum.inl a : Key) = Sum.inl b) = (a == b) := by
  by_cases e : a = b
  · subst e; simp
  · have h : ¬ (Sum.inl a : Key) = Sum.inl b := fun q => e (Sum.inl.inj q)
    rw [decide_eq_false h]
    exact (beq_eq_false_iff_ne.mpr e).symm
theorem key_rr (a b : Str) : decide ((Sum.inr a : Key) = Sum.inr b) = decide (a = b) := by
  by_cases e : a = b
  · subst e; simp
  · have h : ¬ (Sum.inr a : Key) = Sum.inr b := fun q => e (Sum.inr.inj q)
    rw [decide_eq_false h, decide_eq_false e]
theorem key_lr (a : Int) (b : Str) : decide ((Sum.inl a : Key) = Sum.inr b) = false := decide_eq_false (fun q => nomatch q)
theorem key_rl (a : Str) (b : Int) : decide ((Sum.inr a : Key) = Sum.inl b) = false := decide_eq_false (fun q => nomatch q)

noncomputable def mixKind (prog : Program) (w : World) : PySem.KeyKind prog w Key where
  is := keyIs
  hash := keyH w
  inj := fun v a b ha hb => by
    rcases keyIs_shape ha with ⟨i, t, rfl, rfl⟩ | ⟨x, t, rfl, rfl⟩
    · rcases keyIs_shape hb with ⟨j, u, rfl, e⟩ | ⟨y, u, rfl, e⟩
      · injection e with e1 _; rw [e1]
      · exact nomatch e
    · rcases keyIs_shape hb with ⟨j, u, rfl, e⟩ | ⟨y, u, rfl, e⟩
      · exact nomatch e
      · injection e with e1 _; rw [e1]
  byValue := fun k v h => by
    rcases keyIs_shape h with ⟨i, t, rfl, rfl⟩ | ⟨x, t, rfl, rfl⟩ <;> rfl
  pyHash := fun hv h => by
    rcases keyIs_shape hv with ⟨i, t, rfl, rfl⟩ | ⟨x, t, rfl, rfl⟩
    · exact wpAny_pyHash_int h
    · exact wpAny_pyHash_str h
  eqBool := fun hu hv h => by
    rcases keyIs_shape hu with ⟨i, t, rfl, rfl⟩ | ⟨x, t, rfl, rfl⟩
    · rcases keyIs_shape hv with ⟨j, u, rfl, rfl⟩ | ⟨y, u, rfl, rfl⟩
      · rw [key_ll] at h; exact wpAny_eqBool_int h
      · rw [key_lr] at h; exact SeqAt.EqAt.int_str i t y u _ _ _ _ h
    · rcases keyIs_shape hv with ⟨j, u, rfl, rfl⟩ | ⟨y, u, rfl, rfl⟩
      · rw [key_rl] at h; exact SeqAt.EqAt.str_int x t j u _ _ _ _ h
      · rw [key_rr] at h; exact wpAny_eqBool_str h
  «strs» := fun k x t v h => by
    rcases keyIs_shape h with ⟨i, u, rfl, e⟩ | ⟨y, u, rfl, e⟩
    · exact nomatch e
    · injection e with e1 _
      subst e1
      cases v <;> rfl

end L2

namespace L2
open PySem PySem.Spec PyProof.Rows

/-- a value, without the heap -/
inductive V where
  | non | bl (b : Bool) | int (i : Int) | str (x : Str) | byt (b : Array UInt8) | flt (b : UInt64) | ref (a : Addr) | ty (n : String)
  deriving DecidableEq

noncomputable def RelV : V → Value → Prop
  | .non, u => u = Value.none
  | .bl b, u => u = Value.bool b
  | .int i, u => ∃ t, u = Value.int i t
  | .str x, u => ∃ t, u = Value.str x t
  | .byt b, u => ∃ t, u = Value.bytes b t
  | .flt b, u => ∃ t, u = Value.float b t
  | .ref a, u => u = Value.ref a
  | .ty n, u => u = Value.type n

noncomputable abbrev Vals : List V → List Value → Prop := Paired RelV
theorem Vals.length {xs : List V} {us : List Value} (r : Vals xs us) : xs.length = us.length := Paired.length r
theorem Vals.get : ∀ {xs : List V} {us : List Value} {i : Nat} {x : V}, Vals xs us → xs[i]? = some x → ∃ u, us[i]? = some u ∧ RelV x u
  | _, _, _, _, .nil, e => by simp at e
  | _, _, 0, _, .cons r _, e => by simp at e; subst e; exact ⟨_, rfl, r⟩
  | _, _, i + 1, x, .cons _ t, e => by
    obtain ⟨u, h1, h2⟩ := Vals.get (i := i) (x := x) t (by simpa using e)
    exact ⟨u, by simpa using h1, h2⟩
theorem Vals.append : ∀ {xs ys : List V} {us ws : List Value}, Vals xs us → Vals ys ws → Vals (xs ++ ys) (us ++ ws)
  | _, _, _, _, .nil, s => s
  | _, _, _, _, .cons r t, s => .cons r (Vals.append t s)
theorem Vals.take : ∀ {xs : List V} {us : List Value} (n : Nat), Vals xs us → Vals (xs.take n) (us.take n)
  | _, _, 0, _ => .nil
  | _, _, _ + 1, .nil => .nil
  | _, _, n + 1, .cons r t => .cons r (Vals.take n t)
theorem Vals.drop : ∀ {xs : List V} {us : List Value} (n : Nat), Vals xs us → Vals (xs.drop n) (us.drop n)
  | _, _, 0, r => r
  | _, _, _ + 1, .nil => .nil
  | _, _, n + 1, .cons _ t => Vals.drop n t
theorem Vals.none_of : ∀ {xs : List V} {us : List Value} {i : Nat}, Vals xs us → xs[i]? = none → us[i]? = none := fun {xs us i} r e => by
  have h1 := r.length
  have h2 : xs.length ≤ i := List.getElem?_eq_none_iff.mp e
  exact List.getElem?_eq_none_iff.mpr (by omega)

noncomputable def RelO : Option V → Option Value → Prop
  | some v, some u => RelV v u
  | none, none => True
  | _, _ => False
noncomputable def KV {κ : Type} : List (κ × V) → List (κ × Value) → Prop := Paired fun (p : κ × V) (q : κ × Value) => p.1 = q.1 ∧ RelV p.2 q.2

/-- a key of a dict (00_mix): an int or a text -/
noncomputable def kV : Key → V
  | .inl i => .int i
  | .inr x => .str x

/-- what stands at a tracked address -/
inductive HO where
  /-- a list -/
  | lst (xs : List V)
  /-- a tuple (never changes) -/
  | tup (xs : List V)
  /-- a dict whose keys are ints and texts; one whose keys are tuples of ints and texts (the empty one is both) -/
  | dK (kvs : List (Key × V)) | dT (kvs : List (List Key × V))
  /-- a set of ints: its members, its size -/
  | set (S : Int → Bool) (n : Nat)
  /-- an instance of the class at C, its dict at dx, its attributes -/
  | ins (C dx : Addr) (fs : List (Str × V))
  /-- the dict of the instance at x -/
  | own (x : Addr)
  /-- the dict of an exception -/
  | xd (fs : List (Str × V))
  /-- a bound method, f of x -/
  | met (f x : Addr)
  /-- a range object lo, lo + 1, .. below hi -/
  | rng (lo hi : Int)
  /-- a thing that is known to the object (the script; a dict while a loop walks it): read, never written while it is so -/
  | frz (o : Obj) (u : HO)
  /-- a code object's table -/
  | tbl (ps : Array Value)
  /-- any other thing, by what is true of its one object (a def of one's own: SetO a S n := HO.ext fun h => ..) -/
  | ext (φ : Heap → Prop)

noncomputable abbrev Hp := Addr → Option HO
noncomputable def upd (H : Hp) (a : Addr) (o : HO) : Hp := fun b => if b = a then some o else H b
theorem upd_same {H : Hp} {a : Addr} {o : HO} : upd H a o a = some o := by unfold upd; rw [if_pos rfl]
theorem upd_ne {H : Hp} {a b : Addr} {o : HO} (h : b ≠ a) : upd H a o b = H b := by unfold upd; rw [if_neg h]
/-- two objects of different content stand apart -/
theorem ne_of_none {H : Hp} {a b : Addr} {o : HO} (h : H a = some o) (h' : H b = none) : a ≠ b := by
  intro e; subst e; rw [h] at h'; cases h'

section
variable (P : Program) (w : World)
noncomputable def ObjOk (H : Hp) (h : Heap) (a : Addr) : HO → Prop
  | .lst xs => xs.length ≤ sizeLine ∧ ∃ (its : List Value) (n : Nat), Vals xs its ∧ h.get? a = some { cls := .type "list", data := .seq its.toArray n }
  | .tup xs => xs.length ≤ sizeLine ∧ ∃ its : List Value, Vals xs its ∧ IsTup h a its.toArray
  | .dK kvs => kvs.length ≤ sizeLine ∧ (a == sysModules) = false ∧ ∃ vs, KV kvs vs ∧ h.DictOf (mixKind P w) a vs
  | .dT kvs => kvs.length ≤ sizeLine ∧ (a == sysModules) = false ∧ ∃ xs : List (List Key × Addr × Value),
      Paired (fun (p : List Key × V) (q : List Key × Addr × Value) => p.1 = q.1 ∧ H q.2.1 = some (.tup (p.1.map kV)) ∧ RelV p.2 q.2.2) kvs xs ∧
      ∃ o es ep, h.get? a = some o ∧ o.ExactDict ∧ o.data = .dict es ep ∧ es.toList = xs.map (entryOfKey (tupleKind (mixKind P w))) ∧ (xs.map (·.1)).Nodup
  | .set S n => h.SetOf (intKind P w) a S n
  | .ins C dx fs => H dx = some (.own a) ∧ fs.length ≤ 1000 ∧ dx ≠ a ∧ h.get? a = some (PySem.W.instObj C dx) ∧
      ∃ mA, h.Ns1 dx mA ∧ (∀ f, RelO (fs.lookup f) (mA f)) ∧ PySem.Within mA (fs.map (·.1))
  | .own _ => ∃ o, h.get? a = some o
  | .xd fs => ∃ mA, h.Ns1 a mA ∧ ∀ f, RelO (fs.lookup f) (mA f)
  | .rng lo hi => ∃ t u v, h.get? a = some { cls := .type "range", data := .fields #[.int lo t, .int hi u, .int 1 v] }
  | .frz o u => h.get? a = some o ∧ ObjOk H h a u
  | .tbl ps => h.get? a = some { cls := .none, data := .fields ps }
  | .met f x => h.get? a = some (PySem.W.methodObj (.ref f) (.ref x))
  | .ext φ => φ h ∧ (∃ o, h.get? a = some o) ∧ ∀ h1 h2 : Heap, φ h1 → (∀ o, h1.get? a = some o → h2.get? a = some o) → φ h2
/-- the abstract heap is held -/
noncomputable def HOk (H : Hp) (h : Heap) : Prop := ∀ a o, H a = some o → ObjOk P w H h a o
end

section
variable {P : Program} {w : World} {H H' : Hp} {h h' : Heap} {a : Addr} {o : HO}
theorem ObjOk.lt (x : ObjOk P w H h a o) : a < h.objs.size := by
  cases o with
  | lst xs => obtain ⟨_, _, _, _, e⟩ := x; exact Heap.lt_size e
  | tup xs => obtain ⟨_, _, _, p⟩ := x; exact p.lt
  | dK kvs => obtain ⟨_, _, _, _, o, _, _, e, _⟩ := x; exact Heap.lt_size e
  | dT kvs => obtain ⟨_, _, _, _, o, _, _, e, _⟩ := x; exact Heap.lt_size e
  | set S n => obtain ⟨o, _, _, _, e, _⟩ := x; exact Heap.lt_size e
  | ins C dx fs => obtain ⟨_, _, _, e, _⟩ := x; exact Heap.lt_size e
  | own y => obtain ⟨_, e⟩ := x; exact Heap.lt_size e
  | xd fs => obtain ⟨_, ⟨_, _, _, e, _⟩, _⟩ := x; exact Heap.lt_size e
  | rng lo hi => obtain ⟨_, _, _, e⟩ := x; exact Heap.lt_size e
  | frz ob u => obtain ⟨e, _⟩ := x; exact Heap.lt_size e
  | tbl ps => exact Heap.lt_size (show h.get? a = some _ from x)
  | met f y => exact Heap.lt_size (show h.get? a = some _ from x)
  | ext φ => obtain ⟨_, ⟨_, e⟩, _⟩ := x; exact Heap.lt_size e
theorem Paired.mapP {α β : Type} {F G : α → β → Prop} : ∀ {l₁ : List α} {l₂ : List β}, Paired F l₁ l₂ → (∀ a b, F a b → G a b) → Paired G l₁ l₂
  | _, _, .nil, _ => .nil
  | _, _, .cons r t, f => .cons (f _ _ r) (Paired.mapP t f)
/-- what an object's description leans on: its own object, its own dict, the tuples -/
theorem ObjOk.stay (x : ObjOk P w H h a o) (k : ∀ b u, (b = a ∨ H b = some (.own a)) → h.get? b = some u → h'.get? b = some u)
    (ho : ∀ b, H b = some (.own a) → H' b = some (.own a)) (ht : ∀ b xs, H b = some (.tup xs) → H' b = some (.tup xs)) : ObjOk P w H' h' a o := by
  induction o with
  | lst xs => obtain ⟨z, its, n, r, e⟩ := x; exact ⟨z, its, n, r, k _ _ (.inl rfl) e⟩
  | tup xs => obtain ⟨z, its, r, ob, e, c⟩ := x; exact ⟨z, its, r, ob, k _ _ (.inl rfl) e, c⟩
  | dK kvs => obtain ⟨z, y, vs, r, ob, es, ep, e, c⟩ := x; exact ⟨z, y, vs, r, ob, es, ep, k _ _ (.inl rfl) e, c⟩
  | dT kvs =>
    obtain ⟨z, y, xs, r, ob, es, ep, e, c⟩ := x
    exact ⟨z, y, xs, Paired.mapP r fun p q z => ⟨z.1, ht _ _ z.2.1, z.2.2⟩, ob, es, ep, k _ _ (.inl rfl) e, c⟩
  | set S n => obtain ⟨ob, es, ep, t, e, c⟩ := x; exact ⟨ob, es, ep, t, k _ _ (.inl rfl) e, c⟩
  | ins C dx fs =>
    obtain ⟨d, z, ne, e, mA, ⟨od, es, ep, e2, c⟩, r⟩ := x
    exact ⟨ho _ d, z, ne, k _ _ (.inl rfl) e, mA, ⟨od, es, ep, k _ _ (.inr d) e2, c⟩, r⟩
  | own y => obtain ⟨ob, e⟩ := x; exact ⟨ob, k _ _ (.inl rfl) e⟩
  | xd fs => obtain ⟨mA, ⟨od, es, ep, e, c⟩, r⟩ := x; exact ⟨mA, ⟨od, es, ep, k _ _ (.inl rfl) e, c⟩, r⟩
  | rng lo hi => obtain ⟨t, u, v, e⟩ := x; exact ⟨t, u, v, k _ _ (.inl rfl) e⟩
  | frz ob u ih => obtain ⟨e, q⟩ := x; exact ⟨k _ _ (.inl rfl) e, ih q⟩
  | tbl ps =>
    have e : h.get? a = some { cls := .none, data := .fields ps } := x
    show h'.get? a = some { cls := .none, data := .fields ps }
    exact k a _ (.inl rfl) e
  | met f y =>
    have e : h.get? a = some (PySem.W.methodObj (.ref f) (.ref y)) := x
    show h'.get? a = some (PySem.W.methodObj (.ref f) (.ref y))
    exact k a _ (.inl rfl) e
  | ext φ => obtain ⟨p, ⟨o, e⟩, st⟩ := x; exact ⟨st _ _ p fun o q => k _ _ (.inl rfl) q, ⟨o, k _ _ (.inl rfl) e⟩, st⟩
theorem HOk.lt (x : HOk P w H h) (e : H a = some o) : a < h.objs.size := (x a o e).lt
theorem HOk.fresh (x : HOk P w H h) (e : h.objs.size ≤ a) : H a = none := by
  cases q : H a with
  | none => rfl
  | some u => exact absurd (Nat.lt_of_lt_of_le (x.lt q) e) (Nat.lt_irrefl _)
/-- every object of the heap is kept -/
theorem HOk.kept (x : HOk P w H h) (k : ∀ b u, h.get? b = some u → h'.get? b = some u) : HOk P w H h' := fun a o e =>
  (x a o e).stay (fun b u _ q => k b u q) (fun _ q => q) fun _ _ q => q
/-- a new object is laid and tracked -/
theorem HOk.laid (x : HOk P w H h) (k : ∀ b u, h.get? b = some u → h'.get? b = some u) (hp : h.objs.size ≤ a) (new : ObjOk P w (upd H a o) h' a o) : HOk P w (upd H a o) h' := fun b u e => by
  have hn := x.fresh hp
  by_cases hb : b = a
  · subst hb; rw [upd_same] at e; cases e; exact new
  · rw [upd_ne hb] at e
    exact (x b u e).stay (fun c v _ q => k c v q) (fun c q => by rw [upd_ne (ne_of_none q hn)]; exact q) fun c xs q => by rw [upd_ne (ne_of_none q hn)]; exact q
end

/-- what may be read as u: it is u, or a known u -/
noncomputable def Rd (H : Hp) (a : Addr) (u : HO) : Prop := H a = some u ∨ ∃ o, H a = some (.frz o u)
theorem Rd.of {H : Hp} {a : Addr} {u : HO} (h : H a = some u) : Rd H a u := .inl h
theorem Rd.ok {P : Program} {w : World} {H : Hp} {h : Heap} {a : Addr} {u : HO} (r : Rd H a u) (x : HOk P w H h) : ObjOk P w H h a u := by
  rcases r with r | ⟨o, r⟩
  · exact x a u r
  · obtain ⟨_, q⟩ := x a _ r
    exact q
/-- what may be written -/
noncomputable def Mut : Option HO → Prop
  | some (.lst _) => True
  | some (.dK _) => True
  | some (.dT _) => True
  | some (.set _ _) => True
  | some (.ins _ _ _) => True
  | some (.ext _) => True
  | _ => False
section
variable {P : Program} {w : World} {H : Hp} {h h' : Heap} {x e : Addr} {o' : HO}
/-- the object at e is changed: x itself, or the dict of the instance x -/
theorem HOk.write (ok : HOk P w H h) (mu : Mut (H x)) (he : e = x ∨ H e = some (.own x)) (k : ∀ b u, b ≠ e → h.get? b = some u → h'.get? b = some u) (heo : ∃ u, h'.get? e = some u)
    (new : ObjOk P w (upd H x o') h' x o') : HOk P w (upd H x o') h' := fun b u q => by
  have nown : ∀ c y, H c = some (.own y) → c ≠ x := fun c y r z => by subst z; rw [r] at mu; exact mu
  have ntup : ∀ c xs, H c = some (.tup xs) → c ≠ x := fun c xs r z => by subst z; rw [r] at mu; exact mu
  by_cases hb : b = x
  · subst hb; rw [upd_same] at q; cases q; exact new
  · rw [upd_ne hb] at q
    by_cases hbe : b = e
    · have q' : H b = some (.own x) := by
        rcases he with z | z
        · exact absurd (hbe.trans z) hb
        · rw [hbe]; exact z
      rw [q] at q'; cases q'
      obtain ⟨v, hv⟩ := heo
      exact ⟨v, by rw [hbe]; exact hv⟩
    · refine (ok b u q).stay (fun c v hc r => k c v ?_ r) (fun c r => by rw [upd_ne (nown c b r)]; exact r) fun c xs r => by rw [upd_ne (ntup c xs r)]; exact r
      rcases hc with rfl | hc
      · exact hbe
      · rintro rfl
        rcases he with z | z
        · exact nown c b hc z
        · rw [hc] at z; cases z; exact hb rfl
end

/-! ### kept unless tracked; of the frames at fs (the callers') the slots may change (an exception that passes writes there); of the records at ex (iterators) nothing is said -/
structure Un (fs ex : List Addr) (H H' : Hp) (h h' : Heap) : Prop where
  keep : ∀ b o, h.get? b = some o → H b = none → b ∉ fs → b ∉ ex → h'.get? b = some o
  slot : ∀ b o, h.get? b = some o → H b = none → b ∈ fs → b ∉ ex → ∃ sl, h'.get? b = some { o with slots := sl }
  free : ∀ b o, h.get? b = some o → H b = none → b ∉ ex → H' b = none
  there : ∀ b o, h.get? b = some o → b ∉ ex → ∃ o', h'.get? b = some o'
  tups : ∀ b xs, H b = some (.tup xs) → H' b = some (.tup xs)
  frzs : ∀ b o u, H b = some (.frz o u) → H' b = some (.frz o u)
  tbls : ∀ b ps, H b = some (.tbl ps) → ∃ more, H' b = some (.tbl (ps ++ more))
section
variable {fs fs' ex ex' : List Addr} {H H1 H2 : Hp} {h h1 h2 h' : Heap} {a x e : Addr} {o : HO}
theorem Un.any (u : Un fs ex H H1 h h1) {b : Addr} {ob : Obj} (q : h.get? b = some ob) (n : H b = none) (hx : b ∉ ex) : ∃ sl, h1.get? b = some { ob with slots := sl } := by
  by_cases hb : b ∈ fs
  · exact u.slot b ob q n hb hx
  · exact ⟨ob.slots, u.keep b ob q n hb hx⟩
theorem Un.trans (a : Un fs ex H H1 h h1) (b : Un fs ex H1 H2 h1 h2) : Un fs ex H H2 h h2 where
  keep := fun c ob q n hc hx => b.keep c ob (a.keep c ob q n hc hx) (a.free c ob q n hx) hc hx
  slot := fun c ob q n hc hx => by
    obtain ⟨sl, e1⟩ := a.slot c ob q n hc hx
    obtain ⟨sl', e2⟩ := b.slot c _ e1 (a.free c ob q n hx) hc hx
    exact ⟨sl', e2⟩
  free := fun c ob q n hx => by
    obtain ⟨o', e1⟩ := a.there c ob q hx
    exact b.free c o' e1 (a.free c ob q n hx) hx
  there := fun c ob q hx => by
    obtain ⟨o', e1⟩ := a.there c ob q hx
    exact b.there c o' e1 hx
  tups := fun c xs q => b.tups c xs (a.tups c xs q)
  frzs := fun c ob xs q => b.frzs c ob xs (a.frzs c ob xs q)
  tbls := fun c ps q => by
    obtain ⟨m1, e1⟩ := a.tbls c ps q
    obtain ⟨m2, e2⟩ := b.tbls c _ e1
    exact ⟨m1 ++ m2, by rw [e2, Array.append_assoc]⟩
theorem Un.kept (k : ∀ b u, h.get? b = some u → h'.get? b = some u) : Un fs ex H H h h' :=
  ⟨fun b ob q _ _ _ => k b ob q, fun b ob q _ _ _ => ⟨ob.slots, k b ob q⟩, fun _ _ _ n _ => n, fun b ob q _ => ⟨ob, k b ob q⟩, fun _ _ q => q, fun _ _ _ q => q, fun _ ps q => ⟨#[], by rw [q]; simp⟩⟩
theorem Un.refl : Un fs ex H H h h := Un.kept fun _ _ q => q
theorem Un.laid (k : ∀ b u, h.get? b = some u → h'.get? b = some u) (hp : h.objs.size ≤ a) (hn : H a = none) : Un fs ex H (upd H a o) h h' where
  keep := fun b u q _ _ _ => k b u q
  slot := fun b u q _ _ _ => ⟨u.slots, k b u q⟩
  free := fun b u q n _ => by rw [upd_ne (Nat.ne_of_lt (Nat.lt_of_lt_of_le (Heap.lt_size q) hp))]; exact n
  there := fun b u q _ => ⟨u, k b u q⟩
  tups := fun b xs q => by rw [upd_ne (ne_of_none q hn)]; exact q
  frzs := fun b u xs q => by rw [upd_ne (ne_of_none q hn)]; exact q
  tbls := fun b ps q => ⟨#[], by rw [upd_ne (ne_of_none q hn), q]; simp⟩
theorem Un.write (mu : Mut (H x)) (he : e = x ∨ H e = some (.own x)) (k : ∀ b u, b ≠ e → h.get? b = some u → h'.get? b = some u) (heo : ∃ u, h'.get? e = some u) : Un fs ex H (upd H x o) h h' := by
  have hx : ∀ b, H b = none → b ≠ x := fun b n z => by subst z; rw [n] at mu; exact mu
  have hb : ∀ b, H b = none → b ≠ e := fun b n z => by
    subst z
    rcases he with r | r
    · exact hx b n r
    · rw [n] at r; cases r
  have hm : ∀ b u, H b = some u → ¬ Mut (some u) → b ≠ x := fun b u q nm z => by subst z; rw [q] at mu; exact nm mu
  refine ⟨fun b u q n _ _ => k b u (hb b n) q, fun b u q n _ _ => ⟨u.slots, k b u (hb b n) q⟩, fun b u q n _ => by rw [upd_ne (hx b n)]; exact n, fun b u q _ => ?_,
    fun b xs q => by rw [upd_ne (hm b _ q fun z => z)]; exact q, fun b u xs q => by rw [upd_ne (hm b _ q fun z => z)]; exact q, fun b ps q => ⟨#[], by rw [upd_ne (hm b _ q fun z => z), q]; simp⟩⟩
  by_cases hbe : b = e
  · subst hbe; exact heo
  · exact ⟨u, k b u hbe q⟩
theorem Un.mono (u : Un fs ex H H1 h h1) (hs : ∀ b ∈ fs, b ∈ fs') (hx : ∀ b ∈ ex, b ∈ ex') : Un fs' ex' H H1 h h1 :=
  ⟨fun b ob q n hb he => u.keep b ob q n (fun z => hb (hs b z)) fun z => he (hx b z), fun _ _ q n _ he => u.any q n fun z => he (hx _ z), fun b ob q n he => u.free b ob q n fun z => he (hx b z), fun b ob q he => u.there b ob q fun z => he (hx b z), u.tups, u.frzs, u.tbls⟩
end

/-! ### the heap without what is tracked -/
noncomputable def trk (h : Heap) (H : Hp) : List Addr := (List.range h.objs.size).filter fun a => (H a).isSome
noncomputable def hidT (h : Heap) (H : Hp) : Heap := PySem.W.hideAll h (trk h H)
theorem hidT_size (h : Heap) (H : Hp) : (hidT h H).objs.size = h.objs.size := PySem.W.hideAll_size _ _
theorem hidT_get {h : Heap} {H : Hp} {b : Addr} {o : Obj} (e : h.get? b = some o) (n : H b = none) : (hidT h H).get? b = some o :=
  PySem.W.hideAll_get _ e fun hm => by
    have q : (H b).isSome = true := (List.mem_filter.mp hm).2
    rw [n] at q; simp at q
theorem of_hidT {h : Heap} {H : Hp} {b : Addr} {o : Obj} (e : (hidT h H).get? b = some o) : h.get? b = some o ∧ H b = none := by
  have e' : h.get? b = some o := PySem.W.of_hideAll (trk h H) e
  refine ⟨e', ?_⟩
  cases q : H b with
  | none => rfl
  | some x =>
    have hm : b ∈ trk h H := List.mem_filter.mpr ⟨List.mem_range.mpr (Heap.lt_size e'), by simp [q]⟩
    have z : (hidT h H).get? b = none := PySem.W.hideAll_none (trk h H) hm
    rw [z] at e; cases e

/-! ### OpenK's ledger, filled with every new object but one -/
noncomputable def allNews (g h : Heap) (L : Addr) : List (Addr × Obj) := (List.range h.objs.size).filterMap fun a => if a = L ∨ (g.get? a).isSome = true then none else (h.get? a).map fun o => (a, o)
noncomputable def rest (g h : Heap) (L d : Addr) : List (Addr × Obj) := (allNews g h L).filter fun p => decide (p.1 ≠ d)
end L2

namespace L2
open PySem PySem.Spec PyProof.Rows

/-- the module's facts, over the base: the heap at the law's entry without what is tracked there -/
structure Mod (K : PySem.W.Frag) (mg : Str → Option Value) (base : Heap) : Prop where
  kin : K.In base
  glob : base.Ns mainGlobals mg
  blt : ∃ mb, base.Ns builtinsNs mb ∧ ∀ x : Str, x ≠ "__name__" → mb x = bootBuiltins x
  nolimit : base.NoLimit

/-- the context: a def's body (or a comprehension's block) running. base: fixed through the whole law; s₀, H₀: the entry; outer: the frames whose slots others may change (a def's callers); stack: all frames that run;
   ex: iterators that were made ahead of the entry and are walked here (a comprehension's); fn: the names whose cells were made at the entry (a def: all; a comprehension's block: its own); calm: not within an except suite; pn: pins that every state bears; xe: what is wanted of an exception that leaves the code -/
structure Cx where
  prog : Program
  w : World
  K : PySem.W.Frag
  mg : Str → Option Value
  base : Heap
  A : Around
  N : List Str
  s₀ : Shared
  H₀ : Hp
  env : Env
  outer : List Env
  stack : List Env
  ex : List Addr
  fn : Str → Bool
  calm : Bool
  pn : List (Addr × Obj)
  xe : Value → Shared → Prop
/-- the callers' frames -/
noncomputable def frs (l : List Env) : List Addr := l.filterMap (·.frame)
noncomputable abbrev Cx.fs (X : Cx) : List Addr := frs X.outer

noncomputable def Vis (sc : Scope) (x : Str) : Prop := sc.names.lookup x = some .local ∨ sc.names.lookup x = some .cell ∨ sc.names.lookup x = some .free
noncomputable def Loc (sc : Scope) (x : Str) : Prop := sc.names.lookup x = some .local ∨ sc.names.lookup x = some .cell
noncomputable def Look (env : Env) (h : Heap) (m : Str → Option Value) (x : Str) (u : Value) : Prop :=
  (env.kindOf x = some .local ∧ m x = some u) ∨ ((env.kindOf x = some .cell ∨ env.kindOf x = some .free) ∧ ∃ c, env.cells.lookup x = some c ∧ h.IsCell c (some u))

structure Cx.Ok (X : Cx) : Prop where
  mod : Mod X.K X.mg X.base
  kind : X.env.scope.kind = .function
  glob : X.env.globals = mainGlobals
  blt : X.env.builtins = builtinsNs
  above : X.s₀.heap.objs.size ≤ X.env.locals
  inj : ∀ x y c, X.env.cells.lookup x = some c → X.env.cells.lookup y = some c → x = y
  has : ∀ x, (X.env.kindOf x = some .cell ∨ X.env.kindOf x = some .free) → ∃ c, X.env.cells.lookup x = some c
  cab : ∀ x c, X.fn x = true → X.env.cells.lookup x = some c → X.s₀.heap.objs.size ≤ c
  hd : X.calm = true → X.A.handled = none
  frames : X.A.frames = some X.stack
  stk : X.stack = X.outer ∨ (X.stack = X.env :: X.outer ∧ X.env.frame = some X.env.locals)
  exf : ∀ b ∈ X.ex, b ≠ X.env.locals ∧ ∀ x c, X.env.cells.lookup x = some c → c ≠ b
  bs : ∀ b o, X.base.get? b = some o → X.s₀.heap.get? b = some o ∧ X.H₀ b = none
  bsz : X.base.objs.size ≤ X.s₀.heap.objs.size
  noex : ∀ b o, X.base.get? b = some o → b ∉ X.ex
  exfs : ∀ b ∈ X.ex, b ∉ X.fs
  funs : X.s₀.heap.FunFrames X.base X.outer
  frf : ∀ b ∈ X.fs, X.H₀ b = none

structure Inv (X : Cx) (pins : List (Addr × Obj)) (σ : List (Option V)) (H : Hp) (s : Shared) : Prop where
  ok : X.Ok
  os : s.os = X.s₀.os
  bare : AllBare s.gens
  base : Un X.fs X.ex X.H₀ H X.s₀.heap s.heap
  loc : ∃ m, s.heap.Ns X.env.locals m ∧ ∀ (i : Nat) (x : Str) (v : V), X.N[i]? = some x → σ[i]? = some (some v) → Vis X.env.scope x → ∃ u, RelV v u ∧ Look X.env s.heap m x u
  cell : ∀ x c, X.env.cells.lookup x = some c → ∃ v, s.heap.IsCell c v
  free : H X.env.locals = none
  freeC : ∀ x c, X.env.cells.lookup x = some c → H c = none
  pin : ∀ p ∈ X.pn ++ pins, s.heap.get? p.1 = some p.2 ∧ H p.1 = none ∧ p.1 ≠ X.env.locals ∧ p.1 ∉ X.fs ∧ ∀ v, p.2.data ≠ .cell v
  hok : HOk X.prog X.w H s.heap
  len : σ.length = X.N.length

section
variable {X : Cx} {pins : List (Addr × Obj)} {σ : List (Option V)} {H H' : Hp} {s : Shared} {h' : Heap}

theorem Cx.Ok.nofr (ok : X.Ok) {b : Addr} {o : Obj} (e : X.base.get? b = some o) : b ∉ X.fs := fun hb => by
  have := (ok.funs.mem hb).1
  rw [e] at this; cases this
theorem Inv.bs (I : Inv X pins σ H s) : ∀ b o, X.base.get? b = some o → s.heap.get? b = some o ∧ H b = none := fun b o e =>
  ⟨I.base.keep b o (I.ok.bs b o e).1 (I.ok.bs b o e).2 (I.ok.nofr e) (I.ok.noex b o e), I.base.free b o (I.ok.bs b o e).1 (I.ok.bs b o e).2 (I.ok.noex b o e)⟩
theorem Inv.bk (I : Inv X pins σ H s) : ∀ b o, X.base.get? b = some o → s.heap.get? b = some o := fun b o e => (I.bs b o e).1
theorem Inv.mod (I : Inv X pins σ H s) : Mod X.K X.mg X.base := I.ok.mod
theorem Inv.kIn (I : Inv X pins σ H s) : X.K.In s.heap := I.ok.mod.kin.keeps I.bk
/-- the frame over the base: for OpenK's rules (K.In X.base is I.mod.kin) -/
theorem Inv.fr (I : Inv X pins σ H s) : ∃ m, Fr X.base X.env.locals s.heap m :=
  let ⟨m, hn, _⟩ := I.loc
  ⟨m, hn, I.bk, Nat.le_trans I.ok.bsz I.ok.above⟩
theorem Inv.lt (I : Inv X pins σ H s) : X.env.locals < s.heap.objs.size := let ⟨_, hn, _⟩ := I.loc; hn.lt
theorem Inv.sz (I : Inv X pins σ H s) : X.s₀.heap.objs.size ≤ s.heap.objs.size := Nat.le_trans I.ok.above (Nat.le_of_lt I.lt)
theorem Inv.nofs (I : Inv X pins σ H s) {a : Addr} (h : s.heap.objs.size ≤ a) : a ∉ X.fs := fun hb => by
  obtain ⟨_, o, ho, _⟩ := I.ok.funs.mem hb
  exact absurd (Nat.lt_of_lt_of_le (Heap.lt_size ho) (Nat.le_trans I.sz h)) (Nat.lt_irrefl _)
theorem Inv.cne (I : Inv X pins σ H s) : ∀ x c, X.env.cells.lookup x = some c → c ≠ X.env.locals := fun x c e z => by
  obtain ⟨v, o, ho, hd⟩ := I.cell x c e
  obtain ⟨m, ⟨o', es, ep, ho', hd', _⟩, _⟩ := I.loc
  rw [z, ho'] at ho; cases ho; rw [hd'] at hd; cases hd
theorem Inv.funs (I : Inv X pins σ H s) : s.heap.FunFrames X.base X.outer := by
  have all : ∀ (l : List Env), (∀ b ∈ frs l, b ∈ X.fs) → X.s₀.heap.FunFrames X.base l → s.heap.FunFrames X.base l := by
    intro l
    induction l with
    | nil => intro _ _; trivial
    | cons env r ih =>
      intro hs hl
      obtain ⟨hk, ⟨L, o, hf, hn, ho, hd⟩, hr⟩ := hl
      have hL : L ∈ X.fs := hs L (by unfold frs; rw [List.filterMap_cons, hf]; exact List.mem_cons_self)
      obtain ⟨sl, e⟩ := I.base.slot L o ho (I.ok.frf L hL) hL fun z => I.ok.exfs L z hL
      exact ⟨hk, ⟨L, _, hf, hn, e, hd⟩, ih (fun b hb => hs b (by unfold frs; rw [List.filterMap_cons, hf]; exact List.mem_cons_of_mem _ hb)) hr⟩
  exact all X.outer (fun _ hb => hb) I.ok.funs

/-- the frames that run, for a call -/
theorem Inv.stack (I : Inv X pins σ H s) : s.heap.FunFrames X.base X.stack := by
  rcases I.ok.stk with e | ⟨e, hf⟩
  · rw [e]; exact I.funs
  · rw [e]
    obtain ⟨m, hn, _⟩ := I.loc
    refine .cons (by rw [I.ok.kind]; decide) hf hn ?_ I.funs
    exact Heap.get?_none_of_le (Nat.le_trans I.ok.bsz I.ok.above)
theorem Inv.stkSub (I : Inv X pins σ H s) : ∀ b ∈ frs X.stack, b ∈ X.env.locals :: X.fs := fun b hb => by
  rcases I.ok.stk with e | ⟨e, hf⟩
  · rw [e] at hb; exact List.mem_cons_of_mem _ hb
  · rw [e] at hb
    unfold frs at hb
    rw [List.filterMap_cons, hf] at hb
    exact hb
theorem Inv.stkFree (I : Inv X pins σ H s) : ∀ b ∈ frs X.stack, H b = none := fun b hb => by
  rcases List.mem_cons.mp (I.stkSub b hb) with e | hb
  · rw [e]; exact I.free
  · obtain ⟨_, o, ho, _⟩ := I.ok.funs.mem hb
    exact I.base.free b o ho (I.ok.frf b hb) fun z => I.ok.exfs b z hb

/-- THE STEP: the untracked objects but the frame and the records at ch are kept (the callers' frames up to slots), the frame's map is kept, the new abstract heap is held -/
theorem Inv.step {g' : Array GenState} {t' : Nat} {d' : Drawn} {ch : List Addr} (I : Inv X pins σ H s)
    (hch : ∀ b ∈ ch, (b ∈ X.ex ∨ X.s₀.heap.objs.size ≤ b) ∧ b ≠ X.env.locals ∧ (∀ x c, X.env.cells.lookup x = some c → c ≠ b) ∧ ∀ p ∈ X.pn ++ pins, p.1 ≠ b)
    (keep : ∀ b o, b ≠ X.env.locals → b ∉ X.fs → b ∉ ch → s.heap.get? b = some o → H b = none → h'.get? b = some o)
    (slot : ∀ b o, b ≠ X.env.locals → b ∈ X.fs → b ∉ ch → s.heap.get? b = some o → H b = none → ∃ sl, h'.get? b = some { o with slots := sl }) (free : ∀ b o, b ∉ ch → s.heap.get? b = some o → H b = none → H' b = none)
    (there : ∀ b o, b ∉ ch → s.heap.get? b = some o → ∃ o', h'.get? b = some o')
    (tups : ∀ b xs, H b = some (.tup xs) → H' b = some (.tup xs)) (frzs : ∀ b o u, H b = some (.frz o u) → H' b = some (.frz o u)) (tbls : ∀ b ps, H b = some (.tbl ps) → ∃ more, H' b = some (.tbl (ps ++ more)))
    (ns : ∀ m, s.heap.Ns X.env.locals m → h'.Ns X.env.locals m) (hok : HOk X.prog X.w H' h') (hg : AllBare g') :
    Inv X pins σ H' { s with heap := h', gens := g', drawn := d', toks := t' } := by
  have neL : ∀ b o, X.s₀.heap.get? b = some o → b ≠ X.env.locals := fun b o e => Nat.ne_of_lt (Nat.lt_of_lt_of_le (Heap.lt_size e) I.ok.above)
  have neC : ∀ b o, X.s₀.heap.get? b = some o → b ∉ X.ex → b ∉ ch := fun b o e hx hb => by
    rcases (hch b hb).1 with z | z
    · exact hx z
    · exact absurd (Nat.lt_of_lt_of_le (Heap.lt_size e) z) (Nat.lt_irrefl _)
  have cellK : ∀ x c, X.env.cells.lookup x = some c → ∀ v, s.heap.IsCell c v → h'.IsCell c v := fun x c e v ⟨o, ho, hd⟩ => by
    have nch : c ∉ ch := fun z => (hch c z).2.2.1 x c e rfl
    by_cases hc : c ∈ X.fs
    · obtain ⟨sl, q⟩ := slot c o (I.cne x c e) hc nch ho (I.freeC x c e)
      exact ⟨_, q, hd⟩
    · exact ⟨o, keep c o (I.cne x c e) hc nch ho (I.freeC x c e), hd⟩
  refine ⟨I.ok, I.os, hg, ⟨fun b o e n hb hx => ?_, fun b o e n hb hx => ?_, fun b o e n hx => ?_, fun b o e hx => ?_, fun b xs e => tups b xs (I.base.tups b xs e), fun b o xs e => frzs b o xs (I.base.frzs b o xs e), fun b ps e => ?_⟩, ?_, fun x c e => ?_, ?_, fun x c e => ?_, fun p hp => ?_, hok, I.len⟩
  · exact keep b o (neL b o e) hb (neC b o e hx) (I.base.keep b o e n hb hx) (I.base.free b o e n hx)
  · obtain ⟨sl, e1⟩ := I.base.slot b o e n hb hx
    obtain ⟨sl', e2⟩ := slot b _ (neL b o e) hb (neC b o e hx) e1 (I.base.free b o e n hx)
    exact ⟨sl', e2⟩
  · obtain ⟨o', e1⟩ := I.base.there b o e hx
    exact free b o' (neC b o e hx) e1 (I.base.free b o e n hx)
  · obtain ⟨o', e1⟩ := I.base.there b o e hx
    exact there b o' (neC b o e hx) e1
  · obtain ⟨m1, e1⟩ := I.base.tbls b ps e
    obtain ⟨m2, e2⟩ := tbls b _ e1
    exact ⟨m1 ++ m2, by rw [e2, Array.append_assoc]⟩
  · obtain ⟨m, hn, hl⟩ := I.loc
    refine ⟨m, ns m hn, fun i x v e1 e2 e3 => ?_⟩
    obtain ⟨u, r, l⟩ := hl i x v e1 e2 e3
    refine ⟨u, r, ?_⟩
    rcases l with l | ⟨k, c, e, z⟩
    · exact .inl l
    · exact .inr ⟨k, c, e, cellK x c e _ z⟩
  · obtain ⟨v, z⟩ := I.cell x c e
    exact ⟨v, cellK x c e v z⟩
  · obtain ⟨m, ⟨o, _, _, ho, _⟩, _⟩ := I.loc
    exact free _ o (fun z => (hch _ z).2.1 rfl) ho I.free
  · obtain ⟨v, o, ho, hd⟩ := I.cell x c e
    exact free c o (fun z => (hch c z).2.2.1 x c e rfl) ho (I.freeC x c e)
  · obtain ⟨e, n, ne, nf, d⟩ := I.pin p hp
    have nch : p.1 ∉ ch := fun z => (hch p.1 z).2.2.2 p hp rfl
    exact ⟨keep p.1 p.2 ne nf nch e n, free p.1 p.2 nch e n, ne, nf, d⟩
/-- .. where the frame's own object is kept too -/
theorem Inv.un {t' : Nat} (I : Inv X pins σ H s) (u : Un X.fs [] H H' s.heap h') (hok : HOk X.prog X.w H' h') : Inv X pins σ H' { s with heap := h', toks := t' } := by
  obtain ⟨m, ⟨o, es, ep, ho, r⟩, _⟩ := id I.loc
  obtain ⟨sl, hL⟩ := u.any ho I.free (by simp)
  exact I.step (g' := s.gens) (d' := s.drawn) (ch := []) (fun _ z => nomatch z) (fun b o _ hb _ e n => u.keep b o e n hb (by simp)) (fun b o _ hb _ e n => u.slot b o e n hb (by simp)) (fun b o _ e n => u.free b o e n (by simp)) (fun b o _ e => u.there b o e (by simp)) u.tups u.frzs u.tbls (fun m' hm => by
    obtain ⟨o', es', ep', ho', r'⟩ := hm
    rw [ho] at ho'; cases ho'
    exact ⟨_, es', ep', hL, r'⟩) hok I.bare
/-- behind a call (or a comprehension's block): the slots of this frame may have changed too, the records at ch may have turned -/
theorem Inv.call {g' : Array GenState} {t' : Nat} {d' : Drawn} {ch : List Addr} (I : Inv X pins σ H s) (u : Un (frs X.stack) ch H H' s.heap h') (hok : HOk X.prog X.w H' h') (hg : AllBare g')
    (hch : ∀ b ∈ ch, (b ∈ X.ex ∨ X.s₀.heap.objs.size ≤ b) ∧ b ≠ X.env.locals ∧ (∀ x c, X.env.cells.lookup x = some c → c ≠ b) ∧ ∀ p ∈ X.pn ++ pins, p.1 ≠ b) :
    Inv X pins σ H' { s with heap := h', gens := g', drawn := d', toks := t' } := by
  obtain ⟨m, ⟨o, es, ep, ho, r⟩, _⟩ := id I.loc
  obtain ⟨sl, hL⟩ := u.any ho I.free fun z => (hch _ z).2.1 rfl
  exact I.step (ch := ch) hch (fun b o hL hb hc e n => u.keep b o e n (fun z => (List.mem_cons.mp (I.stkSub b z)).elim hL hb) hc) (fun b o _ _ hc e n => u.any e n hc) (fun b o hc e n => u.free b o e n hc) (fun b o hc e => u.there b o e hc) u.tups u.frzs u.tbls (fun m' hm => by
    obtain ⟨o', es', ep', ho', r'⟩ := hm
    rw [ho] at ho'; cases ho'
    exact ⟨_, es', ep', hL, r'⟩) hok hg
/-- an untracked record of ours (an iterator) has turned -/
theorem Inv.turned {t' : Nat} {it : Addr} (I : Inv X pins σ H s) (k : ∀ b o, b ≠ it → s.heap.get? b = some o → h'.get? b = some o) (hn : H it = none) (hL : it ≠ X.env.locals)
    (h1 : it ∈ X.ex ∨ X.s₀.heap.objs.size ≤ it) (h2 : ∀ x c, X.env.cells.lookup x = some c → c ≠ it) (h3 : ∀ p ∈ X.pn ++ pins, p.1 ≠ it) : Inv X pins σ H { s with heap := h', toks := t' } := by
  have nit : ∀ b u, H b = some u → b ≠ it := fun b u e z => by rw [z, hn] at e; cases e
  refine I.step (g' := s.gens) (d' := s.drawn) (ch := [it]) (fun b hb => ?_) (fun b o _ _ hc e _ => k b o (fun z => hc (by simp [z])) e) (fun b o _ _ hc e _ => ⟨o.slots, k b o (fun z => hc (by simp [z])) e⟩) (fun _ _ _ _ n => n)
    (fun b o hc e => ⟨o, k b o (fun z => hc (by simp [z])) e⟩) (fun _ _ e => e) (fun _ _ _ e => e) (fun b ps e => ⟨#[], by rw [e]; simp⟩) (fun m hm => ?_) (fun b u e => ?_) I.bare
  · have e : b = it := by simpa using hb
    subst e
    exact ⟨h1, hL, h2, h3⟩
  · obtain ⟨o, es, ep, ho, r⟩ := hm
    exact ⟨o, es, ep, k _ o (Ne.symm hL) ho, r⟩
  · refine (I.hok b u e).stay (fun c v hc q => k c v ?_ q) (fun _ q => q) fun _ _ q => q
    rcases hc with z | z
    · rw [z]; exact nit b u e
    · exact nit c _ z
theorem Inv.tok (I : Inv X pins σ H s) (t : Nat) : Inv X pins σ H { s with toks := t } := I.un (h' := s.heap) (t' := t) Un.refl I.hok
/-- all objects kept -/
theorem Inv.kept {t' : Nat} (I : Inv X pins σ H s) (k : ∀ b u, s.heap.get? b = some u → h'.get? b = some u) : Inv X pins σ H { s with heap := h', toks := t' } := I.un (Un.kept k) (I.hok.kept k)
/-- a new object laid and tracked -/
theorem Inv.laid {a : Addr} {o : HO} {t' : Nat} (I : Inv X pins σ H s) (k : ∀ b u, s.heap.get? b = some u → h'.get? b = some u) (hp : s.heap.objs.size ≤ a) (new : ObjOk X.prog X.w (upd H a o) h' a o) :
    Inv X pins σ (upd H a o) { s with heap := h', toks := t' } := I.un (Un.laid k hp (I.hok.fresh hp)) (I.hok.laid k hp new)
/-- an object written -/
theorem Inv.write {x e : Addr} {o : HO} {t' : Nat} (I : Inv X pins σ H s) (mu : Mut (H x)) (he : e = x ∨ H e = some (.own x)) (k : ∀ b u, b ≠ e → s.heap.get? b = some u → h'.get? b = some u) (heo : ∃ u, h'.get? e = some u)
    (new : ObjOk X.prog X.w (upd H x o) h' x o) : Inv X pins σ (upd H x o) { s with heap := h', toks := t' } := I.un (Un.write mu he k heo) (I.hok.write mu he k heo new)
/-- forgetting slots, pins -/
theorem Inv.pins_of {pins' : List (Addr × Obj)} (I : Inv X pins σ H s) (h : ∀ p ∈ pins', s.heap.get? p.1 = some p.2 ∧ H p.1 = none ∧ p.1 ≠ X.env.locals ∧ p.1 ∉ X.fs ∧ ∀ v, p.2.data ≠ .cell v) : Inv X pins' σ H s :=
  ⟨I.ok, I.os, I.bare, I.base, I.loc, I.cell, I.free, I.freeC, fun p hp => (List.mem_append.mp hp).elim (fun z => I.pin p (List.mem_append_left _ z)) (h p), I.hok, I.len⟩

theorem nodup_ix {N : List Str} (hN : N.Nodup) {i j : Nat} {x : Str} (a : N[i]? = some x) (b : N[j]? = some x) : i = j := by
  obtain ⟨h1, e1⟩ := List.getElem?_eq_some_iff.mp a
  obtain ⟨h2, e2⟩ := List.getElem?_eq_some_iff.mp b
  exact (List.getElem_inj hN).mp (e1.trans e2.symm)

/-- a name is stored; what changed -/
theorem store_ok2 {M : Model} {A : Around} {E : Value → Shared → Prop} {i : Nat} {x : Str} {v : V} {u : Value} {Q : Unit → Shared → Prop} (I : Inv X pins σ H s) (hN : X.N.Nodup) (hi : X.N[i]? = some x) (hx : Loc X.env.scope x) (r : RelV v u)
    (h : ∀ s', Inv X pins (σ.set i (some v)) H s' → (∃ a, Heap.SameBut a s.heap s'.heap ∧ (a = X.env.locals ∨ X.env.cells.lookup x = some a)) → Q () s') (hf : X.fn x = true ∨ X.env.scope.names.lookup x = some .local := by first | exact .inl rfl | exact .inr rfl | assumption) : wpAny M A (storeName X.env x u) Q E s := by
  obtain ⟨m, hn, hl⟩ := id I.loc
  have hcls : (X.env.scope.kind == .class || (X.env.scope.kind == .module && X.env.locals != X.env.globals)) = false := by rw [I.ok.kind]; rfl
  have hiσ : i < σ.length := by rw [I.len]; exact (List.getElem?_eq_some_iff.mp hi).1
  have cne := I.cne
  have tracked : ∀ {a : Addr} {h' : Heap}, (∃ o, s.heap.get? a = some o ∧ H a = none) → Heap.SameBut a s.heap h' → HOk X.prog X.w H h' := fun {a h'} ha hs b ob e => by
    obtain ⟨_, _, hfree⟩ := ha
    refine (I.hok b ob e).stay (fun c w' hc q => (hs.2 c ?_).trans q) (fun _ q => q) fun _ _ q => q
    rintro rfl
    rcases hc with rfl | hc
    · rw [hfree] at e; cases e
    · rw [hfree] at hc; cases hc
  rcases hx with hk | hk
  · refine wpAny_storeName_local hk hn (fun h' hn' hs => ?_) hcls
    obtain ⟨oL, _, _, hoL, _⟩ := id hn
    refine h _ ⟨I.ok, I.os, I.bare, ⟨fun b o e n hb hx => ?_, fun b o e n hb hx => ?_, I.base.free, fun b o e hx => ?_, I.base.tups, I.base.frzs, I.base.tbls⟩, ⟨_, hn', fun j y v' e1 e2 e3 => ?_⟩, fun y c e => ?_, I.free, I.freeC, fun p hp => ?_, tracked ⟨oL, hoL, I.free⟩ hs, by simpa using I.len⟩ ⟨_, hs, .inl rfl⟩
    · exact (hs.2 b (Nat.ne_of_lt (Nat.lt_of_lt_of_le (Heap.lt_size e) I.ok.above))).trans (I.base.keep b o e n hb hx)
    · obtain ⟨sl, e1⟩ := I.base.slot b o e n hb hx
      exact ⟨sl, (hs.2 b (Nat.ne_of_lt (Nat.lt_of_lt_of_le (Heap.lt_size e) I.ok.above))).trans e1⟩
    · obtain ⟨o', e1⟩ := I.base.there b o e hx
      exact ⟨o', (hs.2 b (Nat.ne_of_lt (Nat.lt_of_lt_of_le (Heap.lt_size e) I.ok.above))).trans e1⟩
    · by_cases hj : j = i
      · subst hj
        rw [hi] at e1; cases e1
        rw [List.getElem?_set_self hiσ] at e2
        cases e2
        exact ⟨u, r, .inl ⟨hk, by simp⟩⟩
      · rw [List.getElem?_set_ne (Ne.symm hj)] at e2
        obtain ⟨u', r', q⟩ := hl j y v' e1 e2 e3
        refine ⟨u', r', ?_⟩
        rcases q with ⟨k, e⟩ | ⟨k, c, e, z⟩
        · refine .inl ⟨k, ?_⟩
          have : y ≠ x := fun e => hj (nodup_ix hN e1 (e ▸ hi))
          simp [this, e]
        · exact .inr ⟨k, c, e, z.sameBut hs (cne y c e)⟩
    · obtain ⟨w', z⟩ := I.cell y c e
      exact ⟨w', z.sameBut hs (cne y c e)⟩
    · obtain ⟨e, n, ne, nf, d⟩ := I.pin p hp
      exact ⟨(hs.2 p.1 ne).trans e, n, ne, nf, d⟩
  · have hfn : X.fn x = true := by
      rcases hf with z | z
      · exact z
      · rw [z] at hk; cases hk
    obtain ⟨c, hc⟩ := I.ok.has x (.inl hk)
    obtain ⟨w', z⟩ := I.cell x c hc
    refine wpAny_storeName_cell I.ok.kind hk hc z (fun h' hc' hs => ?_)
    obtain ⟨oc, hoc, hocd⟩ := id z
    refine h { s with heap := h' } ⟨I.ok, I.os, I.bare, ⟨fun b o e n hb hx => ?_, fun b o e n hb hx => ?_, I.base.free, fun b o e hx => ?_, I.base.tups, I.base.frzs, I.base.tbls⟩, ⟨m, hn.sameBut hs (Ne.symm (cne x c hc)), fun j y v' e1 e2 e3 => ?_⟩, fun y c' e => ?_, I.free, I.freeC, fun p hp => ?_, tracked ⟨oc, hoc, I.freeC x c hc⟩ hs, by simpa using I.len⟩ ⟨c, hs, .inr hc⟩
    · exact (hs.2 b (Nat.ne_of_lt (Nat.lt_of_lt_of_le (Heap.lt_size e) (I.ok.cab x c hfn hc)))).trans (I.base.keep b o e n hb hx)
    · obtain ⟨sl, e1⟩ := I.base.slot b o e n hb hx
      exact ⟨sl, (hs.2 b (Nat.ne_of_lt (Nat.lt_of_lt_of_le (Heap.lt_size e) (I.ok.cab x c hfn hc)))).trans e1⟩
    · obtain ⟨o', e1⟩ := I.base.there b o e hx
      exact ⟨o', (hs.2 b (Nat.ne_of_lt (Nat.lt_of_lt_of_le (Heap.lt_size e) (I.ok.cab x c hfn hc)))).trans e1⟩
    · by_cases hj : j = i
      · subst hj
        rw [hi] at e1; cases e1
        rw [List.getElem?_set_self hiσ] at e2
        cases e2
        exact ⟨u, r, .inr ⟨.inl hk, c, hc, hc'⟩⟩
      · rw [List.getElem?_set_ne (Ne.symm hj)] at e2
        obtain ⟨u', r', q⟩ := hl j y v' e1 e2 e3
        refine ⟨u', r', ?_⟩
        rcases q with q | ⟨k, c', e, z'⟩
        · exact .inl q
        · refine .inr ⟨k, c', e, z'.sameBut hs ?_⟩
          rintro rfl
          exact hj (nodup_ix hN e1 (I.ok.inj _ _ _ e hc ▸ hi))
    · by_cases hcc : c' = c
      · subst hcc; exact ⟨_, hc'⟩
      · obtain ⟨w2, z2⟩ := I.cell y c' e
        exact ⟨w2, z2.sameBut hs hcc⟩
    · obtain ⟨e, n, ne, nf, d⟩ := I.pin p hp
      refine ⟨(hs.2 p.1 ?_).trans e, n, ne, nf, d⟩
      intro q
      rw [q, hoc] at e
      have q' : oc = p.2 := Option.some.inj e
      exact d w' (by rw [← q']; exact hocd)
theorem store_ok {M : Model} {A : Around} {E : Value → Shared → Prop} {i : Nat} {x : Str} {v : V} {u : Value} {Q : Unit → Shared → Prop} (I : Inv X pins σ H s) (hN : X.N.Nodup) (hi : X.N[i]? = some x) (hx : Loc X.env.scope x) (r : RelV v u)
    (h : ∀ s', Inv X pins (σ.set i (some v)) H s' → Q () s') (hf : X.fn x = true ∨ X.env.scope.names.lookup x = some .local := by first | exact .inl rfl | exact .inr rfl | assumption) : wpAny M A (storeName X.env x u) Q E s :=
  store_ok2 I hN hi hx r (fun s' I' _ => h s' I') hf
/-- behind a call or a block, the state as it is -/
theorem Inv.call' {s' : Shared} {ch : List Addr} (I : Inv X pins σ H s) (ho : s'.os = s.os) (u : Un (frs X.stack) ch H H' s.heap s'.heap) (hok : HOk X.prog X.w H' s'.heap) (hg : AllBare s'.gens)
    (hch : ∀ b ∈ ch, (b ∈ X.ex ∨ X.s₀.heap.objs.size ≤ b) ∧ b ≠ X.env.locals ∧ (∀ x c, X.env.cells.lookup x = some c → c ≠ b) ∧ ∀ p ∈ X.pn ++ pins, p.1 ≠ b) : Inv X pins σ H' s' := by
  obtain ⟨h', g', d', t', o'⟩ := s'
  have e : o' = s.os := ho
  subst e
  exact I.call (g' := g') (t' := t') (d' := d') u hok hg hch
end

/-! ### the judgements -/
/-- an exception: its class, its own dict's address (where it has one), the abstract heap behind it -/
noncomputable abbrev XK := Value → Option Addr → Hp → Prop
noncomputable abbrev St := List (Option V)
noncomputable abbrev VK := V → Hp → Prop
/-- an expression's reading; a test's; an argument list's -/
noncomputable abbrev TE := St → Hp → VK → Prop
noncomputable abbrev TT := St → Hp → (Bool → Hp → Prop) → Prop
noncomputable abbrev TA := St → Hp → (List V → Hp → Prop) → Prop
/-- what is wanted behind a statement -/
structure Ends where
  nx : St → Hp → Prop
  rt : VK
  bk : St → Hp → Prop := fun _ _ => False
  ct : St → Hp → Prop := fun _ _ => False
noncomputable abbrev TS := Ends → St → Hp → Prop

noncomputable def EP (X : Cx) (pins : List (Addr × Obj)) (σ : St) (Q : VK) (u : Value) (s' : Shared) : Prop := ∃ v H', Inv X pins σ H' s' ∧ RelV v u ∧ Q v H'
noncomputable def TP (X : Cx) (pins : List (Addr × Obj)) (σ : St) (Q : Bool → Hp → Prop) (b : Bool) (s' : Shared) : Prop := ∃ H', Inv X pins σ H' s' ∧ Q b H'
noncomputable def AP (X : Cx) (pins : List (Addr × Obj)) (σ : St) (Q : List V → Hp → Prop) (us : List Value) (s' : Shared) : Prop := ∃ vs H', Inv X pins σ H' s' ∧ Vals vs us ∧ Q vs H'
noncomputable def SP (X : Cx) (pins : List (Addr × Obj)) (D : Ends) (f : Flow) (s' : Shared) : Prop :=
  match f with
  | .next => ∃ σ' H', Inv X pins σ' H' s' ∧ D.nx σ' H'
  | .brk => ∃ σ' H', Inv X pins σ' H' s' ∧ D.bk σ' H'
  | .cont => ∃ σ' H', Inv X pins σ' H' s' ∧ D.ct σ' H'
  | .ret u => ∃ v σ' H', Inv X pins σ' H' s' ∧ RelV v u ∧ D.rt v H'

noncomputable def PE (X : Cx) (e : Expr) (t : TE) : Prop :=
  ∀ (pins : List (Addr × Obj)) (s : Shared) (σ : St) (H : Hp) (Q : VK), Inv X pins σ H s → t σ H Q → wpAny (model X.prog X.w) X.A (eval e X.env) (EP X pins σ Q) X.xe s
noncomputable def PT (X : Cx) (e : Expr) (t : TT) : Prop :=
  ∀ (pins : List (Addr × Obj)) (s : Shared) (σ : St) (H : Hp) (Q : Bool → Hp → Prop), Inv X pins σ H s → t σ H Q → wpAny (model X.prog X.w) X.A (isTrue e X.env (eval e X.env)) (TP X pins σ Q) X.xe s
/-- a test whatever its 'whole' is (and, or) -/
noncomputable def PW (X : Cx) (e : Expr) (t : TT) : Prop :=
  ∀ (whole : Sem Value) (pins : List (Addr × Obj)) (s : Shared) (σ : St) (H : Hp) (Q : Bool → Hp → Prop), Inv X pins σ H s → t σ H Q → wpAny (model X.prog X.w) X.A (isTrue e X.env whole) (TP X pins σ Q) X.xe s
theorem PW.pt {X : Cx} {e : Expr} {t : TT} (h : PW X e t) : PT X e t := h _
/-- an argument list (no star), from the left -/
noncomputable def PA (X : Cx) (es : List Expr) (t : TA) : Prop :=
  ∀ (pos : Pos) (pins : List (Addr × Obj)) (s : Shared) (σ : St) (H : Hp) (Q : List V → Hp → Prop), Inv X pins σ H s → t σ H Q → wpAny (model X.prog X.w) X.A (spliced (backTo pos (starEach es X.env))) (AP X pins σ Q) X.xe s
noncomputable def PS (X : Cx) (st : Stmt) (t : TS) : Prop :=
  ∀ (pins : List (Addr × Obj)) (s : Shared) (σ : St) (H : Hp) (D : Ends), Inv X pins σ H s → t D σ H → wpAny (model X.prog X.w) X.A (exec st X.env) (SP X pins D) X.xe s
noncomputable def PSs (X : Cx) (st : List Stmt) (t : TS) : Prop :=
  ∀ (pins : List (Addr × Obj)) (s : Shared) (σ : St) (H : Hp) (D : Ends), Inv X pins σ H s → t D σ H → wpAny (model X.prog X.w) X.A (execs st X.env) (SP X pins D) X.xe s
/-- weaken the end -/
theorem thn {α : Type} {t : Sem α} {Q Q' : α → Shared → Prop} {M : Model} {A : Around} {E : Value → Shared → Prop} {s : Shared} (h : wpAny M A t Q E s) (hQ : ∀ a s, Q a s → Q' a s) : wpAny M A t Q' E s := wpAny_mono h hQ fun _ _ x => x
end L2

namespace L2
open PySem PySem.Spec PyProof.Rows
section
variable {X : Cx}

/-! ### names and constants -/
noncomputable def tVar (i : Nat) : TE := fun σ H Q => ∃ v, σ[i]? = some (some v) ∧ Q v H
noncomputable def tC (v : V) : TE := fun _ H Q => Q v H
theorem pe_var {i : Nat} {x : Str} {pos : Pos} (hN : X.N[i]? = some x) (hv : Vis X.env.scope x) (hd : (x == ("__debug__" : Str)) = false := by decide) (hcd : (x == ("__classdict__" : Str)) = false := by decide) : PE X (.Name x pos) (tVar i) := by
  intro pins s σ H Q I h
  obtain ⟨v, e, h⟩ := h
  obtain ⟨m, hn, hl⟩ := I.loc
  obtain ⟨u, r, l⟩ := hl i x v hN e hv
  have fin : EP X pins σ Q u s := ⟨v, H, I, r, h⟩
  rcases l with ⟨hk, hm⟩ | ⟨hk, c, hc, hcell⟩
  · exact wpAny_Name (wpAny_loadName_local I.ok.kind hk hn hm fin) hd
  · rcases hk with hk | hk
    · exact wpAny_Name (wpAny_loadName_cell I.ok.kind hk hc hcell fin) hd
    · exact wpAny_Name (wpAny_loadName_free I.ok.kind hk hc hcell fin hcd) hd
theorem pe_int {i j pos} : PE X (.Constant (.int i) j pos) (tC (.int i)) := fun _ _ _ H _ I h => wpAny_Constant_int ⟨.int i, H, I.tok _, ⟨_, rfl⟩, h⟩
theorem pe_bl {b j pos} : PE X (.Constant (.bool b) j pos) (tC (.bl b)) := fun _ _ _ H _ I h => Constant_bool ⟨.bl b, H, I, rfl, h⟩
theorem pe_str {x j pos} : PE X (.Constant (.str x) j pos) (tC (.str x)) := fun _ _ _ H _ I h => Calls.Constant_str ⟨.str x, H, I.tok _, ⟨_, rfl⟩, h⟩

/-- a global name of the def -/
noncomputable def Gl (X : Cx) (x : Str) : Prop := X.env.kindOf x = some .globalImplicit
theorem ld_glob {E : Value → Shared → Prop} {pins : List (Addr × Obj)} {s : Shared} {σ : St} {H : Hp} {x : Str} {u : Value} {pos : Pos} {Q : Value → Shared → Prop} (I : Inv X pins σ H s) (hg : Gl X x) (hm : X.mg x = some u) (h : Q u s)
    (hd : (x == ("__debug__" : Str)) = false := by decide) : wpAny (model X.prog X.w) X.A (eval (.Name x pos) X.env) Q E s :=
  Calls.Name_function_global I.ok.kind hg (Calls.loadGlobal_global (by rw [I.ok.glob]; exact I.mod.glob.keeps I.bk) hm h) hd
theorem ld_blt {E : Value → Shared → Prop} {pins : List (Addr × Obj)} {s : Shared} {σ : St} {H : Hp} {x : Str} {u : Value} {pos : Pos} {Q : Value → Shared → Prop} (I : Inv X pins σ H s) (hg : Gl X x) (hm : X.mg x = none) (hv : bootBuiltins x = some u) (h : Q u s)
    (hn : x ≠ "__name__" := by decide) (hd : (x == ("__debug__" : Str)) = false := by decide) : wpAny (model X.prog X.w) X.A (eval (.Name x pos) X.env) Q E s := by
  obtain ⟨mb, h1, h2⟩ := I.mod.blt
  exact Calls.Name_function_global I.ok.kind hg (Calls.loadGlobal_builtin (by rw [I.ok.glob]; exact I.mod.glob.keeps I.bk) hm (by rw [I.ok.blt]; exact h1.keeps I.bk) ((h2 x hn).trans hv) h) hd
/-- a module's constant, a class, a function, as a value -/
theorem pe_glob {x : Str} {v : V} {u : Value} {pos : Pos} (hg : Gl X x) (hm : X.mg x = some u) (r : RelV v u) (hd : (x == ("__debug__" : Str)) = false := by decide) : PE X (.Name x pos) (tC v) :=
  fun _ _ _ H _ I h => ld_glob I hg hm ⟨v, H, I, r, h⟩ hd
theorem pe_bltn {x : Str} {v : V} {u : Value} {pos : Pos} (hg : Gl X x) (hm : X.mg x = none) (hv : bootBuiltins x = some u) (r : RelV v u) (hn : x ≠ "__name__" := by decide) (hd : (x == ("__debug__" : Str)) = false := by decide) : PE X (.Name x pos) (tC v) :=
  fun _ _ _ H _ I h => ld_blt I hg hm hv ⟨v, H, I, r, h⟩ hn hd

/-! ### arithmetic -/
variable {a b : Expr} {ta tb : TE} {pos : Pos}
/-! ### comparisons -/
/-- a comparison as a value, as a test -/
noncomputable def tB (t : TE) : TT := fun σ H Q => t σ H fun x H1 => ∃ c, x = .bl c ∧ Q c H1
/-- an expression whose value is a bool, as a test -/
theorem pt_val {e : Expr} {t : TE} (h : PE X e t) (he : ∀ whole, isTrue e X.env whole = (do let v ← whole; standAt e.pos; holding [v] (truthy v)) := by intro _; rfl) : PT X e (tB t) := by
  intro pins s σ H Q I hw
  refine isTrue_plain (thn (h pins s σ H _ I hw) fun v s1 ⟨x, H1, I1, r1, q1⟩ => ?_) (he _)
  obtain ⟨d, rfl, q⟩ := q1
  cases r1
  exact wpAny_truthy_bool ⟨H1, I1, q⟩

/-! ### and, or, not -/
variable {tA tB' : TT} {rest : List Expr}
noncomputable def tAnd (t u : TT) : TT := fun σ H Q => t σ H fun c H1 => if c = true then u σ H1 Q else Q false H1
noncomputable def tOr (t u : TT) : TT := fun σ H Q => t σ H fun c H1 => if c = true then Q true H1 else u σ H1 Q
noncomputable def tNot (t : TT) : TT := fun σ H Q => t σ H fun c H1 => Q (!c) H1
theorem pw_and1 (ha : PT X a tA) : PW X (.BoolOp .And [a] pos) tA := by
  intro wh pins s σ H Q I h
  refine isTrue_and (thn (ha pins s σ H Q I h) fun c s1 e => ?_)
  cases c with
  | true => exact isTrue_and_nil e
  | false => exact e
theorem pw_or1 (ha : PT X a tA) : PW X (.BoolOp .Or [a] pos) tA := by
  intro wh pins s σ H Q I h
  refine isTrue_or (thn (ha pins s σ H Q I h) fun c s1 e => ?_)
  cases c with
  | false => exact isTrue_or_nil e
  | true => exact e
theorem pw_and (ha : PT X a tA) (hb : PW X (.BoolOp .And (b :: rest) pos) tB') : PW X (.BoolOp .And (a :: b :: rest) pos) (tAnd tA tB') := by
  intro wh pins s σ H Q I h
  refine isTrue_and (thn (ha pins s σ H _ I h) fun c s1 ⟨H1, I1, q1⟩ => ?_)
  cases c with
  | true => exact hb wh pins s1 σ H1 Q I1 q1
  | false => exact ⟨H1, I1, q1⟩
theorem pw_or (ha : PT X a tA) (hb : PW X (.BoolOp .Or (b :: rest) pos) tB') : PW X (.BoolOp .Or (a :: b :: rest) pos) (tOr tA tB') := by
  intro wh pins s σ H Q I h
  refine isTrue_or (thn (ha pins s σ H _ I h) fun c s1 ⟨H1, I1, q1⟩ => ?_)
  cases c with
  | true => exact ⟨H1, I1, q1⟩
  | false => exact hb wh pins s1 σ H1 Q I1 q1
theorem pt_not (ha : PT X a tA) : PT X (.UnaryOp .Not a pos) (tNot tA) := by
  intro pins s σ H Q I h
  exact isTrue_not (ha pins s σ H (fun c H1 => Q (!c) H1) I h)
/-- .. as values (bools) -/
noncomputable def tAndV (ta tb : TE) : TE := fun σ H Q => ta σ H fun x H1 => ∃ c, x = .bl c ∧ if c = true then tb σ H1 Q else Q (.bl false) H1
theorem pe_one {op} {t : TE} (h : PE X a t) : PE X (.BoolOp op [a] pos) t := fun pins s σ H Q I hw => BoolOp_one (h pins s σ H Q I hw)
theorem pe_and (ha : PE X a ta) (hb : PE X (.BoolOp .And (b :: rest) pos) tb) : PE X (.BoolOp .And (a :: b :: rest) pos) (tAndV ta tb) := by
  intro pins s σ H Q I h
  refine BoolOp_and (thn (ha pins s σ H _ I h) fun v s1 ⟨x, H1, I1, r1, q1⟩ => ?_)
  obtain ⟨c, rfl, q1⟩ := q1
  cases r1
  refine wpAny_truthy_bool ?_
  cases c with
  | true => exact hb pins s1 σ H1 Q I1 q1
  | false => exact ⟨.bl false, H1, I1, rfl, q1⟩
end
end L2

namespace L2
open PySem PySem.Spec PyProof.Rows

/-! ### a list, a tuple that is read: tracked, frozen, or an object of the module -/
noncomputable def SqL (K : PySem.W.Frag) (H : Hp) (a : Addr) (xs : List V) : Prop :=
  Rd H a (.lst xs) ∨
    ∃ (o : Obj) (its : Array Value) (n : Nat), K.lookup a = some o ∧ o.cls = .type "list" ∧ o.dict = none ∧ o.data = .seq its n ∧ its.size ≤ sizeLine ∧ Vals xs its.toList
noncomputable def SqT (K : PySem.W.Frag) (H : Hp) (a : Addr) (xs : List V) : Prop :=
  Rd H a (.tup xs) ∨
    ∃ (o : Obj) (its : Array Value) (n : Nat), K.lookup a = some o ∧ o.cls = .type "tuple" ∧ o.data = .seq its n ∧ its.size ≤ sizeLine ∧ Vals xs its.toList
noncomputable def absV : Value → Option V
  | .none => some .non
  | .bool b => some (.bl b)
  | .int i _ => some (.int i)
  | .str x _ => some (.str x)
  | .bytes b _ => some (.byt b)
  | .float b _ => some (.flt b)
  | .ref a => some (.ref a)
  | .type n => some (.ty n)
  | _ => none
theorem RelV.abs {x : V} {u : Value} (r : RelV x u) : absV u = some x := by
  cases x with
  | non => cases r; rfl
  | bl _ => cases r; rfl
  | int _ => obtain ⟨t, rfl⟩ := r; rfl
  | str _ => obtain ⟨t, rfl⟩ := r; rfl
  | byt _ => obtain ⟨t, rfl⟩ := r; rfl
  | flt _ => obtain ⟨t, rfl⟩ := r; rfl
  | ref _ => cases r; rfl
  | ty _ => cases r; rfl
theorem RelV.inj {x y : V} {u : Value} (r : RelV x u) (q : RelV y u) : x = y := Option.some.inj (r.abs.symm.trans q.abs)
theorem Vals.inj : ∀ {xs ys : List V} {us : List Value}, Vals xs us → Vals ys us → xs = ys
  | _, _, _, .nil, .nil => rfl
  | _, _, _, .cons r t, .cons r' t' => by rw [r.inj r', Vals.inj t t']
section
variable {X : Cx} {pins : List (Addr × Obj)} {σ : St} {H : Hp} {s : Shared} {a : Addr} {xs ys : List V}
theorem SqL.of {K : PySem.W.Frag} (h : H a = some (.lst xs)) : SqL K H a xs := .inl (.inl h)
theorem SqT.of {K : PySem.W.Frag} (h : H a = some (.tup xs)) : SqT K H a xs := .inl (.inl h)
theorem Inv.list (I : Inv X pins σ H s) (h : SqL X.K H a xs) : ∃ its : List Value, Vals xs its ∧ PlainL s.heap a its.toArray ∧ xs.length ≤ sizeLine := by
  rcases h with h | ⟨o, its, n, hk, hc, hd, hs, hz, r⟩
  · obtain ⟨z, its, n, r, e⟩ := h.ok I.hok
    exact ⟨its, r, ⟨_, n, e, rfl, rfl, rfl⟩, z⟩
  · refine ⟨its.toList, r, ⟨o, n, I.kIn a o hk, hc, hd, by simpa using hs⟩, ?_⟩
    have e := r.length
    simp only [Array.length_toList] at e
    omega
theorem Inv.tuple (I : Inv X pins σ H s) (h : SqT X.K H a xs) : ∃ its : List Value, Vals xs its ∧ IsTup s.heap a its.toArray ∧ xs.length ≤ sizeLine := by
  rcases h with h | ⟨o, its, n, hk, hc, hs, hz, r⟩
  · obtain ⟨z, its, r, p⟩ := h.ok I.hok
    exact ⟨its, r, p, z⟩
  · refine ⟨its.toList, r, ⟨o, I.kIn a o hk, hc, n, by simpa using hs⟩, ?_⟩
    have e := r.length
    simp only [Array.length_toList] at e
    omega
theorem Inv.list_inj (I : Inv X pins σ H s) (h : SqL X.K H a xs) (h' : SqL X.K H a ys) : xs = ys := by
  obtain ⟨its, r, ⟨o, n, e, _, _, d⟩, _⟩ := I.list h
  obtain ⟨its', r', ⟨o', n', e', _, _, d'⟩, _⟩ := I.list h'
  rw [e] at e'; cases e'
  rw [d] at d'
  injection d' with d1 _
  have : its = its' := by simpa using congrArg Array.toList d1
  subst this
  exact r.inj r'
end

/-! ### another wish about exceptions -/
noncomputable abbrev Cx.wish (X : Cx) (E : Value → Shared → Prop) : Cx := { X with xe := E }
/-- no exception leaves -/
noncomputable abbrev Cx.nox (X : Cx) : Cx := X.wish fun _ _ => False
theorem Cx.Ok.wish {X : Cx} (ok : X.Ok) (E : Value → Shared → Prop) : (X.wish E).Ok :=
  ⟨ok.mod, ok.kind, ok.glob, ok.blt, ok.above, ok.inj, ok.has, ok.cab, ok.hd, ok.frames, ok.stk, ok.exf, ok.bs, ok.bsz, ok.noex, ok.exfs, ok.funs, ok.frf⟩
theorem Cx.Ok.unwish {X : Cx} {E : Value → Shared → Prop} (ok : (X.wish E).Ok) : X.Ok :=
  ⟨ok.mod, ok.kind, ok.glob, ok.blt, ok.above, ok.inj, ok.has, ok.cab, ok.hd, ok.frames, ok.stk, ok.exf, ok.bs, ok.bsz, ok.noex, ok.exfs, ok.funs, ok.frf⟩
section
variable {X : Cx} {pins : List (Addr × Obj)} {σ : St} {H : Hp} {s : Shared} {E : Value → Shared → Prop}
theorem Inv.wish (I : Inv X pins σ H s) (E : Value → Shared → Prop) : Inv (X.wish E) pins σ H s := ⟨I.ok.wish E, I.os, I.bare, I.base, I.loc, I.cell, I.free, I.freeC, I.pin, I.hok, I.len⟩
theorem Inv.unwish (I : Inv (X.wish E) pins σ H s) : Inv X pins σ H s := ⟨I.ok.unwish, I.os, I.bare, I.base, I.loc, I.cell, I.free, I.freeC, I.pin, I.hok, I.len⟩
theorem SP.unwish {D : Ends} {f : Flow} {s' : Shared} (h : SP (X.wish E) pins D f s') : SP X pins D f s' := by
  cases f with
  | next => obtain ⟨σ', H', I, q⟩ := h; exact ⟨σ', H', I.unwish, q⟩
  | brk => obtain ⟨σ', H', I, q⟩ := h; exact ⟨σ', H', I.unwish, q⟩
  | cont => obtain ⟨σ', H', I, q⟩ := h; exact ⟨σ', H', I.unwish, q⟩
  | ret u => obtain ⟨v, σ', H', I, r, q⟩ := h; exact ⟨v, σ', H', I.unwish, r, q⟩
theorem PSs.nox {st : List Stmt} {t : TS} (h : PSs X.nox st t) : PSs X st t := fun pins s σ H D I hw =>
  wpAny_mono (h pins s σ H D (I.wish _) hw) (fun _ _ q => q.unwish) fun _ _ z => False.elim z
end

/-! ### blocks and small statements -/
section
variable {X : Cx} {st : Stmt} {rest : List Stmt} {t u : TS} {e : Expr} {te : TE} {pos : Pos}
noncomputable def tNext : TS := fun D σ H => D.nx σ H
noncomputable def tSeq (t u : TS) : TS := fun D σ H => t { D with nx := u D } σ H
theorem pss_nil : PSs X [] tNext := fun _ _ σ H _ I h => wpAny_execs_nil ⟨σ, H, I, h⟩
theorem pss_cons (h1 : PS X st t) (h2 : PSs X rest u) : PSs X (st :: rest) (tSeq t u) := by
  intro pins s σ H D I h
  refine wpAny_execs_cons (thn (h1 pins s σ H { D with nx := u D } I h) fun f s1 q => ?_)
  cases f with
  | next =>
    obtain ⟨σ', H', I', q⟩ := q
    exact h2 pins s1 σ' H' D I' q
  | ret v => exact q
  | brk => exact q
  | cont => exact q
theorem pss_one (h1 : PS X st t) : PSs X [st] t := by
  intro pins s σ H D I h
  refine wpAny_execs_cons (thn (h1 pins s σ H D I h) fun f s1 q => ?_)
  cases f with
  | next => exact wpAny_execs_nil q
  | ret v => exact q
  | brk => exact q
  | cont => exact q
/-- in a def's body nothing is shown -/
theorem Inv.quiet {pins : List (Addr × Obj)} {σ : St} {H : Hp} {s : Shared} (I : Inv X pins σ H s) : interactive X.env = false := by simp [interactive, I.ok.kind]
/-- an expression whose value is dropped -/
noncomputable def tDrop (te : TE) : TS := fun D σ H => te σ H fun _ H1 => D.nx σ H1
theorem ps_expr (he : PE X e te) (hs : swapsWith e none pos.line X.env = pure false := by rfl) : PS X (.Expr e pos) (tDrop te) := by
  intro pins s σ H D I h
  exact wpAny_Expr_any (thn (he pins s σ H _ I h) fun v s1 ⟨x, H1, I1, r1, q1⟩ => ⟨σ, H1, I1, q1⟩) I.quiet hs
noncomputable def tRet (te : TE) : TS := fun D σ H => te σ H D.rt
theorem ps_ret (he : PE X e te) : PS X (.Return (some e) pos) (tRet te) := by
  intro pins s σ H D I h
  exact wpAny_Return_some (thn (he pins s σ H _ I h) fun v s1 ⟨x, H1, I1, r1, q1⟩ => ⟨x, σ, H1, I1, r1, q1⟩)
noncomputable def tIfS (c : TT) (t u : TS) : TS := fun D σ H => c σ H fun b H1 => if b = true then t D σ H1 else u D σ H1
theorem ps_if {c : Expr} {a b : List Stmt} {tc : TT} (hc : PT X c tc) (ha : PSs X a t) (hb : PSs X b u) : PS X (.If c a b pos) (tIfS tc t u) := by
  intro pins s σ H D I h
  refine wpAny_If (thn (hc pins s σ H _ I h) fun d s1 ⟨H1, I1, q1⟩ => ?_)
  cases d with
  | true => exact ha pins s1 σ H1 D I1 q1
  | false => exact hb pins s1 σ H1 D I1 q1
end

/-! ### targets -/
noncomputable abbrev TG := V → St → Hp → (St → Hp → Prop) → Prop
noncomputable abbrev TGs := List V → St → Hp → (St → Hp → Prop) → Prop
noncomputable def PG (X : Cx) (target : Expr) (t : TG) : Prop :=
  ∀ (pins : List (Addr × Obj)) (s : Shared) (σ : St) (H : Hp) (v : V) (u : Value) (Q : St → Hp → Prop), Inv X pins σ H s → RelV v u → t v σ H Q →
    wpAny (model X.prog X.w) X.A (assign target X.env u) (fun _ s' => ∃ σ' H', Inv X pins σ' H' s' ∧ Q σ' H') X.xe s
/-- several targets, one after another -/
noncomputable def PGs (X : Cx) (ts : List Expr) (t : TGs) : Prop :=
  ∀ (pins : List (Addr × Obj)) (s : Shared) (σ : St) (H : Hp) (vs : List V) (us : List Value) (Q : St → Hp → Prop), Inv X pins σ H s → Vals vs us → t vs σ H Q →
    wpAny (model X.prog X.w) X.A (assignInOrder ((assignEach ts X.env).map (·.2)) us) (fun _ s' => ∃ σ' H', Inv X pins σ' H' s' ∧ Q σ' H') X.xe s
section
variable {X : Cx} {pos : Pos}
noncomputable def gName (i : Nat) : TG := fun v σ H Q => Q (σ.set i (some v)) H
theorem pg_name {i : Nat} {x : Str} (hN : X.N.Nodup) (hi : X.N[i]? = some x) (hx : Loc X.env.scope x) (hf : X.fn x = true ∨ X.env.scope.names.lookup x = some .local := by first | exact .inl rfl | exact .inr rfl | assumption) : PG X (.Name x pos) (gName i) := by
  intro pins s σ H v u Q I r h
  exact wpAny_assign_Name (store_ok I hN hi hx r (fun s' I' => ⟨_, H, I', h⟩) hf)
noncomputable def gNil : TGs := fun vs σ H Q => vs = [] ∧ Q σ H
noncomputable def gCons (t : TG) (u : TGs) : TGs := fun vs σ H Q => ∃ v r, vs = v :: r ∧ t v σ H fun σ' H' => u r σ' H' Q
theorem pgs_nil : PGs X [] gNil := by
  intro pins s σ H vs us Q I r h
  obtain ⟨e, h⟩ := h
  subst e
  cases r
  exact assignInOrder_nil ⟨σ, H, I, h⟩
theorem pgs_cons {e : Expr} {es : List Expr} {t : TG} {u : TGs} (h1 : PG X e t) (h2 : PGs X es u)
    (hs : (assignEach (e :: es) X.env).map (·.2) = assign e X.env :: (assignEach es X.env).map (·.2) := by rfl) : PGs X (e :: es) (gCons t u) := by
  intro pins s σ H vs us Q I r h
  obtain ⟨v, vr, e1, h⟩ := h
  subst e1
  cases r with
  | cons r rr =>
    rw [hs]
    refine assignInOrder_cons (thn (h1 pins s σ H _ _ _ I r h) fun _ s1 ⟨σ1, H1, I1, q1⟩ => ?_)
    exact h2 pins s1 σ1 H1 _ _ Q I1 rr q1
/-- (a, b, ..) = a tuple of that length -/
noncomputable def gTup (K : PySem.W.Frag) (n : Nat) (t : TGs) : TG := fun v σ H Q => ∃ a xs, v = .ref a ∧ SqT K H a xs ∧ xs.length = n ∧ t xs σ H Q
theorem pg_tup {es : List Expr} {k : Nat} {t : TGs} {n : Nat} (hc : X.calm = true) (h : PGs X es t)
    (hn : (assignEach es X.env).length = n := by rfl) (hst : (assignEach es X.env).findIdx? (·.1) = none := by rfl) : PG X (.Tuple es k pos) (gTup X.K n t) := by
  intro pins s σ H v u Q I r hw
  obtain ⟨a, xs, e1, hq, hl, hw⟩ := hw
  subst e1
  cases r
  obtain ⟨its, rv, ht, hz⟩ := I.tuple hq
  refine assign_Tuple_tuple (I.ok.hd hc) ht (by simp [hn, ← hl, rv.length]) hst fun h' hx => ?_
  have I1 : Inv X pins σ H { s with heap := h' } := I.kept (t' := s.toks) fun b o e => hx b o (Nat.ne_of_lt (Heap.lt_size e)) e
  exact h pins _ σ H xs _ Q I1 (by simpa using rv) hw
/-- target = value -/
noncomputable def tAsg (te : TE) (g : TG) : TS := fun D σ H => te σ H fun x H1 => g x σ H1 D.nx
theorem ps_asg {tg e : Expr} {te : TE} {g : TG} (he : PE X e te) (hg : PG X tg g) (hs : swapsWithSole [tg] e pos.line X.env = pure false := by rfl) (hw : swappedStores [tg] e X.env = pure none := by rfl)
    (h1 : (assignEach [tg] X.env).map (·.2) = [assign tg X.env] := by rfl) : PS X (.Assign [tg] e pos) (tAsg te g) := by
  intro pins s σ H D I h
  refine wpAny_Assign_stores (thn (he pins s σ H _ I h) fun v s1 ⟨x, H1, I1, r1, q1⟩ => ?_) hs hw
  rw [h1]
  exact thn (hg pins s1 σ H1 x v _ I1 r1 q1) fun _ s2 q => q
/-- name = value -/
theorem ps_set {i : Nat} {x : Str} {e : Expr} {te : TE} {pos' : Pos} (hN : X.N.Nodup) (hi : X.N[i]? = some x) (hx : Loc X.env.scope x) (he : PE X e te) (hs : swapsWith e (some (.Name x pos')) pos.line X.env = pure false := by rfl) (hf : X.fn x = true ∨ X.env.scope.names.lookup x = some .local := by first | exact .inl rfl | exact .inr rfl | assumption) :
    PS X (.Assign [.Name x pos'] e pos) (tAsg te (gName i)) := by
  intro pins s σ H D I h
  refine wpAny_Assign_Name (thn (he pins s σ H _ I h) fun v s1 ⟨y, H1, I1, r1, q1⟩ => ?_) hs
  exact store_ok I1 hN hi hx r1 (fun s2 I2 => ⟨_, H1, I2, q1⟩) hf
end

/-! ### while -/
section
variable {X : Cx} {pos : Pos}
/-- the invariant W with its measure -/
noncomputable def tWhile (c : TT) (tb : TS) : TS := fun D σ H => ∃ W : Nat → St → Hp → Prop, (∃ m, W m σ H) ∧ ∀ m σ H, W m σ H →
  c σ H fun b H1 => if b = true then ∃ N : St → Hp → Prop, (∀ σ' H', N σ' H' → ∃ m', m' < m ∧ W m' σ' H') ∧ tb { D with nx := N, ct := N, bk := D.nx } σ H1 else D.nx σ H1
theorem ps_while {c : Expr} {body : List Stmt} {tc : TT} {tb : TS} (hp : PassesOwn (model X.prog X.w) X.A X.env X.xe) (hc : PT X c tc) (hb : PSs X body tb) : PS X (.While c body [] pos) (tWhile tc tb) := by
  intro pins s σ H D I h
  obtain ⟨W, ⟨m0, w0⟩, turn⟩ := h
  refine wpAny_While (codeAny_whileLoop (fun n s' => ∃ σ' H', Inv X pins σ' H' s' ∧ W n σ' H') ?_ m0 ⟨σ, H, I, w0⟩)
  rintro n s1 ⟨σ1, H1, I1, w1⟩
  refine wpAny_passesOwn hp (thn (hc pins s1 σ1 H1 _ I1 (turn n σ1 H1 w1)) fun b s2 ⟨H2, I2, q2⟩ => ?_)
  cases b with
  | true =>
    obtain ⟨N, hN, q2⟩ := q2
    rw [if_pos rfl]
    refine wpAny_passesOwn hp (thn (hb pins s2 σ1 H2 _ I2 q2) fun f s3 q3 => ?_)
    cases f with
    | next =>
      obtain ⟨σ3, H3, I3, n3⟩ := q3
      obtain ⟨m', hm, w3⟩ := hN σ3 H3 n3
      exact ⟨m', hm, σ3, H3, I3, w3⟩
    | cont =>
      obtain ⟨σ3, H3, I3, n3⟩ := q3
      obtain ⟨m', hm, w3⟩ := hN σ3 H3 n3
      exact ⟨m', hm, σ3, H3, I3, w3⟩
    | brk => exact q3
    | ret v => exact q3
  | false =>
    rw [if_neg Bool.false_ne_true]
    exact wpAny_execs_nil ⟨σ1, H2, I2, q2⟩
end

/-! ### what a loop or a comprehension walks -/
/-- at turn i: it yields x (the heap may grow), or it stops -/
structure It where
  go : Nat → Hp → Prop
  yld : Nat → Hp → V → Hp → Prop
  stop : Nat → Hp → Prop
/-- the iterator's own objects may turn: they are not the frame's, not pinned, younger than the entry (or a comprehension's own) -/
noncomputable def FpOk (X : Cx) (pins : List (Addr × Obj)) (H : Hp) (b : Addr) : Prop :=
  H b = none ∧ b ≠ X.env.locals ∧ b ∉ X.fs ∧ (b ∈ X.ex ∨ X.s₀.heap.objs.size ≤ b) ∧ (∀ x c, X.env.cells.lookup x = some c → c ≠ b) ∧ ∀ p ∈ X.pn ++ pins, p.1 ≠ b
theorem Inv.fpOk {X : Cx} {pins : List (Addr × Obj)} {σ : St} {H H' : Hp} {s : Shared} {b : Addr} (I : Inv X pins σ H s) (hb : s.heap.objs.size ≤ b) (hn : H' b = none) : FpOk X pins H' b := by
  refine ⟨hn, Nat.ne_of_gt (Nat.lt_of_lt_of_le I.lt hb), I.nofs hb, .inr (Nat.le_trans I.sz hb), fun x c e z => ?_, fun p hp z => ?_⟩
  · obtain ⟨v, q⟩ := I.cell x c e
    exact absurd (Nat.lt_of_lt_of_le q.lt (by rw [z]; exact hb)) (Nat.lt_irrefl _)
  · exact absurd (Nat.lt_of_lt_of_le (Heap.lt_size (I.pin p hp).1) (by rw [z]; exact hb)) (Nat.lt_irrefl _)
structure Turn (P : Program) (w : World) (K : PySem.W.Frag) (tg : Expr) (J : It) (fp : List Addr) (it : Addr) (tn : Nat → Heap → Prop) : Prop where
  mem : it ∈ fp
  obj : ∀ i h, tn i h → ∀ b ∈ fp, ∃ o, h.get? b = some o ∧ ∀ v, o.data ≠ .cell v
  keep : ∀ i h h', tn i h → (∀ b ∈ fp, ∀ o, h.get? b = some o → h'.get? b = some o) → tn i h'
  item : ∀ (X : Cx), X.prog = P → X.w = w → X.K = K → X.calm = true → ∀ (i : Nat) (pins : List (Addr × Obj)) (s : Shared) (σ : St) (H : Hp) (E : Value → Shared → Prop), Inv X pins σ H s → (∀ b ∈ fp, FpOk X pins H b) → tn i s.heap → J.go i H →
    wpAny (model P w) X.A (pyNext (.ref it)) (fun r s1 => ∃ u, r = some u ∧
      wpAny (model P w) X.A (letOwnedTupleGo tg (.ref it) u) (fun _ s2 => ∃ x H', Inv X pins σ H' s2 ∧ RelV x u ∧ J.yld i H x H' ∧ tn (i + 1) s2.heap ∧ ∀ b ∈ fp, H' b = none) E s1) E s
  done : ∀ (X : Cx), X.prog = P → X.w = w → X.K = K → X.calm = true → ∀ (i : Nat) (pins : List (Addr × Obj)) (s : Shared) (σ : St) (H : Hp) (E : Value → Shared → Prop), Inv X pins σ H s → (∀ b ∈ fp, FpOk X pins H b) → tn i s.heap → J.stop i H →
    wpAny (model P w) X.A (pyNext (.ref it)) (fun r s1 => r = none ∧ Inv X pins σ H s1) E s
  self : ∀ (A : Around) (i : Nat) (s : Shared) (Q : Value → Shared → Prop) (E : Value → Shared → Prop), tn i s.heap → Q (.ref it) s → wpAny (model P w) A (pyIter (.ref it)) Q E s
noncomputable abbrev TI := St → Hp → (It → Hp → Prop) → Prop
/-- an iterator has come -/
noncomputable def PIE (X : Cx) (pins : List (Addr × Obj)) (σ : St) (tg : Expr) (R : It → Hp → Prop) (itv : Value) (s2 : Shared) : Prop :=
  ∃ (it : Addr) (fp : List Addr) (tn : Nat → Heap → Prop) (J : It) (H' : Hp), itv = .ref it ∧ Inv X pins σ H' s2 ∧ Turn X.prog X.w X.K tg J fp it tn ∧ tn 0 s2.heap ∧ (∀ b ∈ fp, FpOk X pins H' b) ∧ R J H'
noncomputable def PI (X : Cx) (tg iter : Expr) (wi : TI) : Prop :=
  ∀ (pins : List (Addr × Obj)) (s : Shared) (σ : St) (H : Hp) (R : It → Hp → Prop), Inv X pins σ H s → wi σ H R →
    wpAny (model X.prog X.w) X.A (eval iter X.env) (fun v s1 => wpAny (model X.prog X.w) X.A (pyIter v) (PIE X pins σ tg R) X.xe s1) X.xe s

/-- the step ahead of the store is nothing for an iterator that keeps no tuple -/
theorem go_of {M : Model} {A : Around} {E : Value → Shared → Prop} {s : Shared} {tg : Expr} {it : Addr} {u : Value} {o : Obj} {n : String} {vs : Array Value} {Q : Unit → Shared → Prop} (ho : s.heap.get? it = some o) (hc : o.cls = .type n) (hd : o.data = .fields vs)
    (hn : ["enumerate", "zip", "dict_itemiterator", "dict_reverseitemiterator", "odict_iterator", "itertools.zip_longest", "itertools.pairwise"].contains n = false) (hQ : Q () s) : wpAny M A (letOwnedTupleGo tg (.ref it) u) Q E s := by
  unfold letOwnedTupleGo
  cases tg <;> first
    | exact wpAny_pure hQ
    | (cases u <;> first
        | exact wpAny_pure hQ
        | (refine wpAny_bind (wpAny_load ho ?_)
           rw [hc, hd]
           show wpAny M A (if (["enumerate", "zip", "dict_itemiterator", "dict_reverseitemiterator", "odict_iterator", "itertools.zip_longest", "itertools.pairwise"].contains n && vs[0]? == some (rawInt _)) = true then _ else _) Q E s
           rw [if_neg (by intro h; rw [hn, Bool.false_and] at h; cases h)]
           exact wpAny_pure hQ))

/-- the list at a, as it stands at each turn (a loop may append to it) -/
noncomputable def Itl (K : PySem.W.Frag) (a : Addr) : It :=
  ⟨fun i H => ∃ xs x, SqL K H a xs ∧ xs[i]? = some x, fun i H x H' => H' = H ∧ ∀ xs, SqL K H a xs → xs[i]? = some x, fun i H => ∃ xs, SqL K H a xs ∧ xs.length ≤ i⟩
/-- lo, lo + 1, .. (n of them) -/
noncomputable def Itr (lo : Int) (n : Nat) : It := ⟨fun i _ => i < n, fun i H x H' => H' = H ∧ x = .int (lo + i), fun i _ => n ≤ i⟩
theorem turn_list {P : Program} {w : World} {K : PySem.W.Frag} {tg : Expr} (a it : Addr) : Turn P w K tg (Itl K a) [it] it (fun i h => h.IsListIter it a i) where
  mem := by simp
  obj := fun i h st b hb => by
    have e : b = it := by simpa using hb
    subst e
    obtain ⟨o, e, c, d⟩ := st
    exact ⟨o, e, fun v z => by rw [d] at z; cases z⟩
  keep := fun i h h' st k => st.at fun o e => k it (by simp) o e
  item := by
    intro X hP hw hK hc i pins s σ H E I hf st hg
    subst hP hw hK
    obtain ⟨xs, x, hq, hx⟩ := hg
    obtain ⟨its, rv, p, hz⟩ := I.list hq
    obtain ⟨u, hu, ru⟩ := rv.get hx
    obtain ⟨f0, f1, f2, f3, f4, f5⟩ := hf it (by simp)
    refine wpAny_pyNext_list_item st p.isList (x := u) (by simpa using hu) fun h' st' sb => ?_
    have I1 : Inv X pins σ H { s with heap := h' } := I.turned (t' := s.toks) (fun b o hb e => (sb.2 b hb).trans e) f0 f1 f3 f4 f5
    obtain ⟨o, e, c, d⟩ := id st'
    exact ⟨u, rfl, go_of (s := { s with heap := h' }) e c d (by decide) ⟨x, H, I1, ru, ⟨rfl, fun ys hy => by rw [I.list_inj hy hq]; exact hx⟩, st', fun b hb => (hf b hb).1⟩⟩
  done := by
    intro X hP hw hK hc i pins s σ H E I hf st hg
    subst hP hw hK
    obtain ⟨xs, hq, hx⟩ := hg
    obtain ⟨its, rv, p, hz⟩ := I.list hq
    obtain ⟨f0, f1, f2, f3, f4, f5⟩ := hf it (by simp)
    have hl := rv.length
    exact wpAny_pyNext_list_end (I.ok.hd hc) st p.isList (by simp; omega) fun h' eb => ⟨rfl, I.turned (t' := s.toks) (fun b o hb e => eb b o hb e) f0 f1 f3 f4 f5⟩
  self := fun _ _ _ _ _ st h => wpAny_pyIter_listiter st h
theorem turn_range {P : Program} {w : World} {K : PySem.W.Frag} {tg : Expr} (it : Addr) (lo : Int) (n : Nat) : Turn P w K tg (Itr lo n) [it] it (fun i h => IsRangeIter h it (lo + (i : Nat) * 1) ((n : Int) - (i : Nat)) 1) where
  mem := by simp
  obj := fun i h st b hb => by
    have e : b = it := by simpa using hb
    subst e
    exact ⟨_, st, fun v z => by
      have z' : Data.fields _ = Data.cell v := z
      cases z'⟩
  keep := fun i h h' st k => k it (by simp) _ st
  item := by
    intro X hP hw hK hc i pins s σ H E I hf st hg
    subst hP hw hK
    obtain ⟨f0, f1, f2, f3, f4, f5⟩ := hf it (by simp)
    have W := Walks.range (prog := X.prog) (w := X.w) (I.ok.hd hc) it lo 1 n
    refine W.item i s _ _ hg st fun v h' tk hv st' kk => ?_
    obtain ⟨t, rfl⟩ := hv
    have I1 : Inv X pins σ H { s with heap := h', toks := tk } := I.turned (fun b o hb e => kk b o (by simpa using hb) e) f0 f1 f3 f4 f5
    refine ⟨_, rfl, go_of (s := { s with heap := h', toks := tk }) (n := "range_iterator") st' rfl rfl (by decide) ⟨.int (lo + i), H, I1, ⟨t, ?_⟩, ⟨rfl, rfl⟩, st', fun b hb => (hf b hb).1⟩⟩
    rw [Int.mul_one]
  done := by
    intro X hP hw hK hc i pins s σ H E I hf st hg
    subst hP hw hK
    obtain ⟨f0, f1, f2, f3, f4, f5⟩ := hf it (by simp)
    exact wpAny_pyNext_range_end (I.ok.hd hc) st (by have : n ≤ i := hg; omega) fun h' eb => ⟨rfl, I.turned (t' := s.toks) (fun b o hb e => eb b o hb e) f0 f1 f3 f4 f5⟩
  self := fun _ _ _ _ _ st h => wpAny_pyIter_rangeiter st h
end L2

namespace L2
open PySem PySem.Spec PyProof.Rows
section
variable {X : Cx} {tg : Expr}
noncomputable def iList (K : PySem.W.Frag) (tl : TE) : TI := fun σ H R => tl σ H fun x H1 => ∃ a, x = .ref a ∧ (∃ xs, SqL K H1 a xs) ∧ R (Itl K a) H1
theorem pi_list {l : Expr} {tl : TE} (hl : PE X l tl) : PI X tg l (iList X.K tl) := by
  intro pins s σ H R I h
  refine thn (hl pins s σ H _ I h) fun v s1 ⟨x, H1, I1, r1, q1⟩ => ?_
  obtain ⟨a, e, ⟨xs, hq⟩, q⟩ := q1
  subst e
  cases r1
  obtain ⟨its, rv, p, hz⟩ := I1.list hq
  refine wpAny_pyIter_list p.isList ?_
  refine ⟨s1.heap.objs.size, [s1.heap.objs.size], _, _, H1, rfl, I1.kept (t' := s1.toks) fun b o e => Heap.get?_push_of_some _ e, turn_list a _, ⟨_, Heap.get?_push_size _ rfl, rfl, rfl⟩, fun b hb => ?_, q⟩
  have e : b = s1.heap.objs.size := by simpa using hb
  subst e
  exact I1.fpOk (Nat.le_refl _) (I1.hok.fresh (Nat.le_refl _))
/-- a range object just made, walked -/
theorem range_it {pins : List (Addr × Obj)} {σ : St} {H : Hp} {s : Shared} {R : It → Hp → Prop} {E : Value → Shared → Prop} {lo hi : Int} {t u v : Tok} {tk : Nat} (I : Inv X pins σ H s) (h1 : -(2 ^ 62) ≤ lo) (h2 : lo < 2 ^ 62) (h3 : -(2 ^ 62) ≤ hi) (h4 : hi < 2 ^ 62)
    (q : R (Itr lo (hi - lo).toNat) H) : wpAny (model X.prog X.w) X.A (pyIter (.ref s.heap.objs.size)) (PIE X pins σ tg R) E { s with heap := s.heap.push { cls := .type "range", data := .fields #[.int lo t, .int hi u, .int 1 v] }, toks := tk } := by
  refine wpAny_pyIter_range (IsRange.new ..) (small_one h1 h2 h3 h4) ?_
  have I1 : Inv X pins σ H { s with heap := s.heap.push { cls := .type "range", data := .fields #[.int lo t, .int hi u, .int 1 v] }, toks := tk } := I.kept fun b o e => Heap.get?_push_of_some _ e
  refine ⟨(s.heap.push { cls := .type "range", data := .fields #[.int lo t, .int hi u, .int 1 v] }).objs.size, [(s.heap.push { cls := .type "range", data := .fields #[.int lo t, .int hi u, .int 1 v] }).objs.size], _, _, H, rfl,
    I1.kept (t' := tk) fun b o e => Heap.get?_push_of_some _ e, turn_range _ lo (hi - lo).toNat, ?_, fun b hb => ?_, q⟩
  · have e1 : lo + ((0 : Nat) : Int) * 1 = lo := by simp
    have e2 : (((hi - lo).toNat : Nat) : Int) - ((0 : Nat) : Int) = Builtin.Range.rangeSize lo hi 1 := by rw [rangeSize_one]; split <;> omega
    show IsRangeIter _ _ (lo + ((0 : Nat) : Int) * 1) ((((hi - lo).toNat : Nat) : Int) - ((0 : Nat) : Int)) 1
    rw [e1, e2]
    exact Heap.get?_push_size _ rfl
  · have e : b = (s.heap.push { cls := .type "range", data := .fields #[.int lo t, .int hi u, .int 1 v] }).objs.size := by simpa using hb
    subst e
    exact I1.fpOk (Nat.le_refl _) (I1.hok.fresh (Nat.le_refl _))
noncomputable def iRng1 (ta : TA) : TI := fun σ H R => ta σ H fun vs H1 => ∃ j : Int, vs = [.int j] ∧ -(2 ^ 62) ≤ j ∧ j < 2 ^ 62 ∧ R (Itr 0 j.toNat) H1
theorem pi_range1 {a : Expr} {ta : TA} {p pos : Pos} (hg : Gl X "range") (hm : X.mg "range" = none) (ha : PA X [a] ta) (hs : starEach [a] X.env = [(false, eval a X.env)] := by rfl) : PI X tg (.Call (.Name "range" p) [a] [] pos) (iRng1 ta) := by
  intro pins s σ H R I h
  refine Call_ (ld_blt I hg hm boot_range (PyProof.Rows.callWith_type1 (thn (ha pos pins s σ H _ I h) fun us s1 ⟨vs, H1, I1, r1, q1⟩ => ?_) hs rfl))
  obtain ⟨j, e, q1, q2, q⟩ := q1
  subst e
  cases r1 with
  | cons r rr =>
    cases rr
    obtain ⟨t, rfl⟩ := r
    exact call_range_1 (range_it I1 (by omega) (by omega) q1 q2 (by simpa using q))
/-! ### for -/
/-- W: the invariant by the turn and a measure; N: what the body is to reach -/
noncomputable def tFor (wi : TI) (g : TG) (tb : TS) : TS := fun D σ H => wi σ H fun J H1 => ∃ W : Nat → Nat → St → Hp → Prop, (∃ m, W 0 m σ H1) ∧ ∀ i m σ H, W i m σ H →
  (J.stop i H ∧ D.nx σ H) ∨ (J.go i H ∧ ∃ N : St → Hp → Prop, (∀ σ' H', N σ' H' → ∃ m', m' < m ∧ W (i + 1) m' σ' H') ∧ ∀ x H', J.yld i H x H' → g x σ H' fun σ2 H2 => tb { D with nx := N, ct := N, bk := D.nx } σ2 H2)
/-- the records at fp as they stand -/
noncomputable def pinsAt (fp : List Addr) (h : Heap) : List (Addr × Obj) := fp.filterMap fun b => (h.get? b).map fun o => (b, o)
theorem mem_pinsAt {fp : List Addr} {h : Heap} {b : Addr} {o : Obj} (hb : b ∈ fp) (e : h.get? b = some o) : (b, o) ∈ pinsAt fp h := List.mem_filterMap.mpr ⟨b, hb, by rw [e]; rfl⟩
theorem of_pinsAt {fp : List Addr} {h : Heap} {p : Addr × Obj} (hp : p ∈ pinsAt fp h) : p.1 ∈ fp ∧ h.get? p.1 = some p.2 := by
  obtain ⟨b, hb, e⟩ := List.mem_filterMap.mp hp
  cases q : h.get? b with
  | none => rw [q] at e; cases e
  | some o =>
    rw [q] at e
    have e' : (b, o) = p := Option.some.inj e
    subst e'
    exact ⟨hb, q⟩
theorem Inv.pinned {pins : List (Addr × Obj)} {σ : St} {H : Hp} {s : Shared} {fp : List Addr} (I : Inv X pins σ H s) (hf : ∀ b ∈ fp, FpOk X pins H b) (ho : ∀ b ∈ fp, ∃ o, s.heap.get? b = some o ∧ ∀ v, o.data ≠ .cell v) : Inv X (pins ++ pinsAt fp s.heap) σ H s :=
  I.pins_of fun p hp => (List.mem_append.mp hp).elim (fun z => I.pin p (List.mem_append_right _ z)) fun z => by
    obtain ⟨hb, e⟩ := of_pinsAt z
    obtain ⟨f0, f1, f2, _⟩ := hf p.1 hb
    obtain ⟨o, e', d⟩ := ho p.1 hb
    rw [e] at e'; cases e'
    exact ⟨e, f0, f1, f2, d⟩
theorem Inv.unpinned {pins pl : List (Addr × Obj)} {σ : St} {H : Hp} {s : Shared} (I : Inv X (pins ++ pl) σ H s) : Inv X pins σ H s := I.pins_of fun p hp => I.pin p (List.mem_append_right _ (List.mem_append_left _ hp))
theorem ps_for {iter : Expr} {body : List Stmt} {wi : TI} {g : TG} {tb : TS} {pos : Pos} (hp : PassesOwn (model X.prog X.w) X.A X.env X.xe) (hc : X.calm = true) (hi : PI X tg iter wi) (hg : PG X tg g) (hb : PSs X body tb)
    (hs : ∀ x, foldedSetIterable iter X.env x = pure x := by intro _; rfl) : PS X (.For tg iter body [] pos) (tFor wi g tb) := by
  intro pins s σ H D I h
  refine wpAny_For (thn (hi pins s σ H _ I h) fun v s1 h1 => thn h1 fun itv s2 h2 => ?_) hs
  obtain ⟨it, fp, tn, J, H2, e, I2, T, st2, f2, W, ⟨m0, w0⟩, turn⟩ := h2
  subst e
  -- what stays true of the iterator's objects through the loop
  have stat : ∀ {H' : Hp}, (∀ b ∈ fp, H' b = none) → ∀ b ∈ fp, FpOk X pins H' b := fun hn b hb => ⟨hn b hb, (f2 b hb).2⟩
  refine codeAny_forLoop_any (fun n s' => ∃ i σ' H', Inv X pins σ' H' s' ∧ tn i s'.heap ∧ (∀ b ∈ fp, H' b = none) ∧ W i n σ' H') ?_ m0 ⟨0, σ, H2, I2, st2, fun b hb => (f2 b hb).1, w0⟩
  rintro n s3 ⟨i, σ3, H3, I3, st3, fr3, w3⟩
  rcases turn i n σ3 H3 w3 with ⟨stop, qn⟩ | ⟨go, N, hN, step⟩
  · refine wpAny_passesOwn hp (thn (T.done X rfl rfl rfl hc i pins s3 σ3 H3 X.xe I3 (stat fr3) st3 stop) fun r s4 ⟨hr, I4⟩ => ?_)
    subst hr
    exact wpAny_execs_nil ⟨σ3, H3, I4, qn⟩
  · refine wpAny_passesOwn hp (thn (T.item X rfl rfl rfl hc i pins s3 σ3 H3 X.xe I3 (stat fr3) st3 go) fun r s4 ⟨u, hr, h4⟩ => ?_)
    subst hr
    refine wpAny_passesOwn hp (thn h4 fun _ s5 ⟨x, H5, I5, r5, y5, st5, fr5⟩ => ?_)
    have I5' := I5.pinned (stat fr5) (T.obj _ _ st5)
    refine wpAny_passesOwn hp (thn (hg _ s5 σ3 H5 x u _ I5' r5 (step x H5 y5)) fun _ s6 ⟨σ6, H6, I6, q6⟩ => ?_)
    refine wpAny_passesOwn hp (thn (hb _ s6 σ6 H6 _ I6 q6) fun f s7 q7 => ?_)
    have again : ∀ {σ7 : St} {H7 : Hp}, Inv X (pins ++ pinsAt fp s5.heap) σ7 H7 s7 → N σ7 H7 → ∃ m, m < n ∧ ∃ i σ' H', Inv X pins σ' H' s7 ∧ tn i s7.heap ∧ (∀ b ∈ fp, H' b = none) ∧ W i m σ' H' := fun {σ7 H7} I7 n7 => by
      obtain ⟨m', hm, w7⟩ := hN σ7 H7 n7
      refine ⟨m', hm, i + 1, σ7, H7, I7.unpinned, T.keep _ _ _ st5 fun b hb o e => (I7.pin (b, o) (List.mem_append_right _ (List.mem_append_right _ (mem_pinsAt hb e)))).1, fun b hb => ?_, w7⟩
      obtain ⟨o, e, d⟩ := T.obj _ _ st5 b hb
      exact (I7.pin (b, o) (List.mem_append_right _ (List.mem_append_right _ (mem_pinsAt hb e)))).2.1
    cases f with
    | next => obtain ⟨σ7, H7, I7, n7⟩ := q7; exact again I7 n7
    | cont => obtain ⟨σ7, H7, I7, n7⟩ := q7; exact again I7 n7
    | brk => obtain ⟨σ7, H7, I7, q7⟩ := q7; exact ⟨σ7, H7, I7.unpinned, q7⟩
    | ret v => obtain ⟨x7, σ7, H7, I7, r7, q7⟩ := q7; exact ⟨x7, σ7, H7, I7.unpinned, r7, q7⟩
end

/-! ### the forms one uses -/
/-- over a list that the body leaves as it is -/
theorem for_list {K : PySem.W.Frag} {a : Addr} {xs : List V} {g : TG} {tb : TS} {D : Ends} {σ : St} {H : Hp} (Pv : Nat → St → Hp → Prop) (h0 : Pv 0 σ H) (hl : ∀ i σ H, i ≤ xs.length → Pv i σ H → SqL K H a xs)
    (hs : ∀ i x σ H, xs[i]? = some x → Pv i σ H → g x σ H fun σ2 H2 => tb { D with nx := Pv (i + 1), ct := Pv (i + 1), bk := D.nx } σ2 H2) (hd : ∀ σ H, Pv xs.length σ H → D.nx σ H) :
    ∃ W : Nat → Nat → St → Hp → Prop, (∃ m, W 0 m σ H) ∧ ∀ i m σ H, W i m σ H →
      ((Itl K a).stop i H ∧ D.nx σ H) ∨ ((Itl K a).go i H ∧ ∃ N : St → Hp → Prop, (∀ σ' H', N σ' H' → ∃ m', m' < m ∧ W (i + 1) m' σ' H') ∧ ∀ x H', (Itl K a).yld i H x H' → g x σ H' fun σ2 H2 => tb { D with nx := N, ct := N, bk := D.nx } σ2 H2) := by
  refine ⟨fun i m σ H => m = xs.length - i ∧ i ≤ xs.length ∧ Pv i σ H, ⟨xs.length, by simp, Nat.zero_le _, h0⟩, ?_⟩
  rintro i m σ H ⟨rfl, hi, p⟩
  have q := hl i σ H hi p
  by_cases hlt : i < xs.length
  · refine .inr ⟨⟨xs, xs[i], q, by simp [hlt]⟩, Pv (i + 1), fun σ' H' p' => ⟨xs.length - (i + 1), by omega, rfl, hlt, p'⟩, fun x H' y => ?_⟩
    obtain ⟨e, y⟩ := y
    subst e
    exact hs i x σ _ (y xs q) p
  · have e : i = xs.length := by omega
    subst e
    exact .inl ⟨⟨xs, q, Nat.le_refl _⟩, hd σ H p⟩
theorem for_range {lo : Int} {n : Nat} {g : TG} {tb : TS} {D : Ends} {σ : St} {H : Hp} (Pv : Nat → St → Hp → Prop) (h0 : Pv 0 σ H)
    (hs : ∀ i σ H, i < n → Pv i σ H → g (.int (lo + i)) σ H fun σ2 H2 => tb { D with nx := Pv (i + 1), ct := Pv (i + 1), bk := D.nx } σ2 H2) (hd : ∀ σ H, Pv n σ H → D.nx σ H) :
    ∃ W : Nat → Nat → St → Hp → Prop, (∃ m, W 0 m σ H) ∧ ∀ i m σ H, W i m σ H →
      ((Itr lo n).stop i H ∧ D.nx σ H) ∨ ((Itr lo n).go i H ∧ ∃ N : St → Hp → Prop, (∀ σ' H', N σ' H' → ∃ m', m' < m ∧ W (i + 1) m' σ' H') ∧ ∀ x H', (Itr lo n).yld i H x H' → g x σ H' fun σ2 H2 => tb { D with nx := N, ct := N, bk := D.nx } σ2 H2) := by
  refine ⟨fun i m σ H => m = n - i ∧ i ≤ n ∧ Pv i σ H, ⟨n, by simp, Nat.zero_le _, h0⟩, ?_⟩
  rintro i m σ H ⟨rfl, hi, p⟩
  by_cases hlt : i < n
  · refine .inr ⟨hlt, Pv (i + 1), fun σ' H' p' => ⟨n - (i + 1), by omega, rfl, hlt, p'⟩, fun x H' y => ?_⟩
    obtain ⟨e, y⟩ := y
    subst e y
    exact hs i σ _ hlt p
  · have e : i = n := by omega
    subst e
    exact .inl ⟨Nat.le_refl _, hd σ H p⟩
/-- while, by a word and a measure of the state -/
theorem while_by {c : TT} {tb : TS} {D : Ends} {σ : St} {H : Hp} (Pv : St → Hp → Prop) (μ : St → Hp → Nat) (h0 : Pv σ H)
    (hs : ∀ σ H, Pv σ H → c σ H fun b H1 => if b = true then tb { D with nx := fun σ' H' => Pv σ' H' ∧ μ σ' H' < μ σ H, ct := fun σ' H' => Pv σ' H' ∧ μ σ' H' < μ σ H, bk := D.nx } σ H1 else D.nx σ H1)
    (mono : ∀ σ H Q Q', (∀ b H1, Q b H1 → Q' b H1) → c σ H Q → c σ H Q') : tWhile c tb D σ H := by
  refine ⟨fun m σ H => m = μ σ H ∧ Pv σ H, ⟨_, rfl, h0⟩, ?_⟩
  rintro m σ H ⟨rfl, p⟩
  refine mono σ H _ _ (fun b H1 q => ?_) (hs σ H p)
  cases b with
  | true => exact ⟨_, fun σ' H' ⟨p', l⟩ => ⟨_, l, rfl, p'⟩, q⟩
  | false => exact q
end L2

namespace L2
open PySem PySem.Spec PyProof.Rows

noncomputable abbrev R2 := V → V → Hp → VK → Prop
/-- a two-place operation on values: f is binaryOp op, inplaceOp op or compareOp op -/
noncomputable def OpR (X : Cx) (f : Value → Value → Sem Value) (r : R2) : Prop :=
  ∀ (pins : List (Addr × Obj)) (s : Shared) (σ : St) (H : Hp) (x y : V) (v u : Value) (Q : VK), Inv X pins σ H s → RelV x v → RelV y u → r x y H Q →
    wpAny (model X.prog X.w) X.A (f v u) (EP X pins σ Q) X.xe s
/-- a one-place operation -/
noncomputable def UnR (X : Cx) (f : Value → Sem Value) (r : V → Hp → VK → Prop) : Prop :=
  ∀ (pins : List (Addr × Obj)) (s : Shared) (σ : St) (H : Hp) (x : V) (v : Value) (Q : VK), Inv X pins σ H s → RelV x v → r x H Q →
    wpAny (model X.prog X.w) X.A (f v) (EP X pins σ Q) X.xe s
/-- a call of a value that is known (a builtin, a type) with values -/
noncomputable def CallR (X : Cx) (f : Value) (r : List V → Hp → VK → Prop) : Prop :=
  ∀ (pins : List (Addr × Obj)) (s : Shared) (σ : St) (H : Hp) (xs : List V) (us : List Value) (Q : VK), Inv X pins σ H s → Vals xs us → r xs H Q →
    wpAny (model X.prog X.w) X.A (call f us) (EP X pins σ Q) X.xe s
/-- a value's truth -/
noncomputable def tOp (r : R2) (ta tb : TE) : TE := fun σ H Q => ta σ H fun x H1 => tb σ H1 fun y H2 => r x y H2 Q
noncomputable def tUn (r : V → Hp → VK → Prop) (ta : TE) : TE := fun σ H Q => ta σ H fun x H1 => r x H1 Q
/-- ints in, under C, and a value out -/
noncomputable def rI (C : Int → Int → Prop) (g : Int → Int → V) : R2 := fun x y H Q => ∃ i j, x = .int i ∧ y = .int j ∧ C i j ∧ Q (g i j) H
noncomputable def rI0 (g : Int → Int → V) : R2 := fun x y H Q => ∃ i j, x = .int i ∧ y = .int j ∧ Q (g i j) H
noncomputable def rU (g : Int → V) : V → Hp → VK → Prop := fun x H Q => ∃ i, x = .int i ∧ Q (g i) H

section
variable {X : Cx} {a b c : Expr} {ta tb tc : TE} {pos : Pos}

theorem binT (ha : PE X a ta) (hb : PE X b tb) {pins : List (Addr × Obj)} {s : Shared} {σ : St} {H : Hp} {R : V → V → Hp → Prop} (I : Inv X pins σ H s)
    (h : ta σ H fun x H1 => tb σ H1 fun y H2 => R x y H2) {Q : Value → Shared → Prop} {f : Value → Value → Sem Value}
    (hf : ∀ v u s2 x y H2, Inv X pins σ H2 s2 → RelV x v → RelV y u → R x y H2 → wpAny (model X.prog X.w) X.A (f v u) Q X.xe s2) :
    wpAny (model X.prog X.w) X.A (eval a X.env) (fun v s₁ => wpAny (model X.prog X.w) X.A (eval b X.env) (fun u s₂ => wpAny (model X.prog X.w) X.A (f v u) Q X.xe s₂) X.xe s₁) X.xe s := by
  refine thn (ha pins s σ H _ I h) fun v s1 ⟨x, H1, I1, r1, q1⟩ => ?_
  refine thn (hb pins s1 σ H1 _ I1 q1) fun u s2 ⟨y, H2, I2, r2, q2⟩ => ?_
  exact hf v u s2 x y H2 I2 r1 r2 q2

theorem pe_op {op : Operator} {r : R2} (ho : OpR X (binaryOp op) r) (ha : PE X a ta) (hb : PE X b tb) : PE X (.BinOp a op b pos) (tOp r ta tb) := by
  intro pins s σ H Q I h
  exact wpAny_BinOp (binT ha hb I h fun v u s2 x y H2 I2 rx ry q => ho pins s2 σ H2 x y v u Q I2 rx ry q)
theorem pe_un {op : UnaryOp} {r : V → Hp → VK → Prop} (ho : UnR X (unaryOp op) r) (ha : PE X a ta) : PE X (.UnaryOp op a pos) (tUn r ta) := by
  intro pins s σ H Q I h
  exact UnaryOp_ (thn (ha pins s σ H _ I h) fun v s1 ⟨x, H1, I1, r1, q1⟩ => ho pins s1 σ H1 x v Q I1 r1 q1)
/-! ### ints -/
theorem opI {f : Value → Value → Sem Value} {C : Int → Int → Prop} {g : Int → Int → Int}
    (rule : ∀ (i j : Int) (t u : Tok) (s : Shared) (Q : Value → Shared → Prop) (E : Value → Shared → Prop), C i j → Q (.int (g i j) s.toks) { s with toks := s.toks + 1 } → wpAny (model X.prog X.w) X.A (f (.int i t) (.int j u)) Q E s) :
    OpR X f (rI C fun i j => .int (g i j)) := by
  intro pins s σ H x y v u Q I rx ry h
  obtain ⟨i, j, rfl, rfl, hc, q⟩ := h
  obtain ⟨t, rfl⟩ := rx
  obtain ⟨t', rfl⟩ := ry
  exact rule i j t t' s _ _ hc ⟨.int (g i j), H, I.tok _, ⟨_, rfl⟩, q⟩
theorem opI0 {f : Value → Value → Sem Value} {g : Int → Int → Int}
    (rule : ∀ (i j : Int) (t u : Tok) (s : Shared) (Q : Value → Shared → Prop) (E : Value → Shared → Prop), Q (.int (g i j) s.toks) { s with toks := s.toks + 1 } → wpAny (model X.prog X.w) X.A (f (.int i t) (.int j u)) Q E s) :
    OpR X f (rI0 fun i j => .int (g i j)) := by
  intro pins s σ H x y v u Q I rx ry h
  obtain ⟨i, j, rfl, rfl, q⟩ := h
  obtain ⟨t, rfl⟩ := rx
  obtain ⟨t', rfl⟩ := ry
  exact rule i j t t' s _ _ ⟨.int (g i j), H, I.tok _, ⟨_, rfl⟩, q⟩
theorem opB0 {f : Value → Value → Sem Value} {g : Int → Int → Bool}
    (rule : ∀ (i j : Int) (t u : Tok) (s : Shared) (Q : Value → Shared → Prop) (E : Value → Shared → Prop), Q (.bool (g i j)) s → wpAny (model X.prog X.w) X.A (f (.int i t) (.int j u)) Q E s) :
    OpR X f (rI0 fun i j => .bl (g i j)) := by
  intro pins s σ H x y v u Q I rx ry h
  obtain ⟨i, j, rfl, rfl, q⟩ := h
  obtain ⟨t, rfl⟩ := rx
  obtain ⟨t', rfl⟩ := ry
  exact rule i j t t' s _ _ ⟨.bl (g i j), H, I, rfl, q⟩

noncomputable def CDiv (i j : Int) : Prop := 0 < j ∧ j < 1073741824
noncomputable def CPow (i j : Int) : Prop := 0 ≤ j ∧ j ≤ 1000000 ∧ i.natAbs < 2 ^ 64
noncomputable def CMul (i j : Int) : Prop := (-(2 ^ 64) < i ∧ i < 2 ^ 64) ∨ (-(2 ^ 64) < j ∧ j < 2 ^ 64)
theorem CMul.ok {i j : Int} (h : CMul i j) : IntMulOk i j := by
  rcases h with ⟨h1, h2⟩ | ⟨h1, h2⟩
  · exact .of_left (intBits_le_64 h1 h2)
  · exact .of_right (intBits_le_64 h1 h2)
theorem op_add : OpR X (binaryOp .Add) (rI0 fun i j => .int (i + j)) := opI0 fun _ _ _ _ _ _ _ q => add_int q
theorem op_sub : OpR X (binaryOp .Sub) (rI0 fun i j => .int (i - j)) := opI0 fun _ _ _ _ _ _ _ q => sub_int q
/-- // by a positive divisor -/
theorem op_fdiv : OpR X (binaryOp .FloorDiv) (rI CDiv fun i j => .int (i / j)) := opI fun i j _ _ _ _ _ hc q => by
  have h1 : (0 : Int) < j := hc.1
  have h2 : j < 1073741824 := hc.2
  exact floordiv_int (by omega) (by rw [Int.fdiv_eq_ediv_of_nonneg i (by omega)]; exact q) (.inl (PyProof.noPylong_small (by omega)))
/-- % by a positive divisor of any size -/
theorem op_mod : OpR X (binaryOp .Mod) (rI (fun _ j => 0 < j) fun i j => .int (i % j)) := opI fun i j _ _ _ _ _ hc q => by
  have h1 : (0 : Int) < j := hc
  exact mod_int' (by omega) (by rw [Int.fmod_eq_emod_of_nonneg i (by omega)]; exact q)
theorem op_pow : OpR X (binaryOp .Pow) (rI CPow fun i j => .int (i ^ j.toNat)) := opI fun _ _ _ _ _ _ _ hc q => pow_int_small hc.1 hc.2.1 hc.2.2 q
theorem unI {f : Value → Sem Value} {g : Int → Int}
    (rule : ∀ (i : Int) (t : Tok) (s : Shared) (Q : Value → Shared → Prop) (E : Value → Shared → Prop), Q (.int (g i) s.toks) { s with toks := s.toks + 1 } → wpAny (model X.prog X.w) X.A (f (.int i t)) Q E s) :
    UnR X f (rU fun i => .int (g i)) := by
  intro pins s σ H x v Q I rx h
  obtain ⟨i, rfl, q⟩ := h
  obtain ⟨t, rfl⟩ := rx
  exact rule i t s _ _ ⟨.int (g i), H, I.tok _, ⟨_, rfl⟩, q⟩
theorem un_neg : UnR X (unaryOp .USub) (rU fun i => .int (-i)) := unI fun _ _ _ _ _ q => neg_int q
/-! ### bools among ints: n += (a < b) -/
end

/-! ### comparisons -/
/-- the scalars that == tells apart as data does -/
noncomputable def scal : V → V → Bool
  | .non, .non => true | .non, .int _ => true | .int _, .non => true | .non, .bl _ => true | .bl _, .non => true | .non, .str _ => true | .str _, .non => true
  | .int _, .int _ => true | .bl _, .bl _ => true | .str _, .str _ => true | .byt _, .byt _ => true
  | .int _, .str _ => true | .str _, .int _ => true | .bl _, .str _ => true | .str _, .bl _ => true
  | _, _ => false
noncomputable def rEq : R2 := fun x y H Q => scal x y = true ∧ Q (.bl (decide (x = y))) H
theorem dec_int {i j : Int} : decide (V.int i = V.int j) = (i == j) := by
  rw [Bool.eq_iff_iff]
  simp
theorem dec_bl {i j : Bool} : decide (V.bl i = V.bl j) = (i == j) := by
  rw [Bool.eq_iff_iff]
  simp
theorem dec_str {i j : Str} : decide (V.str i = V.str j) = (i == j) := by
  rw [Bool.eq_iff_iff]
  simp
theorem dec_byt {i j : Array UInt8} : decide (V.byt i = V.byt j) = (i.toList == j.toList) := by
  rw [Bool.eq_iff_iff]
  cases i
  cases j
  simp

section
variable {X : Cx} {a b c : Expr} {ta tb tc : TE} {pos : Pos}
theorem fin_bl {pins : List (Addr × Obj)} {σ : St} {H : Hp} {s : Shared} {Q : VK} {k k' : Bool} (I : Inv X pins σ H s) (q : Q (.bl k) H) (e : k = k') : EP X pins σ Q (.bool k') s := by
  subst e
  exact ⟨.bl k, H, I, rfl, q⟩
theorem op_eq : OpR X (compareOp .Eq) rEq := by
  intro pins s σ H x y v u Q I rx ry h
  obtain ⟨hs, q⟩ := h
  cases x with
  | non =>
    cases rx
    cases y with
    | non => cases ry; exact PySem.EqNone.eq_none_none (fin_bl I q (by simp))
    | bl j => cases ry; exact PySem.EqNone.eq_none_bool (fin_bl I q (by simp))
    | int j => obtain ⟨t', rfl⟩ := ry; exact PySem.EqNone.eq_none_int (fin_bl I q (by simp))
    | str j => obtain ⟨t', rfl⟩ := ry; exact PySem.EqNone.eq_none_str (fin_bl I q (by simp))
    | _ => exact absurd (show false = true from hs) Bool.false_ne_true
  | bl i =>
    cases rx
    cases y with
    | non => cases ry; exact PySem.EqNone.eq_bool_none (fin_bl I q (by simp))
    | bl j => cases ry; exact eq_bool (fin_bl I q dec_bl)
    | str j => obtain ⟨t', rfl⟩ := ry; exact PySem.EqMixed.eq_bool_str (fin_bl I q (by simp))
    | _ => exact absurd (show false = true from hs) Bool.false_ne_true
  | int i =>
    obtain ⟨t, rfl⟩ := rx
    cases y with
    | non => cases ry; exact PySem.EqNone.eq_int_none (fin_bl I q (by simp))
    | int j => obtain ⟨t', rfl⟩ := ry; exact eq_int (fin_bl I q dec_int)
    | str j => obtain ⟨t', rfl⟩ := ry; exact PySem.EqMixed.eq_int_str (fin_bl I q (by simp))
    | _ => exact absurd (show false = true from hs) Bool.false_ne_true
  | str i =>
    obtain ⟨t, rfl⟩ := rx
    cases y with
    | non => cases ry; exact PySem.EqNone.eq_str_none (fin_bl I q (by simp))
    | bl j => cases ry; exact PySem.EqMixed.eq_str_bool (fin_bl I q (by simp))
    | int j => obtain ⟨t', rfl⟩ := ry; exact PySem.EqMixed.eq_str_int (fin_bl I q (by simp))
    | str j => obtain ⟨t', rfl⟩ := ry; exact eq_str (fin_bl I q dec_str)
    | _ => exact absurd (show false = true from hs) Bool.false_ne_true
  | byt i =>
    obtain ⟨t, rfl⟩ := rx
    cases y with
    | byt j => obtain ⟨t', rfl⟩ := ry; exact PySem.W.eq_bytes (fin_bl I q dec_byt)
    | _ => exact absurd (show false = true from hs) Bool.false_ne_true
  | _ => cases y <;> exact absurd (show false = true from hs) Bool.false_ne_true
theorem op_lt : OpR X (compareOp .Lt) (rI0 fun i j => .bl (decide (i < j))) := opB0 fun _ _ _ _ _ _ _ q => lt_int q
theorem op_le : OpR X (compareOp .LtE) (rI0 fun i j => .bl (decide (i ≤ j))) := opB0 fun _ _ _ _ _ _ _ q => le_int q
theorem op_gt : OpR X (compareOp .Gt) (rI0 fun i j => .bl (decide (j < i))) := opB0 fun _ _ _ _ _ _ _ q => gt_int q
/-- two rules for one operation: by cases -/
theorem nomark (b : Expr) {op : CmpOp} (h : op ≠ .In := by decide) (h2 : op ≠ .NotIn := by decide) : behindInMarks op b = false := by
  have e1 : (op == CmpOp.In) = false := by cases op <;> first | rfl | exact absurd rfl h
  have e2 : (op == CmpOp.NotIn) = false := by cases op <;> first | rfl | exact absurd rfl h2
  cases b <;> simp [behindInMarks, e1, e2]
/-- a comparison as a value; hm: nomark b, or (for in, not in) by with_unfolding_all rfl -/
theorem pe_cmpR {op : CmpOp} {r : R2} (ho : OpR X (compareOp op) r) (ha : PE X a ta) (hb : PE X b tb) (hm : behindInMarks op b = false) : PE X (.Compare a [op] [b] pos) (tOp r ta tb) := by
  intro pins s σ H Q I h
  exact wpAny_Compare1 (binT ha hb I h fun v u s2 x y H2 I2 rx ry q => ho pins s2 σ H2 x y v u Q I2 rx ry q) hm
/-- a reading of a value as a test -/
noncomputable def tTest (t : TE) : TT := fun σ H Q => t σ H fun x H' => ∃ k, x = .bl k ∧ Q k H'
theorem pt_cmpR {op : CmpOp} {r : R2} (ho : OpR X (compareOp op) r) (ha : PE X a ta) (hb : PE X b tb) (hm : behindInMarks op b = false) : PT X (.Compare a [op] [b] pos) (tTest (tOp r ta tb)) := by
  intro pins s σ H Q I h
  refine wpAny_isTrue_Compare1 (thn (ha pins s σ H _ I h) fun v s1 ⟨x, H1, I1, r1, q1⟩ => thn (hb pins s1 σ H1 _ I1 q1) fun u s2 ⟨y, H2, I2, r2, q2⟩ =>
    thn (ho pins s2 σ H2 x y v u _ I2 r1 r2 q2) fun c s3 ⟨z, H3, I3, r3, k, e, q3⟩ => ?_) hm
  subst e
  cases r3
  exact wpAny_truthy_bool ⟨H3, I3, q3⟩
/-- a op1 b op2 c -/
noncomputable def tChain (r r' : R2) (ta tb tc : TE) : TE := fun σ H Q => ta σ H fun x H1 => tb σ H1 fun y H2 => r x y H2 fun z H3 => ∃ k, z = .bl k ∧
  (if k = true then tc σ H3 fun w' H4 => r' y w' H4 Q else Q (.bl false) H3)
theorem pt_chain {op op' : CmpOp} {r r' : R2} (ho : OpR X (compareOp op) r) (ho' : OpR X (compareOp op') r') (ha : PE X a ta) (hb : PE X b tb) (hc : PE X c tc)
    (hm : lastMarks [op, op'] [b, c] = false := by with_unfolding_all rfl) : PT X (.Compare a [op, op'] [b, c] pos) (tTest (tChain r r' ta tb tc)) := by
  intro pins s σ H Q I h
  refine isTrue_chain (thn (ha pins s σ H _ I h) fun v s1 ⟨x, H1, I1, r1, q1⟩ => test_link (thn (hb pins s1 σ H1 _ I1 q1) fun u s2 ⟨y, H2, I2, r2, q2⟩ =>
    thn (ho pins s2 σ H2 x y v u _ I2 r1 r2 q2) fun d s3 ⟨z, H3, I3, r3, k, e, q3⟩ => ?_)) hm
  subst e
  cases r3
  refine wpAny_truthy_bool ?_
  cases k with
  | false =>
    obtain ⟨k', e', q'⟩ := q3
    cases e'
    exact ite_ff ⟨H3, I3, q'⟩
  | true =>
    refine ite_tt (test_last (thn (hc pins s3 σ H3 _ I3 q3) fun w' s4 ⟨z', H4, I4, r4, q4⟩ => thn (ho' pins s4 σ H4 y z' u w' _ I4 r2 r4 q4) fun d' s5 ⟨z2, H5, I5, r5, k2, e2, q5⟩ => ?_))
    subst e2
    cases r5
    exact wpAny_truthy_bool ⟨H5, I5, q5⟩

/-! ### truth -/
/-- a value's truth by the abstract heap -/
theorem line63 : (sizeLine : Nat) < 2 ^ 63 := by rw [sizeLine_eq]; decide
/-! ### strs and bytes -/
/-! ### scalar builtins, by CallR -/
theorem vals1 {x : V} {us : List Value} (r : Vals [x] us) : ∃ u, us = [u] ∧ RelV x u := by
  cases r with
  | cons r1 r2 => cases r2; exact ⟨_, rfl, r1⟩
theorem call_abs : CallR X (.builtin "abs") (fun xs H Q => ∃ i, xs = [.int i] ∧ Q (.int (if i < 0 then -i else i)) H) := by
  intro pins s σ H xs us Q I r h
  obtain ⟨i, rfl, q⟩ := h
  obtain ⟨u, rfl, t, rfl⟩ := vals1 r
  exact call_abs_int fun u tk => ⟨.int (if i < 0 then -i else i), H, I.tok _, ⟨_, rfl⟩, q⟩
end
end L2

namespace L2
open PySem PySem.Spec PyProof.Rows

/-! ### an instance, its attributes a map -/
structure ObjM (h : Heap) (x dx C : Addr) (mA : Str → Option Value) : Prop where
  obj : h.get? x = some (PySem.W.instObj C dx)
  ns : h.Ns1 dx mA
  ne : dx ≠ x

theorem lookIn_ns {h : Heap} {dx : Addr} {mA : Str → Option Value} (n : h.Ns1 dx mA) : ∃ od, h.get? dx = some od ∧ ∀ name, PySem.W.lookIn name od = some (mA name) := by
  obtain ⟨o, es, ep, ho, hd, hk, _, hm⟩ := n
  refine ⟨o, ho, fun name => ?_⟩
  have e := hm name
  unfold nsFind findBy at e
  rw [← Array.find?_toList] at e
  unfold PySem.W.lookIn
  rw [hd]
  dsimp only
  split
  · rename_i y q
    rw [q] at e
    exact congrArg some e
  · rename_i q
    rw [q] at e
    have a : es.toList.any (·.refKey) = false := by
      rw [List.any_eq_false]
      intro y hy
      obtain ⟨z, t, hkey⟩ := hk y (Array.mem_toList_iff.mp hy)
      simp [DictEntry.refKey, hkey]
    have a' : ¬ es.toList.any (·.refKey) = true := by rw [a]; exact Bool.false_ne_true
    rw [if_neg a']
    exact congrArg some e

theorem ObjM.look {h : Heap} {x dx C : Addr} {mA : Str → Option Value} (I : ObjM h x dx C mA) : ∃ od, PySem.W.InstAt h x (PySem.W.instObj C dx) C (some od) ∧ ∀ name, PySem.W.lookIn name od = some (mA name) :=
  let ⟨od, ho, hl⟩ := lookIn_ns I.ns
  ⟨od, ⟨I.obj, rfl, rfl, ho⟩, hl⟩

section
variable {prog : Program} {w : World} {A : Around} {E : Value → Shared → Prop} {s : Shared} {K : PySem.W.Frag} {x dx C f : Addr} {mA : Str → Option Value} {name : Str} {v : Value}

theorem get_map {expr : Bool} {Q : Value → Shared → Prop} (X : K.In s.heap) (I : ObjM s.heap x dx C mA) (hg : PySem.W.plainGet K C name = true) (hh : PySem.W.hasDictIn K C = true)
    (ha : PySem.W.findIn K (.ref C) name = some none) (hv : mA name = some v) (hv' : PySem.W.handedIn v = true) (h : Q v { s with toks := s.toks + 1 }) :
    wpAny (model prog w) A (getAttr (.ref x) name expr) Q E s := by
  obtain ⟨od, J, hl⟩ := I.look
  exact PySem.W.get_value X J (PySem.W.plainGet_of hg).1 (PySem.W.findObj_own hh ha rfl (by rw [hl, hv])) hv' h

theorem get_meth {pl : Sem Bool} {Q : Value × List Value → Shared → Prop} (X : K.In s.heap) (I : ObjM s.heap x dx C mA) (hg : PySem.W.plainGet K C name = true)
    (hf : PySem.W.findIn K (.ref C) name = some (some (.ref f))) (ht : PySem.W.isFn K (.ref f) = true) (hv : mA name = none) (h : Q (.ref f, [.ref x]) s) :
    wpAny (model prog w) A (getMethod (.ref x) name pl) Q E s := by
  obtain ⟨od, J, hl⟩ := I.look
  exact PySem.W.method_fn X J (PySem.W.plainGet_of hg).1 (PySem.W.plainGet_of hg).2 hf (beq_iff_eq.mp ht) (by show (PySem.W.lookIn name od).map (·.isSome) = some false; rw [hl, hv]; rfl) h

theorem set_map {ns : List Str} {Q : Unit → Shared → Prop} (X : K.In s.heap) (I : ObjM s.heap x dx C mA)
    (hs : PySem.W.findIn K (.ref C) "__setattr__" = some (some (.builtin "object.__setattr__"))) (hp : PySem.W.plainOver K C = true) (ht : PySem.W.takerIn K C name = some none) (hh : PySem.W.hasDictIn K C = true)
    (hw : PySem.Within mA ns) (hsz : ns.length ≤ sizeLine)
    (h : ∀ h', ObjM h' x dx C (fun y => if y = name then some v else mA y) → Heap.SameBut dx s.heap h' → Q () { s with heap := h', toks := s.toks + 2 }) :
    wpAny (model prog w) A (setAttr (.ref x) name v) Q E s := by
  obtain ⟨od, J, hl⟩ := I.look
  refine PySem.W.set_plain X J hs (PySem.W.osa_open (s := { s with toks := s.toks + 1 }) (r := none) X J hp ht fun b => ?_)
  obtain ⟨cd, hc, hd'⟩ := PySem.W.any_some hh
  have hx : s.heap.get? x = some ⟨.ref C, some dx, .plain, #[]⟩ := I.obj
  refine wpAny_bind (wpAny_pure (wpAny_bind (wpAny_bind (wpAny_loadPart hx (wpAny_bind (PySem.W.Looks.here (s := { s with toks := s.toks + 1 }) (PySem.W.looks_clsIn X hc) ?_))))))
  rw [hd']
  refine wpAny_pure (a := some dx) (wpAny_bind (wpAny_pure (wpAny_bind ?_)))
  refine wpAny_nsSet1 (s := { s with toks := s.toks + 1 }) I.ns fun h' hn2 hs2 => ?_
  obtain ⟨oD, esD, epD, hoD, hdD, hcD⟩ := hn2.count (PySem.Within.cons name v hw)
  refine wpAny_bind (wpAny_lookBehind hoD (by rw [hdD]; exact pastItsLine_dict (Nat.le_trans hcD (by rw [List.length_cons]; omega))) ?_)
  exact wpAny_pure (h _ ⟨(hs2.2 _ (Ne.symm I.ne)).trans I.obj, hn2, I.ne⟩ hs2)

/-- C(..): the dict at the heap's end, the instance behind it; then its __init__ -/
theorem make_map {R : Result → Shared → Prop} {vs : List Value} {kw : List (Str × Value)} (X : K.In s.heap) (hm : PySem.W.makesIn K C = true)
    (hi : PySem.W.findIn K (.ref C) "__init__" = some (some (.ref f))) (hf : PySem.W.typeIn K (.ref f) = some (.type "function"))
    (h : codeAny (model prog w) (A.under (.builtin "type.__call__" ⟨.ref C :: vs, kw⟩)) (.call (.ref f) ⟨.ref (s.heap.objs.size + 1) :: vs, kw⟩) (PySem.W.InitBack (s.heap.objs.size + 1) R)
      { s with heap := (s.heap.push PySem.W.emptyDict).push (PySem.W.instObj C s.heap.objs.size) }) :
    codeAny (model prog w) A (.call (.ref C) ⟨vs, kw⟩) R s := by
  obtain ⟨hh, g, d, t, os⟩ := s
  exact PySem.W.make_core (PySem.W.makes_of X hm) (PySem.W.looks_findIn X hi) (fun self => PySem.W.bind_fn X self hf) (.inl rfl) h
end

/-! ### the attributes as a list of pairs -/
noncomputable def putF (f : Str) (v : V) : List (Str × V) → List (Str × V)
  | [] => [(f, v)]
  | (g, x) :: r => if g = f then (g, v) :: r else (g, x) :: putF f v r
theorem lookup_putF (f g : Str) (v : V) : ∀ fs : List (Str × V), (putF f v fs).lookup g = if g = f then some v else fs.lookup g
  | [] => by
    show List.lookup g [(f, v)] = _
    by_cases h : g = f
    · have hb : (g == f) = true := beq_iff_eq.mpr h
      simp only [List.lookup, hb, if_pos h]
    · have hb : (g == f) = false := beq_eq_false_iff_ne.mpr h
      simp only [List.lookup, hb, if_neg h]
  | (k, x) :: r => by
    have ih := lookup_putF f g v r
    rw [show putF f v ((k, x) :: r) = (if k = f then (k, v) :: r else (k, x) :: putF f v r) from rfl]
    by_cases hk : k = f
    · rw [if_pos hk]
      by_cases h : g = k
      · have hb : (g == k) = true := beq_iff_eq.mpr h
        simp only [List.lookup, hb, if_pos (h.trans hk)]
      · have hb : (g == k) = false := beq_eq_false_iff_ne.mpr h
        simp only [List.lookup, hb, if_neg (fun e : g = f => h (e.trans hk.symm))]
    · rw [if_neg hk]
      by_cases h : g = k
      · have hb : (g == k) = true := beq_iff_eq.mpr h
        simp only [List.lookup, hb, if_neg (fun e : g = f => hk (h.symm.trans e))]
      · have hb : (g == k) = false := beq_eq_false_iff_ne.mpr h
        simp only [List.lookup, hb]
        exact ih
theorem keys_putF (f : Str) (v : V) : ∀ fs : List (Str × V), f ∈ (putF f v fs).map (·.1) ∧ ∀ g, g ∈ fs.map (·.1) → g ∈ (putF f v fs).map (·.1)
  | [] => ⟨by simp [putF], fun g h => by simp at h⟩
  | (k, x) :: r => by
    obtain ⟨i1, i2⟩ := keys_putF f v r
    rw [show putF f v ((k, x) :: r) = (if k = f then (k, v) :: r else (k, x) :: putF f v r) from rfl]
    by_cases hk : k = f
    · rw [if_pos hk]
      subst hk
      exact ⟨by simp, fun g h => by simpa using h⟩
    · rw [if_neg hk]
      refine ⟨?_, fun g h => ?_⟩
      · rw [List.map_cons]
        exact List.mem_cons_of_mem _ i1
      · rw [List.map_cons] at h ⊢
        rcases List.mem_cons.mp h with e | e
        · exact List.mem_cons.mpr (.inl e)
        · exact List.mem_cons_of_mem _ (i2 g e)
theorem length_putF (f : Str) (v : V) : ∀ fs : List (Str × V), (putF f v fs).length ≤ fs.length + 1
  | [] => by simp [putF]
  | (k, x) :: r => by
    have ih := length_putF f v r
    rw [show putF f v ((k, x) :: r) = (if k = f then (k, v) :: r else (k, x) :: putF f v r) from rfl]
    by_cases hk : k = f
    · rw [if_pos hk, List.length_cons, List.length_cons]; omega
    · rw [if_neg hk, List.length_cons, List.length_cons]; omega

theorem RelO.some_of {v : V} {o : Option Value} (r : RelO (some v) o) : ∃ u, o = some u ∧ RelV v u := by
  cases o with
  | none => exact (show False from r).elim
  | some u => exact ⟨u, rfl, r⟩
theorem RelO.none_of {o : Option Value} (r : RelO none o) : o = none := by
  cases o with
  | none => rfl
  | some u => exact (show False from r).elim
theorem handed_of {v : V} {u : Value} (r : RelV v u) : PySem.W.handedIn u = true := by
  cases v with
  | non => cases (show u = Value.none from r); rfl
  | bl b => cases (show u = Value.bool b from r); rfl
  | int i => obtain ⟨t, e⟩ := (show ∃ t, u = Value.int i t from r); cases e; rfl
  | str x => obtain ⟨t, e⟩ := (show ∃ t, u = Value.str x t from r); cases e; rfl
  | byt b => obtain ⟨t, e⟩ := (show ∃ t, u = Value.bytes b t from r); cases e; rfl
  | flt b => obtain ⟨t, e⟩ := (show ∃ t, u = Value.float b t from r); cases e; rfl
  | ref a => cases (show u = Value.ref a from r); rfl
  | ty n => cases (show u = Value.type n from r); rfl

section
variable {P : Program} {w : World} {H H' : Hp} {h h' : Heap} {a C dx : Addr} {fs fs' : List (Str × V)}
theorem ins_get (hok : HOk P w H h) (e : H a = some (.ins C dx fs)) : ∃ mA, ObjM h a dx C mA ∧ (∀ f, RelO (fs.lookup f) (mA f)) ∧ PySem.Within mA (fs.map (·.1)) ∧ fs.length ≤ 1000 ∧ H dx = some (.own a) := by
  obtain ⟨d, z, ne, ob, mA, n, r, q⟩ := (show ObjOk P w H h a (.ins C dx fs) from hok a _ e)
  exact ⟨mA, ⟨ob, n, ne⟩, r, q, z, d⟩
end

/-! ### what of the text a class must have -/
structure Cls (K : PySem.W.Frag) (C : Addr) : Prop where
  pg : PySem.W.plainGet K C Str.empty = true
  hd : PySem.W.hasDictIn K C = true
  po : PySem.W.plainOver K C = true
  sa : PySem.W.findIn K (.ref C) "__setattr__" = some (some (.builtin "object.__setattr__"))
theorem Cls.get {K : PySem.W.Frag} {C : Addr} (c : Cls K C) (f : Str) : PySem.W.plainGet K C f = true := c.pg
/-- no class of it has the name -/
noncomputable def NoAttr (K : PySem.W.Frag) (C : Addr) (f : Str) : Prop := PySem.W.findIn K (.ref C) f = some none
theorem NoAttr.taker {K : PySem.W.Frag} {C : Addr} {f : Str} (n : NoAttr K C f) : PySem.W.takerIn K C f = some none := by
  unfold PySem.W.takerIn
  rw [show PySem.W.findIn K (.ref C) f = some none from n]
  rfl
/-- a method: a plain def of the class or of one above it -/
structure Meth (K : PySem.W.Frag) (C : Addr) (m : Str) (f : Addr) : Prop where
  at_ : PySem.W.findIn K (.ref C) m = some (some (.ref f))
  fn : PySem.W.isFn K (.ref f) = true
  kp : PySem.W.keepIn K (.ref f) = true

section
variable {X : Cx} {pins : List (Addr × Obj)} {σ : St} {H : Hp} {s : Shared} {a C dx : Addr} {fs : List (Str × V)} {f : Str} {v : V} {A : Around} {E : Value → Shared → Prop}

theorem getattr_ok {b : Bool} {Q : Value → Shared → Prop} (I : Inv X pins σ H s) (e : H a = some (.ins C dx fs)) (c : Cls X.K C) (n : NoAttr X.K C f) (l : fs.lookup f = some v)
    (h : ∀ u s', Inv X pins σ H s' → RelV v u → Q u s') : wpAny (model X.prog X.w) A (getAttr (.ref a) f b) Q E s := by
  obtain ⟨mA, O, r, _, _, _⟩ := ins_get I.hok e
  obtain ⟨u, hu, ru⟩ := RelO.some_of (v := v) (o := mA f) (by rw [← l]; exact r f)
  exact get_map I.kIn O (c.get f) c.hd n hu (handed_of ru) (h u _ (I.tok _) ru)

theorem getmeth_ok {m : Str} {g : Addr} {pl : Sem Bool} {Q : Value × List Value → Shared → Prop} (I : Inv X pins σ H s) (e : H a = some (.ins C dx fs)) (c : Cls X.K C) (k : Meth X.K C m g) (l : fs.lookup m = none)
    (h : Q (.ref g, [.ref a]) s) : wpAny (model X.prog X.w) A (getMethod (.ref a) m pl) Q E s := by
  obtain ⟨mA, O, r, _, _, _⟩ := ins_get I.hok e
  have hn : mA m = none := RelO.none_of (by rw [← l]; exact r m)
  exact get_meth I.kIn O (c.get m) k.at_ k.fn hn h

theorem setattr_ok {y : V} {u : Value} {Q : Unit → Shared → Prop} (I : Inv X pins σ H s) (e : H a = some (.ins C dx fs)) (c : Cls X.K C) (n : NoAttr X.K C f) (hl : fs.length < 1000) (ry : RelV y u)
    (h : ∀ s', Inv X pins σ (upd H a (.ins C dx (putF f y fs))) s' → Q () s') : wpAny (model X.prog X.w) A (setAttr (.ref a) f u) Q E s := by
  obtain ⟨mA, O, r, wi, _, ho⟩ := ins_get I.hok e
  have hz : (fs.map (·.1)).length ≤ sizeLine := by rw [List.length_map, sizeLine_eq]; omega
  refine set_map I.kIn O c.sa c.po n.taker c.hd wi hz fun h' O' sb => h _ ?_
  have hd : ∃ o, h'.get? dx = some o := let ⟨o, _, _, e', _⟩ := O'.ns; ⟨o, e'⟩
  refine I.write (x := a) (e := dx) (by rw [e]; exact True.intro) (.inr ho) (fun b q hb z => (sb.2 b hb).trans z) hd ?_
  refine ⟨by rw [upd_ne O.ne]; exact ho, ?_, O.ne, O'.obj, _, O'.ns, fun g => ?_, fun g hg => ?_⟩
  · have := length_putF f y fs; omega
  · show RelO ((putF f y fs).lookup g) (if g = f then some u else mA g)
    rw [lookup_putF]
    by_cases q : g = f
    · rw [if_pos q, if_pos q]; exact ry
    · rw [if_neg q, if_neg q]; exact r g
  · by_cases q : g = f
    · rw [q]; exact (keys_putF f y fs).1
    · refine (keys_putF f y fs).2 g (wi g fun z => hg ?_)
      show (if g = f then some u else mA g) = none
      rw [if_neg q]; exact z

/-- a new instance, tracked, without attributes -/
theorem Inv.made (I : Inv X pins σ H s) : Inv X pins σ (upd (upd H s.heap.objs.size (.own (s.heap.objs.size + 1))) (s.heap.objs.size + 1) (.ins C s.heap.objs.size []))
    { s with heap := (s.heap.push PySem.W.emptyDict).push (PySem.W.instObj C s.heap.objs.size) } := by
  have e1 : (s.heap.push PySem.W.emptyDict).get? s.heap.objs.size = some PySem.W.emptyDict := Heap.get?_push_size s.heap rfl
  have e2 : ((s.heap.push PySem.W.emptyDict).push (PySem.W.instObj C s.heap.objs.size)).get? (s.heap.objs.size + 1) = some (PySem.W.instObj C s.heap.objs.size) := by
    have := Heap.get?_push_size (s.heap.push PySem.W.emptyDict) (o := PySem.W.instObj C s.heap.objs.size) rfl
    rwa [Heap.size_push] at this
  have e3 : (s.heap.push PySem.W.emptyDict).Ns s.heap.objs.size (fun _ => none) := ⟨PySem.W.emptyDict, #[], _, e1, rfl, (fun e he => absurd he (by simp)), fun _ => rfl⟩
  have I1 := I.laid (a := s.heap.objs.size) (o := .own (s.heap.objs.size + 1)) (h' := s.heap.push PySem.W.emptyDict) (t' := s.toks) (fun b u q => Heap.get?_push_of_some _ q) (Nat.le_refl _) ⟨_, e1⟩
  refine I1.laid (a := s.heap.objs.size + 1) (o := .ins C s.heap.objs.size []) (t' := s.toks) (fun b u q => Heap.get?_push_of_some _ q) (Nat.le_of_eq (Heap.size_push _ _)) ?_
  have ne : s.heap.objs.size ≠ s.heap.objs.size + 1 := Nat.ne_of_lt (Nat.lt_succ_self _)
  refine ⟨by rw [upd_ne ne, upd_same], Nat.zero_le _, ne, e2, fun _ => none, (Heap.Ns1.of_empty e3).at fun o q => Heap.get?_push_of_some _ q, fun _ => True.intro, fun y hy => absurd rfl hy⟩

/-- e.f where nothing but the object is asked: through attributeBase (super) and the last hold -/
theorem attr_of {prog : Program} {w : World} {env : Env} {e : Expr} {f : Str} {pos : Pos} {s : Shared} {Q : Value → Shared → Prop} (hb : attributeBase e f env (eval e env) = eval e env)
    (h : wpAny (model prog w) A (eval e env) (fun o s₁ => wpAny (model prog w) A (getAttr o f true) Q E s₁) E s) : wpAny (model prog w) A (eval (.Attribute e f pos) env) Q E s :=
  Attribute_any_ h (by rw [arm_eval_Attribute, hb])
end

/-! ### readings and rules -/
/-- e.f, an attribute of the instance -/
noncomputable def tFld (K : PySem.W.Frag) (ta : TE) (f : Str) : TE := fun σ H Q => ta σ H fun x H1 => ∃ a C dx fs v, x = .ref a ∧ H1 a = some (.ins C dx fs) ∧ Cls K C ∧ NoAttr K C f ∧ fs.lookup f = some v ∧ Q v H1
/-- e.f = value -/
noncomputable def sFld (K : PySem.W.Frag) (ta tv : TE) (f : Str) : TS := fun D σ H => tv σ H fun y H1 => ta σ H1 fun x H2 => ∃ a C dx fs, x = .ref a ∧ H2 a = some (.ins C dx fs) ∧ Cls K C ∧ NoAttr K C f ∧ fs.length < 1000 ∧
  D.nx σ (upd H2 a (.ins C dx (putF f y fs)))
section
variable {X : Cx} {o e value : Expr} {f : Str} {pos pos' tpos : Pos} {ta tv : TE}
theorem pe_fld (he : PE X e ta) (hb : attributeBase e f X.env (eval e X.env) = eval e X.env) : PE X (.Attribute e f pos) (tFld X.K ta f) := by
  intro pins s σ H Q I h
  refine attr_of hb (thn (he pins s σ H _ I h) fun u s1 ⟨x, H1, I1, rx, a, C, dx, fs, v, ex, ea, c, n, l, q⟩ => ?_)
  subst ex
  obtain rfl : u = Value.ref a := rx
  exact getattr_ok I1 ea c n l fun u' s2 I2 ru => ⟨v, H1, I2, ru, q⟩
theorem ps_fld (ha : PE X o ta) (hv : PE X value tv) (hs : swapsWith value (some (.Attribute o f pos')) pos.line X.env = pure false) : PS X (.Assign [.Attribute o f pos'] value pos) (sFld X.K ta tv f) := by
  intro pins s σ H D I h
  refine plainObj_wpAny_Assign_Attribute (thn (hv pins s σ H _ I h) fun u s1 ⟨y, H1, I1, ry, q⟩ => thn (ha pins s1 σ H1 _ I1 q) fun ov s2 ⟨x, H2, I2, rx, a, C, dx, fs, ex, ea, c, n, l, q2⟩ => ?_) hs
  subst ex
  obtain rfl : ov = Value.ref a := rx
  exact setattr_ok I2 ea c n l ry fun s3 I3 => ⟨σ, _, I3, q2⟩
end

/-! ### isinstance -/
section
variable {X : Cx} {pins : List (Addr × Obj)} {σ : St} {H : Hp} {s : Shared} {A : Around} {E : Value → Shared → Prop} {Q : Value → Shared → Prop} {c : Value} {b : Bool}
/-- the type of a value, as the fragment's deciders take it; for an instance its class -/
inductive TyOf (K : PySem.W.Frag) (H : Hp) : V → Value → Prop where
  | non : TyOf K H .non (.type "NoneType")
  | bl (x : Bool) : TyOf K H (.bl x) (.type "bool")
  | int (i : Int) : TyOf K H (.int i) (.type "int")
  | str (x : Str) : TyOf K H (.str x) (.type "str")
  | flt (x : UInt64) : TyOf K H (.flt x) (.type "float")
  | lst {a : Addr} {xs : List V} (e : H a = some (.lst xs)) : TyOf K H (.ref a) (.type "list")
  | frz {a : Addr} {o : Obj} {xs : List V} (e : H a = some (.frz o (.lst xs))) : TyOf K H (.ref a) (.type "list")
  | tup {a : Addr} {xs : List V} (e : H a = some (.tup xs)) : TyOf K H (.ref a) (.type "tuple")
  | dK {a : Addr} {kvs : List (Key × V)} (e : H a = some (.dK kvs)) : TyOf K H (.ref a) (.type "dict")
  | dT {a : Addr} {kvs : List (List Key × V)} (e : H a = some (.dT kvs)) : TyOf K H (.ref a) (.type "dict")
  | ins {a C dx : Addr} {fs : List (Str × V)} (e : H a = some (.ins C dx fs)) (cl : Cls K C) (ha : PySem.W.findIn K (.ref C) "__class__" = some (some (.builtin "object.__class__")))
      (hn : PySem.W.specialIn K (.builtin "object.__class__") "__get__" = some (some (.builtin "getset_descriptor.__get__"))) (htk : PySem.W.takesIn K (.builtin "object.__class__") = some true)
      (hm : PySem.W.mroIn K C (.type "object") = some true) : TyOf K H (.ref a) (.ref C)
/-- isinstance(x, c) for one class c, a built-in or an own one: kitOne's answer -/
theorem isinst_ok {x : V} {u t : Value} (I : Inv X pins σ H s) (rx : RelV x u) (ty : TyOf X.K H x t) (e : PySem.W.kitOne X.K t c = some b) (h : ∀ tk, Q (.bool b) { s with toks := tk }) :
    wpAny (model X.prog X.w) A (call (.builtin "isinstance") [u, c]) Q E s := by
  cases ty with
  | non => cases (show u = Value.none from rx); exact PySem.W.kia_one PySem.W.kitx_none I.kIn True.intro e (fun z => nomatch z) h
  | bl y => cases (show u = Value.bool y from rx); exact PySem.W.kia_one PySem.W.kitx_bool I.kIn True.intro e (fun z => nomatch z) h
  | int i => obtain ⟨t, q⟩ := (show ∃ t, u = Value.int i t from rx); cases q; exact PySem.W.kia_one PySem.W.kitx_int I.kIn True.intro e (fun z => nomatch z) h
  | str y => obtain ⟨t, q⟩ := (show ∃ t, u = Value.str y t from rx); cases q; exact PySem.W.kia_one PySem.W.kitx_str I.kIn True.intro e (fun z => nomatch z) h
  | flt y => obtain ⟨t, q⟩ := (show ∃ t, u = Value.float y t from rx); cases q; exact PySem.W.kia_one PySem.W.kitx_float I.kIn True.intro e (fun z => nomatch z) h
  | @lst a xs ea =>
    cases (show u = Value.ref a from rx)
    obtain ⟨_, _, n, _, h1⟩ := (show ObjOk X.prog X.w H s.heap a (.lst xs) from I.hok a _ ea)
    exact PySem.W.kia_one PySem.W.kitx_list I.kIn ⟨_, h1, rfl⟩ e (fun z => nomatch z) h
  | @frz a ob xs ea =>
    cases (show u = Value.ref a from rx)
    obtain ⟨_, _, _, n, _, h1⟩ := (show ObjOk X.prog X.w H s.heap a (.frz ob (.lst xs)) from I.hok a _ ea)
    exact PySem.W.kia_one PySem.W.kitx_list I.kIn ⟨_, h1, rfl⟩ e (fun z => nomatch z) h
  | @tup a xs ea =>
    cases (show u = Value.ref a from rx)
    obtain ⟨_, _, _, p⟩ := (show ObjOk X.prog X.w H s.heap a (.tup xs) from I.hok a _ ea)
    obtain ⟨o, h1, h2, _⟩ := p
    exact PySem.W.kia_one PySem.W.kitx_tuple I.kIn ⟨o, h1, h2⟩ e (fun z => nomatch z) h
  | @dK a kvs ea =>
    cases (show u = Value.ref a from rx)
    obtain ⟨_, _, vs, _, p⟩ := (show ObjOk X.prog X.w H s.heap a (.dK kvs) from I.hok a _ ea)
    obtain ⟨o, es, ep, h1, h2, _⟩ := p
    exact PySem.W.kia_one PySem.W.kitx_dict I.kIn ⟨o, h1, h2.1⟩ e (fun z => nomatch z) h
  | @dT a kvs ea =>
    cases (show u = Value.ref a from rx)
    obtain ⟨_, _, xs, _, o, es, ep, h1, h2, _⟩ := (show ObjOk X.prog X.w H s.heap a (.dT kvs) from I.hok a _ ea)
    exact PySem.W.kia_one PySem.W.kitx_dict I.kIn ⟨o, h1, h2.1⟩ e (fun z => nomatch z) h
  | @ins a C dx fs ea cl ha hn htk hm =>
    cases (show u = Value.ref a from rx)
    obtain ⟨mA, O, _⟩ := ins_get I.hok ea
    obtain ⟨od, J, _⟩ := O.look
    exact PySem.W.kia_one (PySem.W.kitx_own (cl.get _) cl.hd ha hn htk hm) I.kIn J e (fun z => nomatch z) h
end
end L2

namespace L2
open PySem PySem.Spec PyProof.Rows

/-! ### room -/
structure Room (k : Nat) (A : Around) : Prop where
  hd : A.handled = none
  dp : A.depth + 3 * k + 5 < recursionLimit
  un : A.units + 16 * k + 200 < cLine
theorem Room.mono {j k : Nat} {A : Around} (r : Room k A) (h : j ≤ k) : Room j A := ⟨r.hd, by have := r.dp; omega, by have := r.un; omega⟩
theorem Room.deeper {k : Nat} {A : Around} (r : Room (k + 1) A) (env : Env) : Room k (A.deeper env) :=
  ⟨r.hd, by have := r.dp; show A.depth + 1 + 3 * k + 5 < _; omega, by have := r.un; show A.units + 3 + 16 * k + 200 < _; omega⟩
theorem make_depth {A : Around} {C : Addr} {us : List Value} {kw : List (Str × Value)} : (A.under (.builtin "type.__call__" ⟨.ref C :: us, kw⟩)).depth = A.depth + 1 := by
  first | rfl | simp [Around.under, Code.weight, Code.isCreation, Code.isGuard, Code.isCaller, Code.frames, Code.isFrame, guardIds]
theorem make_units {A : Around} {C : Addr} {us : List Value} {kw : List (Str × Value)} : (A.under (.builtin "type.__call__" ⟨.ref C :: us, kw⟩)).units = A.units + 1 := by
  first | rfl | simp [Around.under, Code.cUnits, Code.frames, Code.isFrame]
theorem Room.make {k : Nat} {A : Around} (r : Room (k + 1) A) (C : Addr) (us : List Value) (kw : List (Str × Value)) : Room k (A.under (.builtin "type.__call__" ⟨.ref C :: us, kw⟩)) :=
  ⟨r.hd, by have := r.dp; rw [make_depth]; omega, by have := r.un; rw [make_units]; omega⟩
theorem Room.depth {k : Nat} {A : Around} (r : Room k A) : A.depth < recursionLimit := by have := r.dp; omega
theorem Room.units {k : Nat} {A : Around} (r : Room k A) : A.units + 64 < cLine := by have := r.un; omega
/-! ### argument lists and displays -/
noncomputable def tNil : TA := fun _ H Q => Q [] H
noncomputable def tCons (ta : TE) (tr : TA) : TA := fun σ H Q => ta σ H fun x H1 => tr σ H1 fun xs H2 => Q (x :: xs) H2
section
variable {X : Cx} {e : Expr} {es : List Expr} {te : TE} {t : TA} {pos : Pos}
theorem pa_nil : PA X [] tNil := fun _ _ _ _ H Q I h => Calls.spliced_nil ⟨[], H, I, .nil, h⟩
theorem pa_cons (ha : PE X e te) (hr : PA X es t) (hs : starEach (e :: es) X.env = (false, eval e X.env) :: starEach es X.env := by rfl) : PA X (e :: es) (tCons te t) := by
  intro pos pins s σ H Q I h
  rw [hs]
  show wpAny _ _ (spliced ((false, eval e X.env) :: backTo pos (starEach es X.env))) _ _ s
  refine Calls.spliced_cons (thn (ha pins s σ H _ I h) fun u s1 ⟨x, H1, I1, r1, q1⟩ => ?_)
  exact thn (hr pos pins s1 σ H1 _ I1 q1) fun us s2 ⟨xs, H2, I2, r2, q2⟩ => ⟨x :: xs, H2, I2, .cons r1 r2, q2⟩

/-- a tuple, a list of written items -/
noncomputable def tTup (t : TA) : TE := fun σ H Q => t σ H fun xs H1 => xs.length ≤ sizeLine ∧ ∀ p, H1 p = none → Q (.ref p) (upd H1 p (.tup xs))
noncomputable def tLst (t : TA) : TE := fun σ H Q => t σ H fun xs H1 => xs.length ≤ sizeLine ∧ ∀ p, H1 p = none → Q (.ref p) (upd H1 p (.lst xs))
theorem pe_tup {x1} (h : PA X es t) : PE X (.Tuple es x1 pos) (tTup t) := by
  intro pins s σ H Q I hq
  refine wpAny_Tuple_spliced (thn (h pos pins s σ H _ I hq) fun us s1 ⟨xs, H1, I1, r, z, q⟩ => ⟨by rw [← r.length]; exact z, ?_⟩)
  have hf : H1 s1.heap.objs.size = none := I1.hok.fresh (Nat.le_refl _)
  refine ⟨.ref s1.heap.objs.size, upd H1 s1.heap.objs.size (.tup xs), I1.laid (t' := s1.toks) (fun b u e => Heap.get?_push_of_some _ e) (Nat.le_refl _) ?_, rfl, q _ hf⟩
  exact ⟨z, us, r, ⟨_, Heap.get?_push_size _ rfl, rfl, _, rfl⟩⟩
theorem pe_lst (h : PA X es t) : PE X (.List es pos) (tLst t) := by
  intro pins s σ H Q I hq
  refine wpAny_List_spliced (thn (h pos pins s σ H _ I hq) fun us s1 ⟨xs, H1, I1, r, z, q⟩ => ⟨by rw [← r.length]; exact z, ?_⟩)
  have hf : H1 s1.heap.objs.size = none := I1.hok.fresh (Nat.le_refl _)
  refine ⟨.ref s1.heap.objs.size, upd H1 s1.heap.objs.size (.lst xs), I1.laid (t' := s1.toks) (fun b u e => Heap.get?_push_of_some _ e) (Nat.le_refl _) ?_, rfl, q _ hf⟩
  exact ⟨z, us, 0, r, Heap.get?_push_size _ rfl⟩
end

/-! ### what a def promises -/
/-- a def's promise: the bound arguments in the parameters' order, the heap, the wanted end, the wanted exception -/
noncomputable abbrev Sp := List V → Hp → VK → XK → Prop
/-- how an exception lies behind a call (file 08 gives it): the callers' frames, abstract heap and state ahead of the call, the wish, the exception, the state -/
noncomputable abbrev CXT := List Env → Hp → Shared → XK → Value → Shared → Prop

/-- the state at a call -/
structure Env0 (P : Program) (w : World) (K : PySem.W.Frag) (mg : Str → Option Value) (base : Heap) (A : Around) (outer : List Env) (s : Shared) (H : Hp) : Prop where
  frames : A.frames = some outer
  mod : Mod K mg base
  bs : ∀ b o, base.get? b = some o → s.heap.get? b = some o ∧ H b = none
  bsz : base.objs.size ≤ s.heap.objs.size
  funs : s.heap.FunFrames base outer
  frf : ∀ b ∈ frs outer, H b = none
  hok : HOk P w H s.heap
  bare : AllBare s.gens
/-- a call's end -/
noncomputable def CE (outer : List Env) (P : Program) (w : World) (H : Hp) (s : Shared) (Q : VK) (u : Value) (s' : Shared) : Prop :=
  ∃ v H', s'.os = s.os ∧ AllBare s'.gens ∧ Un (frs outer) [] H H' s.heap s'.heap ∧ HOk P w H' s'.heap ∧ RelV v u ∧ Q v H'
noncomputable def CR (CX : CXT) (outer : List Env) (P : Program) (w : World) (H : Hp) (s : Shared) (Q : VK) (E : XK) (r : Result) (s' : Shared) : Prop :=
  match r with
  | .ok (.ret u) => CE outer P w H s Q u s'
  | .ok _ => False
  | .error e => CX outer H s E e s'
structure FnOk (P : Program) (w : World) (K : PySem.W.Frag) (mg : Str → Option Value) (base : Heap) (CX : CXT) (k : Nat) (f : Addr) (fd : FuncData) (ps : List Str) (sp : Sp) : Prop where
  len : ∀ vs H Q E, sp vs H Q E → vs.length = ps.length
  run : ∀ (A : Around) (outer : List Env) (s : Shared) (H : Hp) (args : Args) (us : List Value) (vs : List V) (Q : VK) (E : XK), Room k A → Env0 P w K mg base A outer s H → BindsTo s fd args (ps.zip us) → Vals vs us → sp vs H Q E →
    codeAny (model P w) A (.call (.ref f) args) (CR CX outer P w H s Q E) s
theorem FnOk.mono {P : Program} {w : World} {K : PySem.W.Frag} {mg : Str → Option Value} {base : Heap} {CX : CXT} {j k : Nat} {f : Addr} {fd : FuncData} {ps : List Str} {sp : Sp} (F : FnOk P w K mg base CX j f fd ps sp) (h : j ≤ k) :
    FnOk P w K mg base CX k f fd ps sp := ⟨F.len, fun A outer s H args us vs Q E hr => F.run A outer s H args us vs Q E (hr.mono h)⟩
/-- a weaker promise -/
theorem Env0.make {P : Program} {w : World} {K : PySem.W.Frag} {mg : Str → Option Value} {base : Heap} {A : Around} {outer : List Env} {s : Shared} {H : Hp} (e : Env0 P w K mg base A outer s H) (C : Addr) (us : List Value) (kw : List (Str × Value)) :
    Env0 P w K mg base (A.under (.builtin "type.__call__" ⟨.ref C :: us, kw⟩)) outer s H := ⟨by first | exact e.frames | (simpa [Around.under, Code.envs, Code.isFrame, pushEnvs] using e.frames), e.mod, e.bs, e.bsz, e.funs, e.frf, e.hok, e.bare⟩
section
variable {X : Cx} {pins : List (Addr × Obj)} {σ : St} {H : Hp} {s s' : Shared}
/-- from a body: what a callee wants -/
theorem Inv.env0 (I : Inv X pins σ H s) : Env0 X.prog X.w X.K X.mg X.base X.A X.stack s H :=
  ⟨I.ok.frames, I.ok.mod, I.bs, Nat.le_trans I.ok.bsz I.sz, I.stack, I.stkFree, I.hok, I.bare⟩
/-- behind a call -/
theorem Inv.after {Q : VK} {u : Value} (I : Inv X pins σ H s) (h : CE X.stack X.prog X.w H s Q u s') : EP X pins σ Q u s' := by
  obtain ⟨v, H', os, bare, un, hok, r, q⟩ := h
  obtain ⟨hh, g, d, t, os'⟩ := s'
  obtain rfl : os' = s.os := os
  exact ⟨v, H', I.call (h' := hh) (g' := g) (d' := d) (t' := t) (ch := []) un hok bare (fun b z => absurd z (by simp)), r, q⟩
end

/-! ### calls -/
/-- f(..): the written arguments, then the defaults dvs; E: what is wanted of an exception -/
noncomputable def tCall (sp : Sp) (dvs : List V) (E : XK) (t : TA) : TE := fun σ H Q => t σ H fun vs H1 => sp (vs ++ dvs) H1 Q E
/-- o.m(..) of an instance of the class at C -/
noncomputable def tMeth (C : Addr) (m : Str) (sp : Sp) (dvs : List V) (E : XK) (ta : TE) (t : TA) : TE := fun σ H Q => ta σ H fun x H1 => ∃ a dx fs, x = .ref a ∧ H1 a = some (.ins C dx fs) ∧ fs.lookup m = none ∧
  t σ H1 fun vs H2 => sp (x :: (vs ++ dvs)) H2 Q E
/-- C(..): a new instance and its dict, then __init__ -/
noncomputable def tMake (C : Addr) (sp : Sp) (dvs : List V) (E : XK) (t : TA) : TE := fun σ H Q => t σ H fun vs H1 => ∀ x dx, H1 x = none → H1 dx = none → dx ≠ x →
  sp (.ref x :: (vs ++ dvs)) (upd (upd H1 dx (.own x)) x (.ins C dx [])) (fun v H2 => v = .non ∧ Q (.ref x) H2) E

/-- how the parameters are bound: us the positional arguments, kw the keywords' values by name, ds the defaults that fill up -/
noncomputable def Binds (K : PySem.W.Frag) (fd : FuncData) (ps : List Str) (ds : List Value) : Prop :=
  ∀ (s : Shared) (us : List Value), K.In s.heap → (us ++ ds).length = ps.length → BindsTo s fd ⟨us, []⟩ (ps.zip (us ++ ds))
/-- every parameter is given -/
theorem Binds.all {K : PySem.W.Frag} {fd : FuncData} {ps : List Str} (h : ∀ us : List Value, us.length = ps.length → bindArgs fd ⟨us, []⟩ = pure (ps.zip us)) : Binds K fd ps [] := fun s us _ hl => by
  rw [List.append_nil] at hl ⊢
  exact .of_eq (h us hl)

/-- an exception of a callee reaches what this body wants of exceptions -/
noncomputable def Passes (CX : CXT) (X : Cx) (E : XK) : Prop := ∀ (pins : List (Addr × Obj)) (σ : St) (H : Hp) (s : Shared) (e : Value) (s' : Shared), Inv X pins σ H s → CX X.stack H s E e s' → X.xe e s'

section
variable {X : Cx} {CX : CXT} {k : Nat} {f C : Addr} {fd : FuncData} {ps : List Str} {sp : Sp} {dvs : List V} {ds : List Value} {E : XK} {x m : Str} {p pos apos : Pos} {e o : Expr} {es : List Expr} {ta : TE} {t : TA}

/-- the callee runs -/
theorem run_fn {pins : List (Addr × Obj)} {σ : St} {H : Hp} {s : Shared} {Q : VK} {us : List Value} {vs : List V} (F : FnOk X.prog X.w X.K X.mg X.base CX k f fd ps sp) (hr : Room k X.A) (hb : Binds X.K fd ps ds) (hd : Vals dvs ds) (hx : Passes CX X E)
    (I : Inv X pins σ H s) (r : Vals vs us) (h : sp (vs ++ dvs) H Q E) : wpAny (model X.prog X.w) X.A (call (.ref f) us) (EP X pins σ Q) X.xe s := by
  have r2 : Vals (vs ++ dvs) (us ++ ds) := r.append hd
  have hl : (us ++ ds).length = ps.length := by rw [← r2.length]; exact F.len _ _ _ _ h
  refine wpAny_call (codeAny_mono (F.run X.A X.stack s H ⟨us, []⟩ (us ++ ds) (vs ++ dvs) Q E hr I.env0 (hb s us I.kIn hl) r2 h) fun r s' hq => ?_)
  cases r with
  | error e => exact hx pins σ H s e s' I hq
  | ok fl =>
    cases fl with
    | ret u => exact I.after hq
    | next => exact False.elim hq
    | brk => exact False.elim hq
    | cont => exact False.elim hq

theorem pe_call (F : FnOk X.prog X.w X.K X.mg X.base CX k f fd ps sp) (hr : Room k X.A) (hg : Gl X x) (hm : X.mg x = some (.ref f)) (hk : PySem.W.keepIn X.K (.ref f) = true) (hb : Binds X.K fd ps ds) (hd : Vals dvs ds) (hx : Passes CX X E)
    (ha : PA X (e :: es) t) (hdb : (x == ("__debug__" : Str)) = false := by decide) (he : starEach (e :: es) X.env = (false, eval e X.env) :: starEach es X.env := by rfl) (hpl : (backTo pos (starEach es X.env)).any (·.1) = false := by rfl) :
    PE X (.Call (.Name x p) (e :: es) [] pos) (tCall sp dvs E t) := by
  intro pins s σ H Q I h
  refine wpAny_Call_Name_kw (ld_glob I hg hm ?_ hdb)
  refine PySem.W.callWith_K (h₀ := X.base) I.ok.mod.kin hk (thn (ha pos pins s σ H _ I h) fun us s1 ⟨vs, H1, I1, r, q⟩ => ⟨I1.kIn, ?_⟩) he hpl
  exact run_fn F hr hb hd hx I1 r q
/-- o.m() -/
theorem pe_meth0 {pl : Sem Bool} (he : PE X o ta) (c : Cls X.K C) (hm : Meth X.K C m f) (F : FnOk X.prog X.w X.K X.mg X.base CX k f fd ps sp) (hr : Room k X.A) (hb : Binds X.K fd ps ds) (hd : Vals dvs ds) (hx : Passes CX X E)
    (ht : eval (.Call (.Attribute o m apos) [] [] pos) X.env = (do
      let ov ← eval o X.env
      standAt apos.atName
      let (f, first) ← holding [ov] (getMethod ov m pl)
      callWith pos f first (backTo pos (starEach [] X.env)) (backToKw pos (keywordEach [] X.env))) := by rfl) :
    PE X (.Call (.Attribute o m apos) [] [] pos) (tMeth C m sp dvs E ta tNil) := by
  intro pins s σ H Q I h
  refine PySem.W.methodCall_KW (pl := pl) (thn (he pins s σ H _ I h) fun u s1 ⟨x, H1, I1, rx, a, dx, fs, ex, ea, l, q⟩ => ?_) ht
  subst ex
  obtain rfl : u = Value.ref a := rx
  refine getmeth_ok I1 ea c hm l ?_
  exact PySem.W.callWith_K0 (first := [.ref a]) I1.kIn hm.kp (run_fn (us := [.ref a]) (vs := [.ref a]) F hr hb hd hx I1 (.cons rfl .nil) q)

/-- what a class must have to be made -/
structure Mk (K : PySem.W.Frag) (C f : Addr) : Prop where
  makes : PySem.W.makesIn K C = true
  init : PySem.W.findIn K (.ref C) "__init__" = some (some (.ref f))
  fn : PySem.W.isFn K (.ref f) = true
  kp : PySem.W.keepIn K (.ref C) = true

theorem run_make {pins : List (Addr × Obj)} {σ : St} {H : Hp} {s : Shared} {Q : VK} {us : List Value} {vs : List V} (M : Mk X.K C f) (F : FnOk X.prog X.w X.K X.mg X.base CX k f fd ps sp) (hr : Room (k + 1) X.A) (hb : Binds X.K fd ps ds) (hd : Vals dvs ds)
    (hx : Passes CX X E) (I : Inv X pins σ H s) (r : Vals vs us)
    (h : ∀ x dx, H x = none → H dx = none → dx ≠ x → sp (.ref x :: (vs ++ dvs)) (upd (upd H dx (.own x)) x (.ins C dx [])) (fun v H2 => v = .non ∧ Q (.ref x) H2) E) :
    wpAny (model X.prog X.w) X.A (call (.ref C) us) (EP X pins σ Q) X.xe s := by
  have hq := h (s.heap.objs.size + 1) s.heap.objs.size (I.hok.fresh (Nat.le_succ _)) (I.hok.fresh (Nat.le_refl _)) (Nat.ne_of_lt (Nat.lt_succ_self _))
  have I2 := Inv.made (C := C) I
  have r2 : Vals (V.ref (s.heap.objs.size + 1) :: (vs ++ dvs)) (Value.ref (s.heap.objs.size + 1) :: (us ++ ds)) := .cons rfl (r.append hd)
  have hl : (Value.ref (s.heap.objs.size + 1) :: us ++ ds).length = ps.length := by
    have e := r2.length
    rw [F.len _ _ _ _ hq] at e
    exact e.symm
  refine wpAny_call (make_map (f := f) I.kIn M.makes M.init (beq_iff_eq.mp M.fn) (codeAny_mono (F.run _ X.stack _ _ ⟨Value.ref (s.heap.objs.size + 1) :: us, []⟩ (Value.ref (s.heap.objs.size + 1) :: (us ++ ds)) _ _ E (hr.make C us [])
    (I2.env0.make C us []) (hb _ (Value.ref (s.heap.objs.size + 1) :: us) I2.kIn hl) r2 hq) fun r s' hq' => ?_))
  cases r with
  | error e => exact hx pins σ _ _ e s' I2 hq'
  | ok fl =>
    cases fl with
    | ret u =>
      obtain ⟨v, H', I3, rv, ev, q3⟩ := I2.after hq'
      subst ev
      exact ⟨rv, ⟨V.ref (s.heap.objs.size + 1), H', I3, rfl, q3⟩⟩
    | next => exact False.elim hq'
    | brk => exact False.elim hq'
    | cont => exact False.elim hq'
theorem pe_make (M : Mk X.K C f) (F : FnOk X.prog X.w X.K X.mg X.base CX k f fd ps sp) (hr : Room (k + 1) X.A) (hg : Gl X x) (hm : X.mg x = some (.ref C)) (hb : Binds X.K fd ps ds) (hd : Vals dvs ds) (hx : Passes CX X E)
    (ha : PA X (e :: es) t) (hdb : (x == ("__debug__" : Str)) = false := by decide) (he : starEach (e :: es) X.env = (false, eval e X.env) :: starEach es X.env := by rfl) (hpl : (backTo pos (starEach es X.env)).any (·.1) = false := by rfl) :
    PE X (.Call (.Name x p) (e :: es) [] pos) (tMake C sp dvs E t) := by
  intro pins s σ H Q I h
  refine wpAny_Call_Name_kw (ld_glob I hg hm ?_ hdb)
  refine PySem.W.callWith_K (h₀ := X.base) I.ok.mod.kin M.kp (thn (ha pos pins s σ H _ I h) fun us s1 ⟨vs, H1, I1, r, q⟩ => ⟨I1.kIn, ?_⟩) he hpl
  exact run_make M F hr hb hd hx I1 r q
end

/-! ### keywords -/
section
variable {X : Cx} {CX : CXT} {k : Nat} {f C : Addr} {fd : FuncData} {ps ks : List Str} {sp : Sp} {E : XK} {x m : Str} {p pos apos kpos : Pos} {e o : Expr} {es : List Expr} {kws : List Keyword} {te ta : TE} {t tk : TA} {nm : Option Str}
variable {g : List Value → List Value → List Value} {gV : List V → List V → List V}
end

/-! ### a def's body keeps its promise -/
/-- names: the parameters first -/
structure FnScope (N P : List Str) (sc : Scope) : Prop where
  kind : sc.kind = .function
  co : sc.isCoroutine = false
  gen : sc.isGenerator = false
  nd : N.Nodup
  pre : N.take P.length = P
  par : ∀ x ∈ P, sc.names.lookup x = some .local ∨ sc.names.lookup x = some .cell
  nofree : ∀ y ∈ sc.names, y.2 ≠ .free

theorem bindL_out {kindOf : Str → Option NameKind} {x : Str} : ∀ {binds : List (Str × Value)} {m : Str → Option Value}, (∀ v, (x, v) ∉ binds) → bindL kindOf binds m x = m x
  | [], _, _ => rfl
  | (n, v) :: r, m, h => by
    unfold bindL
    rw [bindL_out fun w hw => h w (List.mem_cons_of_mem _ hw)]
    split
    · have : x ≠ n := by rintro rfl; exact h v List.mem_cons_self
      simp [this]
    · rfl
theorem bindC_out {kindOf : Str → Option NameKind} {x : Str} : ∀ {binds : List (Str × Value)} {m : Str → Option Value}, (∀ v, (x, v) ∉ binds) → bindC kindOf binds m x = m x
  | [], _, _ => rfl
  | (n, v) :: r, m, h => by
    unfold bindC
    rw [bindC_out fun w hw => h w (List.mem_cons_of_mem _ hw)]
    split
    · rfl
    · have : x ≠ n := by rintro rfl; exact h v List.mem_cons_self
      simp [this]
theorem bindL_get {kindOf : Str → Option NameKind} {x : Str} {v : Value} : ∀ {P : List Str} {vs : List Value} {i : Nat} {m : Str → Option Value}, P.Nodup → P[i]? = some x → vs[i]? = some v → kindOf x = some .local →
    bindL kindOf (P.zip vs) m x = some v
  | [], _, _, _, _, h, _, _ => by simp at h
  | _ :: _, [], _, _, _, _, h, _ => by simp at h
  | p :: P, w :: vs, 0, m, nd, h1, h2, hk => by
    simp at h1 h2; subst h1; subst h2
    show bindL kindOf ((p, w) :: P.zip vs) m p = _
    unfold bindL
    rw [bindL_out fun v hv => (List.nodup_cons.mp nd).1 (List.of_mem_zip hv).1, if_pos hk]
    simp
  | p :: P, w :: vs, i + 1, m, nd, h1, h2, hk => by
    show bindL kindOf ((p, w) :: P.zip vs) m x = _
    unfold bindL
    exact bindL_get (i := i) (List.nodup_cons.mp nd).2 (by simpa using h1) (by simpa using h2) hk
theorem bindC_get {kindOf : Str → Option NameKind} {x : Str} {v : Value} : ∀ {P : List Str} {vs : List Value} {i : Nat} {m : Str → Option Value}, P.Nodup → P[i]? = some x → vs[i]? = some v → kindOf x ≠ some .local →
    bindC kindOf (P.zip vs) m x = some v
  | [], _, _, _, _, h, _, _ => by simp at h
  | _ :: _, [], _, _, _, _, h, _ => by simp at h
  | p :: P, w :: vs, 0, m, nd, h1, h2, hk => by
    simp at h1 h2; subst h1; subst h2
    show bindC kindOf ((p, w) :: P.zip vs) m p = _
    unfold bindC
    rw [bindC_out fun v hv => (List.nodup_cons.mp nd).1 (List.of_mem_zip hv).1, if_neg hk]
    simp
  | p :: P, w :: vs, i + 1, m, nd, h1, h2, hk => by
    show bindC kindOf ((p, w) :: P.zip vs) m x = _
    unfold bindC
    exact bindC_get (i := i) (List.nodup_cons.mp nd).2 (by simpa using h1) (by simpa using h2) hk

/-- the names' values at the entry -/
noncomputable def start (N : List Str) (vs : List V) : St := vs.map some ++ List.replicate (N.length - vs.length) none

/-- the context of a def's body, at its entry; an exception leaves the frame, then lies as CX says -/
noncomputable def cxOf (CX : CXT) (P : Program) (w : World) (K : PySem.W.Frag) (mg : Str → Option Value) (base : Heap) (N : List Str) (qual : Str) (scope : Scope) (f : Addr) (cd : Value) (A : Around) (outer : List Env) (s : Shared) (H : Hp) (E : XK) : Cx where
  prog := P
  w := w
  K := K
  mg := mg
  base := base
  A := A.deeper (envOfC qual scope s.heap.objs.size f cd)
  N := N
  s₀ := s
  H₀ := H
  env := envOfC qual scope s.heap.objs.size f cd
  outer := outer
  stack := envOfC qual scope s.heap.objs.size f cd :: outer
  ex := []
  calm := true
  fn := fun _ => true
  pn := []
  xe := fun e s' => wpAny (model P w) (A.deeper (envOfC qual scope s.heap.objs.size f cd)) (leaving (envOfC qual scope s.heap.objs.size f cd) e) (fun _ s'' => CX outer H s E e s'') (fun e' s'' => CX outer H s E e' s'') s'

theorem cell_has {sc : Scope} {n : Nat} {x : Str} (h : sc.names.lookup x = some .cell) : ∃ c, (cellsFrom n sc.names []).lookup x = some c := by
  have q := PySem.W.cellsFrom_some sc.names n [] (.inl h)
  exact Option.isSome_iff_exists.mp q

theorem inv_start {CX : CXT} {P : Program} {w : World} {K : PySem.W.Frag} {mg : Str → Option Value} {base : Heap} {N ps : List Str} {qual : Str} {scope : Scope} {f : Addr} {cd : Value} {A : Around} {outer : List Env} {s s1 : Shared} {H : Hp} {E : XK} {us : List Value} {vs : List V}
    (S : FnScope N ps scope) (hd : A.handled = none) (e0 : Env0 P w K mg base A outer s H) (hl : vs.length = ps.length) (r : Vals vs us)
    (x : InCallC s s.heap.objs.size (bindL (envOfC qual scope s.heap.objs.size f cd).kindOf (ps.zip us) fun _ => none) (cellsFrom (s.heap.objs.size + 1) scope.names []) (bindC (envOfC qual scope s.heap.objs.size f cd).kindOf (ps.zip us) fun _ => none) s1) :
    Inv (cxOf CX P w K mg base N qual scope f cd A outer s H E) [] (start N vs) H s1 := by
  have hpl : ps.length ≤ N.length := by have := congrArg List.length S.pre; rw [List.length_take] at this; omega
  obtain ⟨h1, tk, rfl, hk⟩ := x.done
  have noA : ∀ b : Addr, b ∉ (cxOf CX P w K mg base N qual scope f cd A outer s H E).ex := fun b z => absurd (show b ∈ ([] : List Addr) from z) (by simp)
  refine ⟨⟨e0.mod, S.kind, rfl, rfl, Nat.le_refl _, fun y z c h1 h2 => ?_, fun y hy => ?_, fun y c _ h => ?_, fun _ => hd, Around.frames_deeper e0.frames, .inr ⟨rfl, rfl⟩, fun b z => absurd z (noA b), e0.bs, e0.bsz, fun b _ _ => noA b, fun b z => absurd z (noA b), e0.funs, e0.frf⟩,
    rfl, e0.bare, Un.kept hk, ⟨_, x.toInCall.ns, fun i y v h1 h2 h3 => ?_⟩, fun y c h => ⟨_, x.cell y c h⟩, e0.hok.fresh (Nat.le_refl _), fun y c h => ?_, fun p hp => absurd (show p ∈ ([] : List (Addr × Obj)) from hp) (by simp), e0.hok.kept hk, ?_⟩
  · exact name_of_addr x.apart (PySem.mem_of_lookup h1) (PySem.mem_of_lookup h2)
  · have hy : scope.names.lookup y = some .cell ∨ scope.names.lookup y = some .free := hy
    rcases hy with hy | hy
    · exact cell_has hy
    · exact absurd rfl (S.nofree _ (PySem.mem_of_lookup hy))
  · exact Nat.le_of_lt (x.above y c (PySem.mem_of_lookup h))
  · have hi : i < vs.length := by
      unfold start at h2
      by_cases hi : i < vs.length
      · exact hi
      · rw [List.getElem?_append_right (by simpa using hi)] at h2
        rw [List.getElem?_replicate] at h2
        split at h2 <;> cases h2
    have ha : vs[i]? = some v := by
      unfold start at h2
      rw [List.getElem?_append_left (by simpa using hi), List.getElem?_map] at h2
      cases e : vs[i]? with
      | none => rw [e] at h2; cases h2
      | some a => rw [e] at h2; cases h2; rfl
    obtain ⟨u, hu, rv⟩ := r.get ha
    have hp : ps[i]? = some y := by
      rw [← S.pre, List.getElem?_take_of_lt (by omega)]; exact h1
    have ndP : ps.Nodup := by rw [← S.pre]; exact S.nd.sublist (List.take_sublist _ _)
    refine ⟨u, rv, ?_⟩
    rcases S.par y (List.mem_of_getElem? hp) with k | k
    · exact .inl ⟨k, bindL_get ndP hp hu k⟩
    · obtain ⟨c, e⟩ := cell_has (n := s.heap.objs.size + 1) k
      refine .inr ⟨.inl k, c, e, ?_⟩
      have q := x.cell y c e
      rw [bindC_get ndP hp hu (by show scope.names.lookup y ≠ _; rw [k]; decide)] at q
      exact q
  · exact e0.hok.fresh (Nat.le_of_lt (x.above y c (PySem.mem_of_lookup h)))
  · unfold start
    show _ = N.length
    rw [List.length_append, List.length_map, List.length_replicate]
    omega

/-- THE RULE: a def (or a method) of the text, by its body. The body's reading t is chosen for each entry; it is run at the parameters' values -/
theorem fn_of {CX : CXT} {P : Program} {w : World} {K : PySem.W.Frag} {mg : Str → Option Value} {base : Heap} {k : Nat} {f : Addr} {name qual : Str} {params : Arguments} {body : List Stmt} {scope : Scope} {dV kV doc pm cdv ct oc : Value} {an od : Option Addr}
    {osl : Array (Option Value)} {N ps : List Str} {sp : Sp} (lk : K.lookup f = some ⟨oc, od, .func (PySem.W.fnOf name qual params body scope dV kV doc pm an cdv ct), osl⟩) (hcd : PySem.W.codeIn K cdv qual = true) (S : FnScope N ps scope)
    (len : ∀ vs H Q E, sp vs H Q E → vs.length = ps.length)
    (hbody : ∀ (A : Around) (outer : List Env) (s : Shared) (H : Hp) (vs : List V) (Q : VK) (E : XK), Room k (A.deeper (envOfC qual scope s.heap.objs.size f cdv)) → sp vs H Q E →
      ∃ t, PSs (cxOf CX P w K mg base N qual scope f cdv A outer s H E) body t ∧ t { nx := fun _ H' => Q .non H', rt := Q } (start N vs) H) :
    FnOk P w K mg base CX (k + 1) f (PySem.W.fnOf name qual params body scope dV kV doc pm an cdv ct) ps sp := by
  refine ⟨len, fun A outer s H args us vs Q E hr e0 hb r hsp => ?_⟩
  have hl := len _ _ _ _ hsp
  have KX : K.In s.heap := e0.mod.kin.keeps fun b o e => (e0.bs b o e).1
  have lim : s.heap.NoLimit := e0.mod.nolimit.keeps fun b o e => (e0.bs b o e).1
  have hkind : ∀ y ∈ ps.zip us, scope.names.lookup y.1 = some .local ∨ (scope.names.lookup y.1 = some .cell ∧ ((cellsFrom (s.heap.objs.size + 1) scope.names []).lookup y.1).isSome = true) := fun ⟨n, v⟩ hy => by
    rcases S.par n (List.of_mem_zip hy).1 with q | q
    · exact .inl q
    · exact .inr ⟨q, PySem.W.cellsFrom_some _ _ _ (.inl q)⟩
  refine codeAny_call_function hr.depth (KX _ _ lk) rfl S.co S.gen rfl (PySem.W.codeRec_of KX hcd) (hb _ _ _ _ ?_)
  refine wpAny_newFunctionEnv_cells S.kind hkind fun env he s1 x => ?_
  subst he
  refine ⟨lim.keeps x.toInCall.keep, codeAny_func ?_⟩
  obtain ⟨t, ht, hq⟩ := hbody A outer s H vs Q E (hr.deeper _) hsp
  have I : Inv (cxOf CX P w K mg base N qual scope f cdv A outer s H E) [] (start N vs) H s1 := inv_start S hr.hd e0 hl r x
  refine wpAny_mono (ht [] s1 (start N vs) H _ I hq) (fun fl s' hs => ?_) fun e s' hs => hs
  have fin : ∀ {σ' : St} {H' : Hp} {v : V} {u : Value}, Inv (cxOf CX P w K mg base N qual scope f cdv A outer s H E) [] σ' H' s' → RelV v u → Q v H' → CE outer P w H s Q u s' :=
    fun {σ' H' v u} J rv q => ⟨v, H', J.os, J.bare, J.base, J.hok, rv, q⟩
  cases fl with
  | ret u =>
    obtain ⟨v, σ', H', J, rv, q⟩ := hs
    exact fin J rv q
  | next =>
    obtain ⟨σ', H', J, q⟩ := hs
    exact fin (v := V.non) (u := Value.none) J rfl q
  | brk =>
    obtain ⟨_, _, _, q⟩ := hs
    exact False.elim q
  | cont =>
    obtain ⟨_, _, _, q⟩ := hs
    exact False.elim q
end L2

namespace L2
open PySem PySem.Spec PyProof.Rows
section
variable {X : Cx} {x : Str} {p pos : Pos} {e : Expr} {es : List Expr} {t : TA} {id T : String} {r : List V → Hp → VK → Prop}

noncomputable def tCB (r : List V → Hp → VK → Prop) (t : TA) : TE := fun σ H Q => t σ H fun vs H1 => r vs H1 Q
/-- f(e, ..), f a built-in function -/
theorem pe_callB (hc : CallR X (.builtin id) r) (hg : Gl X x) (hm : X.mg x = none) (hv : bootBuiltins x = some (.builtin id)) (ha : PA X (e :: es) t) (hn : x ≠ "__name__" := by decide) (hdb : (x == ("__debug__" : Str)) = false := by decide)
    (he : starEach (e :: es) X.env = (false, eval e X.env) :: starEach es X.env := by rfl) (hpl : (backTo pos (starEach es X.env)).any (·.1) = false := by rfl) : PE X (.Call (.Name x p) (e :: es) [] pos) (tCB r t) := by
  intro pins s σ H Q I h
  refine wpAny_Call_Name_kw (ld_blt I hg hm hv ?_ hn hdb)
  exact PyProof.Rows.callWith_builtin1 (thn (ha pos pins s σ H _ I h) fun us s1 ⟨vs, H1, I1, r1, q1⟩ => hc pins s1 σ H1 vs us Q I1 r1 q1) he hpl
/-- T(e, ..), T a built-in type -/
theorem pe_callTy (hc : CallR X (.type T) r) (hg : Gl X x) (hm : X.mg x = none) (hv : bootBuiltins x = some (.type T)) (ha : PA X (e :: es) t) (hn : x ≠ "__name__" := by decide) (hdb : (x == ("__debug__" : Str)) = false := by decide)
    (he : starEach (e :: es) X.env = (false, eval e X.env) :: starEach es X.env := by rfl) (hpl : (backTo pos (starEach es X.env)).any (·.1) = false := by rfl) : PE X (.Call (.Name x p) (e :: es) [] pos) (tCB r t) := by
  intro pins s σ H Q I h
  refine wpAny_Call_Name_kw (ld_blt I hg hm hv ?_ hn hdb)
  exact PyProof.Rows.callWith_type1 (thn (ha pos pins s σ H _ I h) fun us s1 ⟨vs, H1, I1, r1, q1⟩ => hc pins s1 σ H1 vs us Q I1 r1 q1) he hpl
end
end L2

namespace HT
open PySem PyProof.Rows

section
open PySem.SeqAt
open PySem.AutoSeq1 (wpAny_loadPart')
open PySem.MeetsSeq PySem.MeetsSeq2 PySem.MeetsSeq3

end

section
variable {prog : Program} {w : World} {A : Around} {E : Value → Shared → Prop} {s : Shared}

/-! ### t[a:b], not the whole -/
/-- a slice's bound as a place among n (d where it is left out) -/
noncomputable def sIx (n d : Nat) : Option Int → Nat
  | none => d
  | some v => if v < 0 then (v + (n : Int)).toNat else min v.toNat n
theorem sIx_none (n d : Nat) : sIx n d none = d := rfl
theorem sIx_nat (n d k : Nat) : sIx n d (some (k : Int)) = min k n := by
  show (if (k : Int) < 0 then ((k : Int) + (n : Int)).toNat else min (k : Int).toNat n) = min k n
  rw [if_neg (by omega), Int.toNat_natCast]
end
end HT

namespace L2
open PySem PySem.Spec PyProof.Rows

/-! ### the parts of a slice -/
noncomputable abbrev TO := St → Hp → (Option Int → Hp → Prop) → Prop
/-- a slice's part (left out, or an int) -/
noncomputable def PO (X : Cx) (e : Option Expr) (t : TO) : Prop :=
  ∀ (pins : List (Addr × Obj)) (s : Shared) (σ : St) (H : Hp) (Q : Option Int → Hp → Prop), Inv X pins σ H s → t σ H Q →
    wpAny (model X.prog X.w) X.A (evalPart e X.env) (fun u s' => ∃ o H', Inv X pins σ H' s' ∧ IsPart u o ∧ Q o H') X.xe s
noncomputable def tNoPart : TO := fun _ H Q => Q none H
noncomputable def tPart (t : TE) : TO := fun σ H Q => t σ H fun x H1 => ∃ i, x = .int i ∧ Q (some i) H1

section
variable {X : Cx} {e : Expr} {te : TE} {lo hi : Option Expr} {tl th : TO} {pos p2 : Pos}

theorem po_none : PO X none tNoPart := by
  intro pins s σ H Q I h
  rw [evalPart_none]
  exact wpAny_pure ⟨none, H, I, .none, h⟩
theorem po_some (h : PE X e te) : PO X (some e) (tPart te) := by
  intro pins s σ H Q I hw
  rw [evalPart_some]
  refine thn (h pins s σ H _ I hw) fun u s1 ⟨x, H1, I1, r1, q1⟩ => ?_
  obtain ⟨i, rfl, q⟩ := q1
  obtain ⟨t, rfl⟩ := r1
  exact ⟨some i, H1, I1, .int i t, q⟩

/-- what a slice of a value is, by values: the slice object stands at sl -/
noncomputable def SlR (X : Cx) (r : V → Option Int → Option Int → Hp → VK → Prop) : Prop :=
  ∀ (pins : List (Addr × Obj)) (s : Shared) (σ : St) (H : Hp) (x : V) (v vl vu : Value) (lo hi : Option Int) (sl : Addr) (Q : VK), Inv X pins σ H s → RelV x v → s.heap.IsSliceOf sl vl vu .none → IsPart vl lo → IsPart vu hi → r x lo hi H Q →
    ∃ T id, typeLookup (.type T) "__getitem__" = pure (some (.builtin id)) ∧ s.TypeIs v T ∧ wpAny (model X.prog X.w) X.A (getItem v (.ref sl)) (EP X pins σ Q) X.xe s
noncomputable def tSl (r : V → Option Int → Option Int → Hp → VK → Prop) (te : TE) (tl th : TO) : TE := fun σ H Q => te σ H fun x H1 => tl σ H1 fun l H2 => th σ H2 fun u H3 => r x l u H3 Q
/-- a[lo:hi], any a -/
theorem pe_slice {r : V → Option Int → Option Int → Hp → VK → Prop} (hr : SlR X r) (he : PE X e te) (hl : PO X lo tl) (hu : PO X hi th) : PE X (.Subscript e (.Slice lo hi none p2) pos) (tSl r te tl th) := by
  intro pins s σ H Q I h
  refine Subscript_ (thn (he pins s σ H _ I h) fun v s1 ⟨x, H1, I1, r1, q1⟩ => ?_)
  refine wpAny_Slice (thn (hl pins s1 σ H1 _ I1 q1) fun vl s2 ⟨l, H2, I2, pl, q2⟩ => thn (hu pins s2 σ H2 _ I2 q2) fun vu s3 ⟨u, H3, I3, pu, q3⟩ => ?_)
  rw [evalPart_none]
  refine wpAny_pure ?_
  have I4 : Inv X pins σ H3 { s3 with heap := s3.heap.push { cls := .type "slice", data := .fields #[vl, vu, .none] } } := I3.kept (t' := s3.toks) fun b ob q => Heap.get?_push_of_some _ q
  obtain ⟨T, id, hT, ht, hg⟩ := hr pins { s3 with heap := s3.heap.push { cls := .type "slice", data := .fields #[vl, vu, .none] } } σ H3 x v vl vu l u s3.heap.objs.size Q I4 r1 (Heap.IsSliceOf.new ..) pl pu q3
  show wpAny (model X.prog X.w) X.A (subscriptTail e (.Slice lo hi none p2) v (.ref s3.heap.objs.size)) (EP X pins σ Q) X.xe { s3 with heap := s3.heap.push { cls := .type "slice", data := .fields #[vl, vu, .none] } }
  exact tail_any (ops := [.ref s3.heap.objs.size, v]) ht hT hg (by with_unfolding_all rfl)

/-- the items of xs[lo:hi] -/
noncomputable def cutV (xs : List V) (lo hi : Option Int) : List V := (xs.drop (HT.sIx xs.length 0 lo)).take (HT.sIx xs.length xs.length hi - HT.sIx xs.length 0 lo)
theorem cutV_length (xs : List V) (lo hi : Option Int) : (cutV xs lo hi).length ≤ xs.length := by
  unfold cutV
  rw [List.length_take, List.length_drop]
  omega
/-! ### t < u, t + u -/
end
end L2

namespace L2
open PySem PySem.Spec PyProof.Rows

/-! ### places -/
/-- the place that an index of any sign means -/
noncomputable def ixN (n : Nat) (i : Int) : Option Nat := if 0 ≤ i then (if i < n then some i.toNat else none) else if -(n : Int) ≤ i then some (i + n).toNat else none
noncomputable def atI {α : Type} (xs : List α) (i : Int) : Option α := (ixN xs.length i).bind fun j => xs[j]?
theorem ixN_seq {n : Nat} {i : Int} {j : Nat} (h : ixN n i = some j) : seqIndex? i n = some j ∧ j < n ∧ -(n : Int) ≤ i ∧ i < n := by
  unfold ixN at h
  by_cases h0 : 0 ≤ i
  · rw [if_pos h0] at h
    by_cases h1 : i < n
    · rw [if_pos h1] at h
      have e : i.toNat = j := Option.some.inj h
      exact ⟨by rw [seqIndex_of h0 h1, e], by omega, by omega, h1⟩
    · rw [if_neg h1] at h; cases h
  · rw [if_neg h0] at h
    by_cases h1 : -(n : Int) ≤ i
    · rw [if_pos h1] at h
      have e : (i + n).toNat = j := Option.some.inj h
      exact ⟨by rw [seqIndex_neg (by omega) h1, e], by omega, h1, by omega⟩
    · rw [if_neg h1] at h; cases h
theorem atI_get {α : Type} {xs : List α} {i : Int} {v : α} (h : atI xs i = some v) : ∃ j, seqIndex? i xs.length = some j ∧ xs[j]? = some v ∧ j < xs.length ∧ -(xs.length : Int) ≤ i ∧ i < xs.length := by
  unfold atI at h
  cases e : ixN xs.length i with
  | none => rw [e] at h; cases h
  | some j =>
    rw [e] at h
    obtain ⟨h1, h2, h3, h4⟩ := ixN_seq e
    exact ⟨j, h1, h, h2, h3, h4⟩
theorem atI_nat {α : Type} {xs : List α} {j : Nat} {v : α} (h : xs[j]? = some v) : atI xs (j : Int) = some v := by
  have hj : j < xs.length := (List.getElem?_eq_some_iff.mp h).1
  have e : ixN xs.length (j : Int) = some j := by
    unfold ixN
    rw [if_pos (by omega), if_pos (by omega)]; simp
  unfold atI; rw [e]; exact h
theorem atI_last {α : Type} (xs : List α) (v : α) : atI (xs ++ [v]) (-1) = some v := by
  have hl : (xs ++ [v]).length = xs.length + 1 := by simp
  have e : ixN (xs ++ [v]).length (-1) = some xs.length := by
    unfold ixN
    rw [hl, if_neg (by decide), if_pos (by omega)]
    congr 1
    omega
  unfold atI
  rw [e]
  show (xs ++ [v])[xs.length]? = some v
  simp

/-! ### what may be subscripted -/
/-- what stands as an index of a plain subscript -/
noncomputable def PlainIx (b : Expr) : Prop := ∀ o i, subscripted b false o i = operate [o, i] (getItem o i)
/-- a subscript by values -/
noncomputable def IxR (X : Cx) (r : R2) : Prop :=
  ∀ (value slice : Expr) (pins : List (Addr × Obj)) (s : Shared) (σ : St) (H : Hp) (x y : V) (v u : Value) (Q : VK), Inv X pins σ H s → RelV x v → RelV y u → r x y H Q →
    subscripted slice false v u = operate [v, u] (getItem v u) → wpAny (model X.prog X.w) X.A (subscriptTail value slice v u) (EP X pins σ Q) X.xe s
/-- a call of a builtin's method by values: the receiver, the arguments -/
noncomputable def MtR (X : Cx) (id : String) (r : V → List V → Hp → VK → Prop) : Prop :=
  ∀ (pins : List (Addr × Obj)) (s : Shared) (σ : St) (H : Hp) (x : V) (xs : List V) (v : Value) (us : List Value) (Q : VK), Inv X pins σ H s → RelV x v → Vals xs us → r x xs H Q →
    wpAny (model X.prog X.w) X.A (call (.builtin id) (v :: us)) (EP X pins σ Q) X.xe s
section
variable {X : Cx} {a b : Expr} {ta tb : TE} {pos : Pos}
/-- a[b] -/
theorem pe_ix {r : R2} (hr : IxR X r) (ha : PE X a ta) (hb : PE X b tb) (hs : PlainIx b) : PE X (.Subscript a b pos) (tOp r ta tb) := by
  intro pins s σ H Q I h
  exact Subscript_ (binT ha hb I h fun v u s2 x y H2 I2 rx ry q => hr a b pins s2 σ H2 x y v u Q I2 rx ry q (hs _ _))

noncomputable def rIxL (K : PySem.W.Frag) : R2 := fun x y H Q => ∃ p xs i v, x = .ref p ∧ y = .int i ∧ SqL K H p xs ∧ atI xs i = some v ∧ Q v H
noncomputable def rIxT (K : PySem.W.Frag) : R2 := fun x y H Q => ∃ p xs i v, x = .ref p ∧ y = .int i ∧ SqT K H p xs ∧ atI xs i = some v ∧ Q v H
theorem ix_list : IxR X (rIxL X.K) := by
  intro value slice pins s σ H x y v u Q I rx ry h hs
  obtain ⟨p, xs, i, z, rfl, rfl, hq, he, q⟩ := h
  cases rx
  obtain ⟨t, rfl⟩ := ry
  obtain ⟨its, r, pl, hz⟩ := I.list hq
  obtain ⟨j, h1, h2, h3, h4, h5⟩ := atI_get he
  obtain ⟨w, ew, rw'⟩ := r.get h2
  have hl := r.length
  have hn := line63
  have fin : EP X pins σ Q w s := ⟨z, H, I, rw', q⟩
  by_cases h0 : 0 ≤ i
  · have hj : i.toNat = j := by
      rw [seqIndex_of h0 h5] at h1
      exact Option.some.inj h1
    exact item_listR pl.isList h0 (by omega) (by rw [hj]; simpa using ew) fin hs
  · have hj : (i + (its.toArray.size : Int)).toNat = j := by
      rw [seqIndex_neg (by omega) h4] at h1
      rw [List.size_toArray, ← hl]
      exact Option.some.inj h1
    exact subscriptTail_builtinR (x := w) pl.isList.typeIs slot_list_getitem.lookup
      (wpAny_getItem_list_neg (Q := fun r s' => r = w ∧ EP X pins σ Q r s') pl.isList (by omega) (by rw [List.size_toArray] <;> omega) (by omega) (by rw [hj]; simpa using ew) ⟨rfl, fin⟩) hs
theorem ix_tup : IxR X (rIxT X.K) := by
  intro value slice pins s σ H x y v u Q I rx ry h hs
  obtain ⟨p, xs, i, z, rfl, rfl, hq, he, q⟩ := h
  cases rx
  obtain ⟨t, rfl⟩ := ry
  obtain ⟨its, r, pl, hz⟩ := I.tuple hq
  obtain ⟨j, h1, h2, h3, h4, h5⟩ := atI_get he
  obtain ⟨w, ew, rw'⟩ := r.get h2
  have hl := r.length
  have hn := line63
  have fin : EP X pins σ Q w s := ⟨z, H, I, rw', q⟩
  exact subscriptTail_builtinR (x := w) pl.typeIs slot_tuple_getitem.lookup
    (getItem_tuple (j := j) (Q := fun r s' => r = w ∧ EP X pins σ Q r s') pl (by omega) (by omega) (by rw [List.size_toArray, ← hl]; exact h1) (by simpa using ew) ⟨rfl, fin⟩) hs
/-! ### xs[i] = v, any sign -/
/-- the list's object behind a store -/
theorem Inv.lst {pins : List (Addr × Obj)} {σ : St} {H : Hp} {s : Shared} {p : Addr} {xs : List V} (I : Inv X pins σ H s) (h : H p = some (.lst xs)) :
    ∃ (its : List Value) (n : Nat), Vals xs its ∧ s.heap.get? p = some { cls := .type "list", data := .seq its.toArray n } ∧ xs.length ≤ sizeLine := by
  obtain ⟨z, its, n, r, e⟩ := I.hok p _ h
  exact ⟨its, n, r, e, z⟩
/-! ### slices -/
theorem slice_bounds (lo hi : Option Int) (n : Nat) : (sliceBounds lo hi none n).1 = ((HT.sIx n 0 lo : Nat) : Int) ∧ (sliceBounds lo hi none n).2.1 = ((HT.sIx n n hi : Nat) : Int) ∧ (sliceBounds lo hi none n).2.2 = 1 := by
  refine ⟨?_, ?_, rfl⟩
  · cases lo with
    | none => simp [sliceBounds, HT.sIx]
    | some i =>
      simp only [sliceBounds, HT.sIx, Option.getD_none, show (1 : Int) > 0 by decide, if_true]
      by_cases h : i < 0
      · simp only [h, if_true] <;> omega
      · simp only [h, if_false] <;> omega
  · cases hi with
    | none => simp [sliceBounds, HT.sIx]
    | some i =>
      simp only [sliceBounds, HT.sIx, Option.getD_none, show (1 : Int) > 0 by decide, if_true]
      by_cases h : i < 0
      · simp only [h, if_true] <;> omega
      · simp only [h, if_false] <;> omega
theorem slicePick_cut (its : List Value) (lo hi : Option Int) : slicePick its.toArray lo hi none = ((its.drop (HT.sIx its.length 0 lo)).take (HT.sIx its.length its.length hi - HT.sIx its.length 0 lo)).toArray := by
  obtain ⟨h1, h2, h3⟩ := slice_bounds lo hi its.toArray.size
  unfold slicePick
  rw [h1, h2, h3]
  simp only [sliceRange_one, pick_run, List.size_toArray] <;> rfl
/-- xs[lo:hi] of a list: a new list -/
noncomputable def rSlL (K : PySem.W.Frag) : V → Option Int → Option Int → Hp → VK → Prop := fun x lo hi H Q => ∃ a xs, x = .ref a ∧ SqL K H a xs ∧ ∀ p, H p = none → Q (.ref p) (upd H p (.lst (cutV xs lo hi)))
theorem sl_list : SlR X (rSlL X.K) := by
  intro pins s σ H x v vl vu lo hi sl Q I rx hs pl pu h
  obtain ⟨a, xs, rfl, hx, q⟩ := h
  cases rx
  obtain ⟨its, r, ht, hz⟩ := I.list hx
  have hlen := r.length
  refine ⟨"list", _, slot_list_getitem.lookup, ht.isList.typeIs, ?_⟩
  refine wpAny_getItem_list_slice ht.isList hs pl pu .none (by simp) ?_ (by rw [List.size_toArray] <;> omega)
  rw [slicePick_cut, ← hlen]
  refine ⟨.ref s.heap.objs.size, _, I.laid (t' := s.toks) (o := .lst (cutV xs lo hi)) (fun b ob q => Heap.get?_push_of_some _ q) (Nat.le_refl _) ?_, rfl, q _ (I.hok.fresh (Nat.le_refl _))⟩
  exact ⟨Nat.le_trans (cutV_length xs lo hi) hz, _, 0, (r.drop (HT.sIx xs.length 0 lo)).take (HT.sIx xs.length xs.length hi - HT.sIx xs.length 0 lo), Heap.get?_push_size _ rfl⟩

/-! ### in, not in: flat items -/
/-! ### len, list(x), tuple(x) of any list or tuple that is read -/
theorem call_len_seq : CallR X (.builtin "len") (fun xs H Q => ∃ p ys, xs = [.ref p] ∧ (SqL X.K H p ys ∨ SqT X.K H p ys) ∧ Q (.int ys.length) H) := by
  intro pins s σ H xs us Q I r h
  obtain ⟨p, ys, rfl, hq, q⟩ := h
  obtain ⟨u, rfl, rx⟩ := vals1 r
  cases rx
  have hn := line63
  rcases hq with hq | hq
  · obtain ⟨its, r', pl, hz⟩ := I.list hq
    have hlen := r'.length
    exact Calls.call_len_list pl.isList (by simp only [List.size_toArray] <;> omega) ⟨.int ys.length, H, I.tok _, ⟨s.toks + 1, by rw [List.size_toArray, hlen]⟩, q⟩
  · obtain ⟨its, r', pl, hz⟩ := I.tuple hq
    have hlen := r'.length
    exact len_tuple pl (by simp only [List.size_toArray] <;> omega) ⟨.int ys.length, H, I.tok _, ⟨s.toks + 1, by rw [List.size_toArray, hlen]⟩, q⟩
theorem call_list_of : CallR X (.type "list") (fun xs H Q => ∃ p ys, xs = [.ref p] ∧ (SqL X.K H p ys ∨ SqT X.K H p ys) ∧ ∀ l, H l = none → Q (.ref l) (upd H l (.lst ys))) := by
  intro pins s σ H xs us Q I r h
  obtain ⟨p, ys, rfl, hq, q⟩ := h
  obtain ⟨u, rfl, rx⟩ := vals1 r
  cases rx
  have fin : ∀ (its : List Value), Vals ys its → ys.length ≤ sizeLine → ∀ (h' : Heap) (c' : Nat), (∀ b o', s.heap.get? b = some o' → h'.get? b = some o') →
      h'.get? s.heap.objs.size = some { cls := .type "list", dict := none, data := .seq its.toArray c', slots := #[] } → EP X pins σ Q (.ref s.heap.objs.size) { s with heap := h' } := fun its r' hz h' c' kp e =>
    ⟨.ref s.heap.objs.size, _, I.laid (t' := s.toks) kp (Nat.le_refl _) (show ObjOk X.prog X.w _ h' _ (.lst ys) from ⟨hz, its, c', r', e⟩), rfl, q _ (I.hok.fresh (Nat.le_refl _))⟩
  rcases hq with hq | hq
  · obtain ⟨its, r', pl, hz⟩ := I.list hq
    have hlen := r'.length
    obtain ⟨o, ho, hc, n, hd⟩ := pl.isList
    exact call_list_seq p (.inl rfl) ho hc hd (fun h' c' kp e => fin its r' hz h' c' kp e) (by simp only [List.size_toArray] <;> omega)
  · obtain ⟨its, r', pl, hz⟩ := I.tuple hq
    have hlen := r'.length
    obtain ⟨o, ho, hc, n, hd⟩ := pl
    exact call_list_seq p (.inr rfl) ho hc hd (fun h' c' kp e => fin its r' hz h' c' kp e) (by simp only [List.size_toArray] <;> omega)
/-! ### the call of a builtin's method: o.m(..) -/
/-- the value is of that builtin type -/
noncomputable def tyV (K : PySem.W.Frag) (T : String) (x : V) (H : Hp) : Prop := match x with
  | .str _ => T = "str"
  | .int _ => T = "int"
  | .ref p => (T = "list" ∧ ∃ xs, SqL K H p xs) ∨ (T = "tuple" ∧ ∃ o, K.lookup p = some o ∧ o.cls = .type "tuple" ∧ o.dict = none) ∨
      (T = "dict" ∧ ((∃ kvs, H p = some (.dK kvs)) ∨ ∃ kvs, H p = some (.dT kvs))) ∨ (T = "set" ∧ ∃ S n, H p = some (.set S n))
  | _ => False
theorem tyV_is {pins : List (Addr × Obj)} {σ : St} {H : Hp} {s : Shared} {T : String} {x : V} {v : Value} (I : Inv X pins σ H s) (r : RelV x v) (ty : tyV X.K T x H) :
    s.TypeIs v T ∧ ∀ a, v = .ref a → ∃ ob, s.heap.get? a = some ob ∧ ob.dict = none := by
  cases x with
  | str z =>
    obtain ⟨t, rfl⟩ := r
    cases (show T = "str" from ty)
    exact ⟨typeIs_str s z t, fun _ e => nomatch e⟩
  | int i =>
    obtain ⟨t, rfl⟩ := r
    cases (show T = "int" from ty)
    exact ⟨typeIs_int s i t, fun _ e => nomatch e⟩
  | ref p =>
    cases r
    rcases ty with ⟨rfl, xs, hq⟩ | ⟨rfl, o, hk, hc, hd⟩ | ⟨rfl, hk⟩ | ⟨rfl, S, n, hk⟩
    · obtain ⟨its, _, pl, _⟩ := I.list hq
      refine ⟨pl.isList.typeIs, fun a e => ?_⟩
      cases e
      obtain ⟨o, n, e, c, hd, _⟩ := pl
      exact ⟨o, e, hd⟩
    · refine ⟨⟨o, I.kIn p o hk, hc⟩, fun a e => ?_⟩
      cases e
      exact ⟨o, I.kIn _ o hk, hd⟩
    · have z : ∃ o, s.heap.get? p = some o ∧ o.ExactDict := by
        rcases hk with ⟨kvs, hk⟩ | ⟨kvs, hk⟩
        · obtain ⟨_, _, _, _, o, _, _, e, ex, _⟩ := I.hok p _ hk
          exact ⟨o, e, ex⟩
        · obtain ⟨_, _, _, _, o, _, _, e, ex, _⟩ := I.hok p _ hk
          exact ⟨o, e, ex⟩
      obtain ⟨o, e, ex⟩ := z
      refine ⟨⟨o, e, ex.1⟩, fun a e2 => ?_⟩
      cases e2
      exact ⟨o, e, ex.2.1⟩
    · obtain ⟨o, _, _, _, e, ex, _⟩ := I.hok p _ hk
      refine ⟨⟨o, e, ex.1⟩, fun a e2 => ?_⟩
      cases e2
      exact ⟨o, e, ex.2.1⟩
  | _ => exact False.elim ty
noncomputable def tBM0 (K : PySem.W.Frag) (T : String) (r : V → List V → Hp → VK → Prop) (to : TE) : TE := fun σ H Q => to σ H fun x H1 => tyV K T x H1 ∧ r x [] H1 Q
noncomputable def tBM (K : PySem.W.Frag) (T : String) (r : V → List V → Hp → VK → Prop) (to : TE) (t : TA) : TE := fun σ H Q => to σ H fun x H1 => tyV K T x H1 ∧ t σ H1 fun xs H2 => r x xs H2 Q
variable {o e : Expr} {es : List Expr} {to : TE} {t : TA} {name : Str} {apos cpos : Pos} {T id : String} {r : V → List V → Hp → VK → Prop}
theorem pe_bm0 (pa : PlainAttrs T) (slot : Slot T name id) (hty : typeOf (.builtin id) = pure (.type "method_descriptor")) (hm : MtR X id r) (ho : PE X o to)
    (hbase : attributeBase o name X.env (eval o X.env) = eval o X.env := by rfl) (hline : (apos.endLine == cpos.line) = true := by rfl) : PE X (.Call (.Attribute o name apos) [] [] cpos) (tBM0 X.K T r to) := by
  intro pins s σ H Q I h
  refine wpAny_Call_method0_late hbase hline (thn (ho pins s σ H _ I h) fun v s1 ⟨x, H1, I1, r1, ty, q1⟩ => ?_)
  obtain ⟨h1, h2⟩ := tyV_is I1 r1 ty
  exact ⟨T, id, pa, slot, hty, h1, h2, Calls.callWith_builtin rfl (PySem.evalArgs_none (hm pins s1 σ H1 x [] v [] Q I1 r1 .nil q1))⟩
theorem pe_bm (pa : PlainAttrs T) (slot : Slot T name id) (hty : typeOf (.builtin id) = pure (.type "method_descriptor")) (hm : MtR X id r) (ho : PE X o to) (ha : PA X (e :: es) t)
    (hbase : attributeBase o name X.env (eval o X.env) = eval o X.env := by rfl)
    (hfew : ((backTo cpos (starEach (e :: es) X.env)).all (fun x => !x.1) && (backToKw cpos (keywordEach [] X.env)).all (fun x => x.1.isSome)
      && decide ((e :: es).length + ([] : List Keyword).length + (if ([] : List Keyword).isEmpty then 0 else 1) < 30)) = true := by rfl)
    (hline : (apos.endLine == cpos.line) = true := by rfl) (hs : starEach (e :: es) X.env = (false, eval e X.env) :: starEach es X.env := by rfl) (hplain : (backTo cpos (starEach es X.env)).any (·.1) = false := by rfl) :
    PE X (.Call (.Attribute o name apos) (e :: es) [] cpos) (tBM X.K T r to t) := by
  intro pins s σ H Q I h
  refine wpAny_Call_method_late hbase hfew hline rfl (thn (ho pins s σ H _ I h) fun v s1 ⟨x, H1, I1, r1, ty, q1⟩ => ?_)
  obtain ⟨h1, h2⟩ := tyV_is I1 r1 ty
  refine ⟨T, id, pa, slot, hty, h1, h2, ?_⟩
  have hA := ha cpos pins s1 σ H1 _ I1 q1
  rw [hs] at hA ⊢
  refine Calls.callWith_builtin (by show (false || (backTo cpos (starEach es X.env)).any (·.1)) = false; rw [hplain] <;> rfl) (Calls.evalArgs_plain ?_)
  exact thn hA fun us s2 ⟨vs, H2, I2, r2, q2⟩ => hm pins s2 σ H2 x vs v us Q I2 r1 r2 q2
/- xs.append(e), list.index on a module's tuple .. are MtR facts of 06m -/
end
end L2

namespace L2
open PySem PySem.Spec PyProof.Rows

noncomputable def MtM (X : Cx) (id : String) (r : V → List V → Hp → VK → Prop) : Prop :=
  ∀ (pins : List (Addr × Obj)) (s : Shared) (σ : St) (H : Hp) (x : V) (xs : List V) (v : Value) (us : List Value) (Q : VK), Inv X pins σ H s → RelV x v → Vals xs us → r x xs H Q →
    wpAny (model X.prog X.w) X.A (call (.builtin id) (v :: us)) (EP X pins σ Q) X.xe s

/-! ### lists of values -/
theorem Vals.one : ∀ {x : V} {us : List Value}, Vals [x] us → ∃ u, us = [u] ∧ RelV x u
  | _, _, .cons r .nil => ⟨_, rfl, r⟩
theorem Vals.zero : ∀ {us : List Value}, Vals [] us → us = []
  | _, .nil => rfl
section
variable {X : Cx} {pins : List (Addr × Obj)} {σ : St} {H : Hp} {s : Shared} {l b : Addr} {xs ys zs : List V}

/-! ### the two steps: a tracked list is rewritten, a new list is laid -/
theorem Inv.lset {its its' : List Value} {n : Nat} {f : Array Value → Array Value} {t' : Nat} (I : Inv X pins σ H s) (hH : H l = some (.lst xs))
    (e : s.heap.get? l = some { cls := .type "list", data := .seq its.toArray n }) (hf : f its.toArray = its'.toArray) (hv : Vals ys its') (hz : ys.length ≤ sizeLine) :
    Inv X pins σ (upd H l (.lst ys)) { s with heap := s.heap.update l (Obj.mapSeq f), toks := t' } := by
  have q := PySem.IsL.update e f
  rw [hf] at q
  refine I.write (x := l) (e := l) (by rw [hH]; exact trivial) (.inl rfl) (fun b' u hb hu => (Heap.get?_update_other s.heap (Obj.mapSeq f) (Ne.symm hb)).trans hu) ⟨_, q⟩ ?_
  exact ⟨hz, its', _, hv, q⟩
theorem Inv.lnew {its : List Value} {t' : Nat} (I : Inv X pins σ H s) (hv : Vals ys its) (hz : ys.length ≤ sizeLine) :
    Inv X pins σ (upd H s.heap.objs.size (.lst ys)) { s with heap := s.heap.push { cls := .type "list", data := .seq its.toArray }, toks := t' } :=
  I.laid (fun _ _ q => Heap.get?_push_of_some _ q) (Nat.le_refl _) ⟨hz, its, 0, hv, Heap.get?_push_size _ rfl⟩
theorem Inv.fresh (I : Inv X pins σ H s) : H s.heap.objs.size = none := I.hok.fresh (Nat.le_refl _)
theorem Inv.lstM (I : Inv X pins σ H s) (hH : H l = some (.lst xs)) : xs.length ≤ sizeLine ∧ ∃ (its : List Value) (n : Nat), Vals xs its ∧ xs.length = its.length ∧ s.heap.get? l = some { cls := .type "list", data := .seq its.toArray n } := by
  obtain ⟨z, its, n, r, e⟩ := I.hok l _ hH
  exact ⟨z, its, n, r, r.length, e⟩

end

section
variable {X : Cx}

/-! ### methods -/
noncomputable def rAppend : V → List V → Hp → VK → Prop := fun x vs H Q => ∃ l xs y, x = .ref l ∧ vs = [y] ∧ H l = some (.lst xs) ∧ xs.length < sizeLine ∧ Q .non (upd H l (.lst (xs ++ [y])))
theorem mt_append : MtM X "list.append" rAppend := by
  intro pins s σ H x vs v us Q I rx rv h
  obtain ⟨l, xs, y, rfl, rfl, hH, hz, q⟩ := h
  cases rx
  obtain ⟨u, rfl, ru⟩ := rv.one
  obtain ⟨z, its, n, r, hl, e⟩ := I.lstM hH
  refine call_meets F.slot_list_append ⟨_, e, rfl⟩ F.entry_list_append (F.args_list_append_2 _ _) (PySem.list_append l its.toArray n u (by rw [List.size_toArray]; omega)) ⟨e, ?_⟩
  refine ⟨.non, _, I.lset (its' := its ++ [u]) hH e (by simp) (r.append (.cons ru .nil)) ?_, rfl, q⟩
  rw [List.length_append, List.length_singleton]
  omega

noncomputable def rClear : V → List V → Hp → VK → Prop := fun x vs H Q => ∃ l xs, x = .ref l ∧ vs = [] ∧ H l = some (.lst xs) ∧ Q .non (upd H l (.lst []))
theorem mt_clear : MtM X "list.clear" rClear := by
  intro pins s σ H x vs v us Q I rx rv h
  obtain ⟨l, xs, rfl, rfl, hH, q⟩ := h
  cases rx
  have hus := rv.zero
  subst hus
  obtain ⟨z, its, n, r, hl, e⟩ := I.lstM hH
  refine call_meets F.slot_list_clear ⟨_, e, rfl⟩ F.entry_list_clear (F.args_list_clear_1 _) (AutoSeq1.list_clear_list_0 l its.toArray n (by rw [List.size_toArray]; omega)) ⟨e, ?_⟩
  exact ⟨.non, _, I.lset (its' := []) (ys := []) hH e rfl .nil (Nat.zero_le _), rfl, q⟩

/-! ### list + list, list += list, list * int -/
noncomputable def rCat : R2 := fun x y H Q => ∃ l b xs zs, x = .ref l ∧ y = .ref b ∧ H l = some (.lst xs) ∧ H b = some (.lst zs) ∧ xs.length + zs.length ≤ sizeLine ∧ ∀ p, H p = none → Q (.ref p) (upd H p (.lst (xs ++ zs)))
theorem op_cat : OpR X (binaryOp .Add) rCat := by
  intro pins s σ H x y v u Q I rx ry h
  obtain ⟨l, b, xs, zs, rfl, rfl, hH, hB, hz, q⟩ := h
  cases rx
  cases ry
  obtain ⟨z, its, n, r, hl, e⟩ := I.lstM hH
  obtain ⟨z2, its2, n2, r2, hl2, e2⟩ := I.lstM hB
  refine PySem.P.add_list e e2 ?_ (by rw [List.size_toArray, List.size_toArray]; omega)
  have ea : its.toArray ++ its2.toArray = (its ++ its2).toArray := by simp
  rw [ea]
  exact ⟨.ref _, _, I.lnew (t' := s.toks) (r.append r2) (by rw [List.length_append]; omega), rfl, q _ I.fresh⟩
/-! ### del xs[i] -/
end

/-! ### xs[a:b] = ys -/
section
variable {prog : Program} {w : World} {A : Around} {E : Value → Shared → Prop} {s : Shared}
set_option maxRecDepth 100000 in
end

section
variable {X : Cx}
end
end L2

namespace Att
open PySem PySem.W PySem.Calls PyProof.Rows

/-! ### the script -/
theorem ints_of_wellAll {P : Params} {h : Heap} : ∀ (ns : List Int) (vs : List Value), WellAll P h vs (ns.map WData.int) → IntsAre vs ns := by
  intro ns
  induction ns with
  | nil =>
    intro vs w
    rw [List.map_nil] at w
    cases w
    exact .nil
  | cons n ns ih =>
    intro vs w
    rw [List.map_cons] at w
    cases w with
    | cons a b =>
      cases a
      exact .cons _ _ (ih _ b)

theorem script_of {l : OpenLaw} {n : Nat} (hn : l.most = some n) {P : Params} {h : Heap} {args : List WData} {vals : List Value}
    (hpre : l.row.toRowW.claim.pre args = true) (hwl : WellAll P h vals args) :
    ∃ a vs ns, vals = [Value.ref a] ∧ args = [WData.list (ns.map WData.int)] ∧ h.get? a = some { cls := .type "list", data := .seq vs.toArray } ∧ IntsAre vs ns ∧ ns.length ≤ n := by
  have hsh : WShape.hasAll [] args [.list .int] = true := (pre_splitW hpre).1
  have hc : l.pre.holds [] { args := args } = true := (pre_splitW hpre).2
  obtain ⟨d, r, rfl, h1, h2⟩ := hasAllW_cons hsh
  obtain rfl := hasAllW_nil h2
  obtain ⟨xs, rfl, h3⟩ := hasW_list h1
  obtain ⟨ns, rfl⟩ := items_int h3
  have hlen : ns.length ≤ n := by
    unfold OpenLaw.pre at hc
    have h4 : (WTm.not (.lt (.lit (.int (n : Int))) (.len (.arg 0)))).holds [] { args := [.list (ns.map .int)] } = true := by
      have h4 := (holds_andW hc).1
      rw [hn] at h4
      exact h4
    have h5 := condW_of h4 (w_not (w_lt w_lit (w_len_list (w_arg rfl))))
    rw [List.length_map] at h5
    refine Nat.le_of_not_lt fun q => ?_
    have q' : (n : Int) < ((ns.length : Nat) : Int) := by omega
    first
      | (rw [decide_eq_true q'] at h5; exact absurd h5 (by decide))
      | (simp at h5; omega)
  cases hwl with
  | cons w1 w2 =>
    cases w2
    cases w1 with
    | list ho hall => exact ⟨_, _, ns, rfl, rfl, ho, ints_of_wellAll ns _ hall, hlen⟩

theorem post_true (l : OpenLaw) (args : List WData) : l.row.toRowW.claim.post args (.bool true) args = true :=
  postW_of (r := l.row.toRowW) (X := (true == true))
    (show WShape.has [] (.bool true) .bool = true by first | rfl | decide | simp [WShape.has, WShape.arms, WShape.armsAll])
    (show (WTm.eq .res (.lit (.bool true))).value [] { args := args, res := some (.bool true), after := args } = some (.bool (true == true)) from w_eq_bool (w_res rfl) w_lit) rfl

/-! ### the attachment: holds_open's last premise (the goal 'hc' behind k_head) from a wpAny of the law's body -/
/-- the same from a codeAny of the CALL (for a layer whose function contracts speak of calls) -/
theorem attach_call {l : OpenLaw} {n : Nat} {q : Program} {loose : List Str} {XP : (Str → Option Value) → Heap → Prop} {YP : World → Heap → Prop} {d : DefRec}
    (hn : l.most = some n) (hdf : d.params.defaults = [])
    (call : ∀ (w : World) (s₀ s₁ : Shared) (mg mb : Str → Option Value) (fa : Addr) (o : Obj) (pm cd doc : Value) (a : Addr) (vs : List Value) (ns : List Int),
      Ground q loose [] XP w s₀ mg mb s₁.heap → YP w s₁.heap →
      s₁.heap.get? fa = some o → o.data = .func (docDef d.name d.params d.body d.scope pm cd doc) → s₁.heap.CodeRec cd d.name → mg d.name = some (.ref fa) →
      s₁.heap.get? a = some { cls := .type "list", data := .seq vs.toArray } → IntsAre vs ns → ns.length ≤ n → s₁.gens = #[] →
      codeAny (model l.prog w) callerA (.call (.ref fa) ⟨[.ref a], []⟩) (fun r s' => r = .ok (.ret (.bool true)) ∧ OldK s₁.heap s'.heap ∧ s'.os = s₁.os ∧ AllBare s'.gens) s₁) :
    WalkO q loose XP YP l.row.toRowW d [] (fun f vs => PySem.call f vs) := by
  intro w s₀ s₁ mg mb G Y fa o pm cd doc dV kV ho hd hcd hD hmg hg args vals as hpre hlay hrd hwl hlo
  obtain rfl : dV = .none := Dflts.none hD hdf
  obtain rfl : kV = .none := Dflts.noKw hD
  obtain ⟨a, vs, ns, rfl, rfl, hobj, hints, hlen⟩ := script_of hn hpre hwl
  refine enter_call (codeAny_mono (call w s₀ s₁ mg mb fa o pm cd doc a vs ns G Y ho (fd_plain hd) hcd hmg hobj hints hlen hg) fun r s' hq => ?_)
  obtain ⟨rfl, h2, h3, h4⟩ := hq
  exact ⟨.inl ⟨.bool true, .bool true, [], rfl, fun _ => rfl, .bool true, post_true l _, fun _ => ⟨List.Pairwise.nil, fun _ hm => (nomatch hm)⟩⟩, h2, h3, h4⟩

/-! ### rules over ANY heap (no ledger) from facts about the written part K: the library's own take a ledger (News) for what they write -/
section
variable {prog : Program} {w : World} {A : Around} {E : Value → Shared → Prop} {s : Shared} {K : Frag}

/-! the whole heap as the ledger: makes every rule that writes through a ledger a rule over any heap -/
noncomputable def ledger (h : Heap) (L d : Addr) : List (Addr × Obj) := (List.range h.objs.size).filterMap fun a => if a = L ∨ a = d then none else (h.get? a).map fun o => (a, o)
end
end Att

namespace L2
open PySem PySem.Spec PyProof.Rows

theorem vals_ints : ∀ {vs : List Value} {ns : List Int}, IntsAre vs ns → Vals (ns.map V.int) vs
  | _, _, .nil => .nil
  | _, _, .cons n t h => .cons ⟨t, rfl⟩ (vals_ints h)

/-- nothing is tracked but the script, known to the object (or it is an object of the module) -/
noncomputable def Only (H : Hp) : Prop := ∀ b, H b = none ∨ ∃ o xs, H b = some (.frz o (.lst xs))

/-- THE HEAD: the law's promise, at the heap behind the top. F, the promise of the law's def, may use that base is part of the heap (so K.In base, base.Ns mainGlobals mg stand in Mod) -/
theorem law_call {P : Program} {w : World} {K : PySem.W.Frag} {mg mb : Str → Option Value} {CX : CXT} {k : Nat} {fa a : Addr} {fd : FuncData} {x : Str} {sp : Sp} {s₁ : Shared} {vs : List Value} {ns : List Int}
    (KX : K.In s₁.heap) (hns : s₁.heap.Ns mainGlobals mg) (hb : s₁.heap.Ns builtinsNs mb) (hbb : ∀ x : Str, x ≠ "__name__" → mb x = bootBuiltins x) (hlim : s₁.heap.NoLimit) (hg : s₁.gens = #[])
    (ha : s₁.heap.get? a = some { cls := .type "list", data := .seq vs.toArray }) (hi : IntsAre vs ns) (hl : ns.length ≤ sizeLine) (hr : Room k callerA)
    (F : ∀ base : Heap, K.In base → base.Ns mainGlobals mg → FnOk P w K mg base CX k fa fd [x] sp) (hbind : ∀ (s : Shared) (u : Value), BindsTo s fd ⟨[u], []⟩ [(x, u)])
    (hsp : ∀ H : Hp, Only H → SqL K H a (ns.map V.int) → sp [.ref a] H (fun v _ => v = .bl true) fun _ _ _ => False)
    (hCX : ∀ H e s', CX [] H s₁ (fun _ _ _ => False) e s' → False) :
    codeAny (model P w) callerA (.call (.ref fa) ⟨[.ref a], []⟩) (fun r s' => r = .ok (.ret (.bool true)) ∧ OldK s₁.heap s'.heap ∧ s'.os = s₁.os ∧ AllBare s'.gens) s₁ := by
  have rv := vals_ints hi
  have lenV := hi.length
  -- from an abstract heap in which nothing but the script may be tracked
  have core : ∀ H : Hp, Only H → SqL K H a (ns.map V.int) → HOk P w H s₁.heap → (∀ b, H b ≠ none → b = a) → (H a ≠ none → K.lookup a = none) →
      codeAny (model P w) callerA (.call (.ref fa) ⟨[.ref a], []⟩) (fun r s' => r = .ok (.ret (.bool true)) ∧ OldK s₁.heap s'.heap ∧ s'.os = s₁.os ∧ AllBare s'.gens) s₁ := by
    intro H hO hS hok hA hK
    have base_of : ∀ {b : Addr} {o : Obj}, s₁.heap.get? b = some o → H b = none → (hidT s₁.heap H).get? b = some o := fun e n => hidT_get e n
    have noA : ∀ {b : Addr} {o : Obj} {es : Array DictEntry} {ep : Nat}, s₁.heap.get? b = some o → o.data = .dict es ep → H b = none := fun {b o es ep} e d => by
      cases q : H b with
      | none => rfl
      | some u =>
        have e' : b = a := hA b (by rw [q]; simp)
        subst e'
        rw [ha] at e; cases e
        have d' : Data.seq vs.toArray _ = Data.dict es ep := d
        cases d'
    have nsK : ∀ {b : Addr} {m : Str → Option Value}, s₁.heap.Ns b m → (hidT s₁.heap H).Ns b m := fun {b m} ⟨o, es, ep, e, d, r⟩ => ⟨o, es, ep, base_of e (noA e d), d, r⟩
    have hKb : K.In (hidT s₁.heap H) := fun b o e => base_of (KX b o e) (by
      cases q : H b with
      | none => rfl
      | some u =>
        have e' : b = a := hA b (by rw [q]; simp)
        subst e'
        rw [hK (by rw [q]; simp)] at e; cases e)
    have hM : Mod K mg (hidT s₁.heap H) := ⟨hKb, nsK hns, ⟨mb, nsK hb, hbb⟩, let ⟨mc, h1, h2⟩ := hlim; ⟨mc, nsK h1, h2⟩⟩
    have e0 : Env0 P w K mg (hidT s₁.heap H) callerA [] s₁ H := ⟨rfl, hM, fun b o e => of_hidT e, Nat.le_of_eq (hidT_size _ _), trivial, fun b hb => absurd (show b ∈ ([] : List Addr) from hb) (by simp), hok, .of_eq hg⟩
    refine codeAny_mono ((F _ hKb (nsK hns)).run callerA [] s₁ H ⟨[.ref a], []⟩ [.ref a] [.ref a] _ _ hr e0 (hbind s₁ (.ref a)) (.cons rfl .nil) (hsp H hO hS)) fun r s' h => ?_
    cases r with
    | error e => exact (hCX H e s' h).elim
    | ok fl =>
      cases fl with
      | next => exact False.elim h
      | brk => exact False.elim h
      | cont => exact False.elim h
      | ret u =>
        obtain ⟨v, H', os, bare, un, hok', r', q⟩ := h
        have q' : v = .bl true := q
        subst q'
        obtain rfl : u = Value.bool true := r'
        refine ⟨rfl, OldK.of_keep fun b o e => ?_, os, bare⟩
        cases q : H b with
        | none => exact un.keep b o e q (by intro z; exact absurd (show b ∈ ([] : List Addr) from z) (by simp)) (by simp)
        | some u =>
          rcases hO b with z | ⟨ob, xs, z⟩
          · rw [q] at z; cases z
          · have z2 := un.frzs b ob _ z
            obtain ⟨e1, _⟩ := hok b _ z
            obtain ⟨e2, _⟩ := hok' b _ z2
            rw [e] at e1; cases e1
            exact e2
  cases hk : K.lookup a with
  | some o =>
    -- the script is one of the module's own objects
    have e := KX a o hk
    rw [ha] at e
    cases e
    refine core (fun _ => none) (fun _ => .inl rfl) (.inr ⟨_, vs.toArray, _, hk, rfl, rfl, rfl, by rw [List.size_toArray, lenV]; exact hl, by simpa using rv⟩) (fun b u z => by have z' : (none : Option HO) = some u := z; cases z') (fun b z => absurd rfl z) fun z => absurd rfl z
  | none =>
    refine core (fun b => if b = a then some (.frz { cls := .type "list", data := .seq vs.toArray } (.lst (ns.map V.int))) else none) (fun b => ?_) (.inl (.inr ⟨{ cls := .type "list", data := .seq vs.toArray }, if_pos rfl⟩)) (fun b u z => ?_) (fun b z => ?_) fun _ => hk
    · by_cases hb : b = a
      · exact .inr ⟨_, _, if_pos hb⟩
      · exact .inl (if_neg hb)
    · by_cases hb : b = a
      · have z' := (if_pos hb).symm.trans z
        cases z'
        subst hb
        exact ⟨ha, by rw [List.length_map]; exact hl, vs, _, rv, ha⟩
      · have z' := (if_neg hb).symm.trans z
        cases z'
    · by_cases hb : b = a
      · exact hb
      · exact absurd (if_neg hb) z
end L2

namespace L2
open PySem PySem.Spec PyProof.Rows

noncomputable abbrev KOf {K : PySem.W.Frag} {h : Heap} (_ : K.In h) : PySem.W.Frag := K

/-- the goal that k_head leaves (case hc), from the law's promise. F gives the function object fd (K's own) once, then the promise over every base -/
theorem walk_of {l : PySem.W.OpenLaw} {n k : Nat} {q : Program} {loose : List Str} {XP : (Str → Option Value) → Heap → Prop} {YP : World → Heap → Prop} {d : DefRec} {K : Params → PySem.W.Frag} {CX : World → CXT} {sp : World → Sp} {x : Str}
    (hn : l.most = some n) (hn2 : n ≤ sizeLine) (hdf : d.params.defaults = []) (hr : Room k callerA)
    (hY : ∀ (w : World) (h : Heap), YP w h → (K w.params).In h)
    (F : ∀ (w : World) (mg : Str → Option Value) (fa : Addr) (h : Heap), (K w.params).In h → h.Ns mainGlobals mg → mg d.name = some (.ref fa) →
      ∃ fd : FuncData, (∀ (s : Shared) (u : Value), BindsTo s fd ⟨[u], []⟩ [(x, u)]) ∧
        ∀ base : Heap, (K w.params).In base → base.Ns mainGlobals mg → FnOk l.prog w (K w.params) mg base (CX w) k fa fd [x] (sp w))
    (hsp : ∀ (w : World) (H : Hp) (a : Addr) (ns : List Int), ns.length ≤ n → Only H → SqL (K w.params) H a (ns.map V.int) → sp w [.ref a] H (fun v _ => v = .bl true) fun _ _ _ => False)
    (hCX : ∀ (w : World) (H : Hp) (s : Shared) (e : Value) (s' : Shared), CX w [] H s (fun _ _ _ => False) e s' → False) :
    PySem.W.WalkO q loose XP YP l.row.toRowW d [] (fun f vs => PySem.call f vs) := by
  refine Att.attach_call hn hdf fun w s₀ s₁ mg mb fa o pm cd doc a vs ns G Y ho hd hcd hmg hobj hints hlen hg => ?_
  have KX := hY w _ Y
  obtain ⟨fd, hb, hF⟩ := F w mg fa _ KX G.T.g hmg
  exact law_call KX G.T.g G.T.b G.T.builtins G.T.nolimit hg hobj hints (Nat.le_trans hlen hn2) hr hF hb (fun H hO hS => hsp w H a ns hlen hO hS) fun H e s' => hCX w H s₁ e s'
end L2

/- THE LAST THEOREM (shape; LID, My.* are yours):
   My.Adr: a structure of the addresses that your layer names (classes, functions); My.Txt K t: a structure (Prop) of the equations over K;
   My.txt_mk : {K} {implicit addresses ..} (e1 : nsIn K mainGlobals "law" = some (some (.ref f))) (e2 : K.lookup f = some ⟨oc, od, .func (fnOf "law" "law" params body scope dV kV doc pm an cdv ct), sl⟩) (e3 : codeIn K cdv "law" = true) .. : ∃ t, My.Txt K t

set_option maxRecDepth 100000 in
set_option maxHeartbeats 0 in
theorem PySem.Challenge.cw_LID_holds : PySem.Challenge.rw_LID.Holds := by
  w_on; o_law; k_head; (case hw => w_witness2)
  k_fill
  refine L2.walk_of (l := PySem.Challenge.rw_LID) (n := 63) (k := 40) (x := "script") (CX := fun w => ..) (sp := fun _ => My.sp_law) rfl (by decide) rfl ⟨rfl, by decide, by decide⟩ (fun w h Y => PySem.W.kIn_of Y) ?F ?S ?C
  case F =>
    intro w mg fa h KX G hmg
    have T : ∃ t, My.Txt (L2.KOf KX) t := by
      dsimp only [L2.KOf]                          -- K must stand as «<heap const> w.params» for k_is
      refine' My.txt_mk ?e1 ?e2 ?e3 ..
      (case e1 => PySem.W.k_is)                    -- in the order: a name -> its address -> its object -> its parts
      (case e2 => PySem.W.k_is)
      ..
    obtain ⟨t, T⟩ := T
    have e0 := hmg.symm.trans (PySem.W.mg_of KX G T.law)
    cases e0                                       -- fa is the law's own address
    exact ⟨_, fun s u => .of_eq rfl, fun base kb nb => My.law_fn T kb nb⟩     -- if «.of_eq rfl» comes too early: refine' ⟨_, ?b, fun base kb nb => My.law_fn T kb nb⟩; exact fun s u => .of_eq rfl
  case S => exact fun w H a ns hl hO hS => ..
  case C => exact ..
(the tactic k_is has no namespace: write k_is) -/

/-! SHORT WORDS over the layer: a def of the text, its body, what a loop and a test want. -/
namespace L2
open PySem PySem.Spec PyProof.Rows

/-! ### the text by places -/
/-- the j-th statement of a class's body -/
noncomputable def inClass (s : Stmt) (j : Nat) : Stmt := match s with
  | .ClassDef _ _ _ body _ _ _ _ _ _ _ => body.getD j (.Pass ⟨0, 0, 0, 0⟩)
  | _ => .Pass ⟨0, 0, 0, 0⟩
noncomputable def defArgs (s : Stmt) : Arguments := match s with
  | .FunctionDef _ a _ _ _ _ _ _ _ _ => a
  | _ => { posonlyargs := [], args := [], vararg := none, kwonlyargs := [], kw_defaults := [], kwarg := none, defaults := [] }
noncomputable def defBody (s : Stmt) : List Stmt := match s with
  | .FunctionDef _ _ b _ _ _ _ _ _ _ => b
  | _ => []
noncomputable def defScope (s : Stmt) : Scope := match s with
  | .FunctionDef _ _ _ _ _ _ sc _ _ _ => sc
  | _ => { kind := .function, names := [], isGenerator := false, isCoroutine := false }

/-! ### no exception leaves a def -/
noncomputable abbrev CX0 : CXT := fun _ _ _ _ _ _ => False
noncomputable abbrev E0 : XK := fun _ _ _ => False
theorem pass0 {X : Cx} : Passes CX0 X E0 := fun _ _ _ _ _ _ _ h => h.elim

/-! ### a def (or method) of the text as it stands behind the top -/
structure Fun (K : PySem.W.Frag) (x qual : Str) (st : Stmt) (f : Addr) (fd : FuncData) : Prop where
  ex : ∃ (oc : Value) (od : Option Addr) (kV doc pm : Value) (an : Option Addr) (cdv ct : Value) (osl : Array (Option Value)),
    fd = PySem.W.fnOf x qual (defArgs st) (defBody st) (defScope st) .none kV doc pm an cdv ct ∧ K.lookup f = some ⟨oc, od, .func fd, osl⟩ ∧ PySem.W.codeIn K cdv qual = true
  kp : PySem.W.keepIn K (.ref f) = true
section
variable {P : Program} {w : World} {K : PySem.W.Frag} {mg : Str → Option Value} {base : Heap}
/-- THE RULE for a def: its body as a term of rules, and the reading of that term -/
theorem Fun.ok {x qual : Str} {st : Stmt} {f : Addr} {fd : FuncData} {N ps : List Str} {k : Nat} {sp : Sp} (F : Fun K x qual st f fd) (S : FnScope N ps (defScope st)) (len : ∀ vs H Q E, sp vs H Q E → vs.length = ps.length)
    (hbody : ∀ (cdv : Value) (A : Around) (outer : List Env) (s : Shared) (H : Hp) (vs : List V) (Q : VK) (E : XK), Room k (A.deeper (envOfC qual (defScope st) s.heap.objs.size f cdv)) → sp vs H Q E →
      ∃ t, PSs (cxOf CX0 P w K mg base N qual (defScope st) f cdv A outer s H E).nox (defBody st) t ∧ t { nx := fun _ H' => Q .non H', rt := Q } (start N vs) H) : FnOk P w K mg base CX0 (k + 1) f fd ps sp := by
  obtain ⟨oc, od, kV, doc, pm, an, cdv, ct, osl, rfl, lk, hcd⟩ := F.ex
  refine fn_of lk hcd S len fun A outer s H vs Q E hr hsp => ?_
  obtain ⟨t, h, q⟩ := hbody cdv A outer s H vs Q E hr hsp
  exact ⟨t, h.nox, q⟩
/-- how its arguments bind (no defaults): h is «fun _ _ _ _ _ _ us hl => match us, hl with | [_, _], _ => rfl», one _ a parameter -/
theorem Fun.binds {x qual : Str} {st : Stmt} {f : Addr} {fd : FuncData} {ps : List Str} (F : Fun K x qual st f fd)
    (h : ∀ (kV doc pm : Value) (an : Option Addr) (cdv ct : Value) (us : List Value), us.length = ps.length → bindArgs (PySem.W.fnOf x qual (defArgs st) (defBody st) (defScope st) .none kV doc pm an cdv ct) ⟨us, []⟩ = pure (ps.zip us)) : Binds K fd ps [] := by
  obtain ⟨oc, od, kV, doc, pm, an, cdv, ct, osl, rfl, lk, hcd⟩ := F.ex
  exact .all (h kV doc pm an cdv ct)
theorem fun_mk {x qual : Str} {st : Stmt} {f : Addr} {oc : Value} {od an : Option Addr} {osl : Array (Option Value)} {kV doc pm cdv ct : Value} (l : K.lookup f = some ⟨oc, od, .func (PySem.W.fnOf x qual (defArgs st) (defBody st) (defScope st) .none kV doc pm an cdv ct), osl⟩)
    (c : PySem.W.codeIn K cdv qual = true) (k : PySem.W.keepIn K (.ref f) = true) : Fun K x qual st f (PySem.W.fnOf x qual (defArgs st) (defBody st) (defScope st) .none kV doc pm an cdv ct) := ⟨⟨oc, od, kV, doc, pm, an, cdv, ct, osl, rfl, l, c⟩, k⟩
end
/-! ### expressions in short: the name that stands in the i-th slot -/
section
variable {X : Cx}
theorem pv (i : Nat) {x : Str} {pos : Pos} (hN : X.N[i]? = some x := by rfl) (hv : Vis X.env.scope x := by first | exact Or.inl rfl | exact Or.inr (Or.inl rfl) | exact Or.inr (Or.inr rfl)) (hd : (x == ("__debug__" : Str)) = false := by decide)
    (hcd : (x == ("__classdict__" : Str)) = false := by decide) : PE X (.Name x pos) (tVar i) := pe_var hN hv hd hcd
end

/-! ### tests -/
theorem iteT {A B : Prop} (h : A) : if true = true then A else B := by
  rw [if_pos rfl]
  exact h
/-! ### heaps -/
/-- all that was tracked is as it was -/
noncomputable def Same (H H' : Hp) : Prop := ∀ b o, H b = some o → H' b = some o
theorem Same.refl (H : Hp) : Same H H := fun _ _ h => h
theorem Same.trans {H H1 H2 : Hp} (a : Same H H1) (b : Same H1 H2) : Same H H2 := fun c o h => b c o (a c o h)
theorem Same.free {H H' : Hp} (e : Same H H') {l : Addr} (h : H' l = Option.none) : H l = Option.none := by
  cases q : H l with
  | none => rfl
  | some o =>
    rw [e l o q] at h
    cases h
theorem Same.seq {K : PySem.W.Frag} {H H' : Hp} {a : Addr} {xs : List V} (e : Same H H') (h : SqL K H a xs) : SqL K H' a xs := by
  rcases h with (h | ⟨o, h⟩) | h
  · exact .inl (.inl (e _ _ h))
  · exact .inl (.inr ⟨o, e _ _ h⟩)
  · exact .inr h

end L2

namespace Cv
/-! sizes -/
structure Sz (n : Nat) (x : Int) : Prop where
  lt : x.natAbs < 2 ^ n
theorem Sz.mono {n m : Nat} {x : Int} (h : Sz n x) (hm : n ≤ m) : Sz m x := ⟨Nat.lt_of_lt_of_le h.lt (Nat.pow_le_pow_right (by decide) hm)⟩
theorem Sz.le {n : Nat} {x y : Int} (h : Sz n x) (hy : y.natAbs ≤ x.natAbs) : Sz n y := ⟨Nat.lt_of_le_of_lt hy h.lt⟩
theorem Sz.mul {n m : Nat} {x y : Int} (h : Sz n x) (k : Sz m y) : Sz (n + m) (x * y) := by
  refine ⟨?_⟩
  rw [Int.natAbs_mul, Nat.pow_add]
  exact Nat.mul_lt_mul'' h.lt k.lt
theorem Sz.add {n m : Nat} {x y : Int} (h : Sz n x) (k : Sz m y) : Sz (max n m + 1) (x + y) := by
  refine ⟨?_⟩
  have h1 := (h.mono (Nat.le_max_left n m)).lt
  have h2 := (k.mono (Nat.le_max_right n m)).lt
  have h3 := Int.natAbs_add_le x y
  rw [Nat.pow_succ]
  omega
theorem Sz.neg {n : Nat} {x : Int} (h : Sz n x) : Sz n (-x) := ⟨by rw [Int.natAbs_neg]; exact h.lt⟩
theorem Sz.sub {n m : Nat} {x y : Int} (h : Sz n x) (k : Sz m y) : Sz (max n m + 1) (x - y) := by
  rw [Int.sub_eq_add_neg]
  exact h.add k.neg
theorem Sz.one : Sz 1 1 := ⟨by decide⟩
theorem Sz.zero : Sz 0 0 := ⟨by decide⟩
/-! a fraction's size -/
structure Bd (n : Nat) (q : Rat) : Prop where
  num : Sz n q.num
  den : Sz n (q.den : Int)
theorem Bd.mono {n m : Nat} {q : Rat} (h : Bd n q) (hm : n ≤ m) : Bd m q := ⟨h.num.mono hm, h.den.mono hm⟩
theorem num_le (a b : Int) (hb : b ≠ 0) : (Rat.divInt a b).num.natAbs ≤ a.natAbs ∧ (Rat.divInt a b).den ≤ b.natAbs := by
  refine ⟨?_, ?_⟩
  · rw [Rat.num_divInt]
    have h2 : (b.sign * a).natAbs = a.natAbs := by
      rw [Int.natAbs_mul, Int.natAbs_sign_of_ne_zero hb, Nat.one_mul]
    have hd : (b.gcd a : Int) ∣ b.sign * a := Int.dvd_mul_of_dvd_right (Int.gcd_dvd_right ..)
    rw [← h2]
    have := Int.natAbs_ediv_of_dvd hd
    rw [this]
    exact Nat.div_le_self _ _
  · rw [Rat.den_divInt, if_neg hb]
    exact Nat.div_le_self _ _
theorem Bd.of {n m : Nat} {a b : Int} (ha : Sz n a) (hb : Sz m b) (h0 : b ≠ 0) : Bd (max n m) (Rat.divInt a b) :=
  ⟨(ha.mono (Nat.le_max_left n m)).le (num_le a b h0).1, (hb.mono (Nat.le_max_right n m)).le (by rw [Int.natAbs_natCast]; exact (num_le a b h0).2)⟩
theorem den_ne (q : Rat) : (q.den : Int) ≠ 0 := by have := q.den_pos; omega
theorem add_eq (a b : Rat) : Rat.divInt (a.num * b.den + b.num * a.den) ((a.den : Int) * b.den) = a + b := by
  have := Rat.divInt_add_divInt a.num b.num (den_ne a) (den_ne b)
  rw [Rat.num_divInt_den, Rat.num_divInt_den] at this
  exact this.symm
theorem sub_eq (a b : Rat) : Rat.divInt (a.num * b.den - b.num * a.den) ((a.den : Int) * b.den) = a - b := by
  have := Rat.divInt_sub_divInt a.num b.num (den_ne a) (den_ne b)
  rw [Rat.num_divInt_den, Rat.num_divInt_den] at this
  exact this.symm
theorem mul_eq (a b : Rat) : Rat.divInt (a.num * b.num) ((a.den : Int) * b.den) = a * b := by
  have := Rat.divInt_mul_divInt a.num b.num (d₁ := a.den) (d₂ := b.den)
  rw [Rat.num_divInt_den, Rat.num_divInt_den] at this
  exact this.symm
theorem den_mul_ne (a b : Rat) : (a.den : Int) * b.den ≠ 0 := Int.mul_ne_zero (den_ne a) (den_ne b)
theorem Bd.add {n m : Nat} {a b : Rat} (h : Bd n a) (k : Bd m b) : Bd (n + m + 1) (a + b) := by
  rw [← add_eq]
  exact (Bd.of ((h.num.mul k.den).add (k.num.mul h.den)) (h.den.mul k.den) (den_mul_ne a b)).mono (by omega)
theorem Bd.sub {n m : Nat} {a b : Rat} (h : Bd n a) (k : Bd m b) : Bd (n + m + 1) (a - b) := by
  rw [← sub_eq]
  exact (Bd.of ((h.num.mul k.den).sub (k.num.mul h.den)) (h.den.mul k.den) (den_mul_ne a b)).mono (by omega)
theorem Bd.mul {n m : Nat} {a b : Rat} (h : Bd n a) (k : Bd m b) : Bd (n + m) (a * b) := by
  rw [← mul_eq]
  exact (Bd.of (h.num.mul k.num) (h.den.mul k.den) (den_mul_ne a b)).mono (by omega)
/-! the share of two whole numbers, as it is reckoned -/
theorem share_pos (t b : Int) (hb : 0 < b) : t.fdiv (Int.gcd t b) = (Rat.divInt t b).num ∧ b.fdiv (Int.gcd t b) = ((Rat.divInt t b).den : Int) := by
  rw [Rat.num_divInt, Rat.den_divInt, if_neg (by omega), Int.sign_eq_one_of_pos hb, Int.one_mul, Int.gcd_comm b t]
  refine ⟨Int.fdiv_eq_ediv_of_nonneg _ (Int.natCast_nonneg _), ?_⟩
  rw [Int.fdiv_eq_ediv_of_nonneg _ (Int.natCast_nonneg _), Int.natCast_ediv, Int.natAbs_of_nonneg (Int.le_of_lt hb)]
theorem gcd_step (a b : Int) : Int.gcd b (a.fmod b) = Int.gcd a b := by
  rw [Int.fmod_def, Int.sub_eq_add_neg, ← Int.mul_neg, Int.gcd_add_mul_left_right, Int.gcd_comm]
theorem gcd_pos' (t b : Int) (hb : b ≠ 0) : (Int.gcd t b : Int) ≠ 0 := by
  have := Int.gcd_pos_of_ne_zero_right t hb
  omega
end Cv
namespace Cv
theorem divInt_cast (a b : Int) : Rat.divInt a b = (a : Rat) / (b : Rat) := Rat.divInt_eq_div a b
theorem num_cast (q : Rat) : (q.num : Rat) = q * ((q.den : Int) : Rat) := by
  have h := Rat.num_divInt_den q
  rw [Rat.divInt_eq_div] at h
  have hd : ((q.den : Int) : Rat) ≠ 0 := by
    intro z
    exact den_ne q (by exact_mod_cast z)
  conv => rhs; rw [← h]
  grind
/-- a quotient of whole numbers, by what it is worth -/
theorem eq_divInt {q : Rat} {t b : Int} (hb : b ≠ 0) (h : q * (b : Rat) = (t : Rat)) : q = Rat.divInt t b := by
  rw [Rat.divInt_eq_div]
  have hb' : (b : Rat) ≠ 0 := by
    intro z
    exact hb (by exact_mod_cast z)
  grind
end Cv

namespace Cv
open PySem PySem.Spec PyProof.Rows L2
section
variable {X : Cx}
/-! ### products and quotients of greater numbers -/
noncomputable def CMulB (i j : Int) : Prop := ∃ n m, Sz n i ∧ Sz m j ∧ n + m ≤ 100000000
noncomputable def CDivB (_i j : Int) : Prop := j ≠ 0 ∧ Sz 9000 j
theorem op_fdivB : OpR X (binaryOp .FloorDiv) (rI CDivB fun i j => .int (i.fdiv j)) := opI fun i j _ _ _ _ _ hc q => by
  obtain ⟨h0, h1⟩ := hc
  refine floordiv_int h0 q (.inl (PyProof.noPylong_of_log2 ?_))
  have hp : j.natAbs ≠ 0 := by omega
  exact (Nat.log2_lt hp).mpr h1.lt
/-! ### isinstance -/
theorem vals_one {x : V} {us : List Value} (r : Vals [x] us) : ∃ u, us = [u] ∧ RelV x u := by
  cases r with
  | cons p q => cases q; exact ⟨_, rfl, p⟩
theorem vals_two {x y : V} {us : List Value} (r : Vals [x, y] us) : ∃ u v, us = [u, v] ∧ RelV x u ∧ RelV y v := by
  cases r with
  | cons p q =>
    obtain ⟨v, rfl, p'⟩ := vals_one q
    exact ⟨_, _, rfl, p, p'⟩
theorem call_isi : CallR X (.builtin "isinstance") (fun xs H Q => ∃ x T t b, xs = [x, .ty T] ∧ TyOf X.K H x t ∧ PySem.W.kitOne X.K t (.type T) = some b ∧ Q (.bl b) H) := by
  intro pins s σ H xs us Q I r h
  obtain ⟨x, T, t, b, rfl, ty, e, q⟩ := h
  obtain ⟨u, v, rfl, ru, rv⟩ := vals_two r
  cases rv
  exact isinst_ok I ru ty e fun tk => ⟨.bl b, H, I.tok tk, rfl, q⟩
/-! ### data -/
mutual
/-- v is the data d -/
noncomputable def Dn (K : PySem.W.Frag) (H : Hp) : PySem.W.Dat → V → Prop
  | .none, v => v = .non
  | .bool b, v => v = .bl b
  | .int i, v => v = .int i
  | .str x, v => v = .str x
  | .bytes _, _ => False
  | .tuple ds, v => ∃ a xs, v = .ref a ∧ SqT K H a xs ∧ DnAll K H ds xs
  | .list ds, v => ∃ a xs, v = .ref a ∧ SqL K H a xs ∧ DnAll K H ds xs
noncomputable def DnAll (K : PySem.W.Frag) (H : Hp) : List PySem.W.Dat → List V → Prop
  | [], xs => xs = []
  | d :: ds, xs => ∃ y ys, xs = y :: ys ∧ Dn K H d y ∧ DnAll K H ds ys
end
mutual
theorem dn_reads {pins : List (Addr × Obj)} {σ : L2.St} {H : Hp} {s : Shared} (I : Inv X pins σ H s) : ∀ (n : Nat) (d : PySem.W.Dat) (v : V) (u : Value), Dn X.K H d v → RelV v u → PySem.W.kqdOk n d = true → ∃ as, Reads s.heap u (PySem.W.kqdP d) as
  | n, .none, v, u, h, r, _ => by
    cases (show v = .non from by simpa [Dn] using h); cases r
    rw [PySem.W.kqdP]; exact ⟨_, Reads.none⟩
  | n, .bool b, v, u, h, r, _ => by
    cases (show v = .bl b from by simpa [Dn] using h); cases r
    rw [PySem.W.kqdP]; exact ⟨_, Reads.bool b⟩
  | n, .int i, v, u, h, r, _ => by
    cases (show v = .int i from by simpa [Dn] using h)
    obtain ⟨t, rfl⟩ := r
    rw [PySem.W.kqdP]; exact ⟨_, Reads.int i t⟩
  | n, .str x, v, u, h, r, _ => by
    cases (show v = .str x from by simpa [Dn] using h)
    obtain ⟨t, rfl⟩ := r
    rw [PySem.W.kqdP]; exact ⟨_, Reads.str x t⟩
  | n, .bytes b, v, u, h, r, _ => by simp [Dn] at h
  | 0, .tuple ds, v, u, h, r, hk => by simp [PySem.W.kqdOk] at hk
  | 0, .list ds, v, u, h, r, hk => by simp [PySem.W.kqdOk] at hk
  | n + 1, .tuple ds, v, u, h, r, hk => by
    rw [Dn] at h
    obtain ⟨a, xs, rfl, hs, hd⟩ := h
    cases r
    obtain ⟨its, rv, ⟨o, ho, hc, m, hdt⟩, hz⟩ := I.tuple hs
    obtain ⟨as, q⟩ := dn_readsAll I n ds xs its hd rv (by simpa [PySem.W.kqdOk] using hk)
    rw [PySem.W.kqdP]
    exact ⟨as, reads_tuple_at ho hc hdt (by simpa using q)⟩
  | n + 1, .list ds, v, u, h, r, hk => by
    rw [Dn] at h
    obtain ⟨a, xs, rfl, hs, hd⟩ := h
    cases r
    obtain ⟨its, rv, pl, hz⟩ := I.list hs
    obtain ⟨o, ho, hc, m, hdt⟩ := pl.isList
    obtain ⟨as, q⟩ := dn_readsAll I n ds xs its hd rv (by simpa [PySem.W.kqdOk] using hk)
    rw [PySem.W.kqdP]
    exact ⟨_, reads_list_at ho hc hdt (by simpa using q)⟩
theorem dn_readsAll {pins : List (Addr × Obj)} {σ : L2.St} {H : Hp} {s : Shared} (I : Inv X pins σ H s) : ∀ (n : Nat) (ds : List PySem.W.Dat) (xs : List V) (us : List Value), DnAll X.K H ds xs → Vals xs us → (∀ d ∈ ds, PySem.W.kqdOk n d = true) → ∃ as, ReadsAll s.heap us (PySem.W.kqdPs ds) as
  | n, [], xs, us, h, r, _ => by
    cases (show xs = [] from by simpa [DnAll] using h)
    cases r
    rw [PySem.W.kqdPs]; exact ⟨_, ReadsAll.nil⟩
  | n, d :: ds, xs, us, h, r, hk => by
    rw [DnAll] at h
    obtain ⟨y, ys, rfl, h1, h2⟩ := h
    cases r with
    | cons p q =>
      obtain ⟨as, r1⟩ := dn_reads I n d y _ h1 p (hk d (.head _))
      obtain ⟨bs, r2⟩ := dn_readsAll I n ds ys _ h2 q fun e he => hk e (.tail _ he)
      rw [PySem.W.kqdPs]
      exact ⟨_, ReadsAll.cons r1 r2⟩
end
theorem shaped_ok {d : PySem.W.Dat} (h : PySem.W.kqdOk 8 d = true) : SeqAt.shaped (PySem.W.kqdP d) = true := by
  have la := PySem.W.kqd_lay 8 d h
  unfold SeqAt.shaped; rw [la.1, Bool.true_and]; exact decide_eq_true (Nat.le_trans la.2 (by decide))
noncomputable def rEqD (K : PySem.W.Frag) : R2 := fun x y H Q => ∃ d e, Dn K H d x ∧ Dn K H e y ∧ PySem.W.kqdOk 8 d = true ∧ PySem.W.kqdOk 8 e = true ∧ ∀ b : Bool, (b = true ↔ d = e) → Q (.bl b) H
noncomputable def rNeD (K : PySem.W.Frag) : R2 := fun x y H Q => ∃ d e, Dn K H d x ∧ Dn K H e y ∧ PySem.W.kqdOk 8 d = true ∧ PySem.W.kqdOk 8 e = true ∧ ∀ b : Bool, (b = true ↔ d = e) → Q (.bl (!b)) H
theorem op_eqD (hu : X.A.units + 64 < cLine) : OpR X (compareOp .Eq) (rEqD X.K) := by
  intro pins s σ H x y v u Q I rx ry h
  obtain ⟨d, e, hd, he, k1, k2, q⟩ := h
  obtain ⟨as, r1⟩ := dn_reads I 8 d x v hd rx k1
  obtain ⟨bs, r2⟩ := dn_reads I 8 e y u he ry k2
  exact eq_dataH r1 r2 (shaped_ok k1) (shaped_ok k2) hu ⟨.bl _, H, I, rfl, q _ (PySem.W.kqd_eqv 8 d e 8 k1 k2)⟩
theorem op_neD (hu : X.A.units + 64 < cLine) : OpR X (compareOp .NotEq) (rNeD X.K) := by
  intro pins s σ H x y v u Q I rx ry h
  obtain ⟨d, e, hd, he, k1, k2, q⟩ := h
  obtain ⟨as, r1⟩ := dn_reads I 8 d x v hd rx k1
  obtain ⟨bs, r2⟩ := dn_reads I 8 e y u he ry k2
  exact ne_dataH r1 r2 (shaped_ok k1) (shaped_ok k2) hu ⟨.bl _, H, I, rfl, q _ (PySem.W.kqd_eqv 8 d e 8 k1 k2)⟩
end
/-! ### shares -/
noncomputable def ShV (H : Hp) (v : V) (q : Rat) : Prop := ∃ a, v = .ref a ∧ H a = some (.tup [.int q.num, .int (q.den : Int)])
theorem ShV.same {H H' : Hp} {v : V} {q : Rat} (h : ShV H v q) (e : Same H H') : ShV H' v q := by
  obtain ⟨a, rfl, h⟩ := h
  exact ⟨a, rfl, e _ _ h⟩
noncomputable def datSh (q : Rat) : PySem.W.Dat := .tuple [.int q.num, .int (q.den : Int)]
theorem datSh_inj {p q : Rat} : datSh p = datSh q ↔ p = q := by
  unfold datSh
  constructor
  · intro h
    simp at h
    exact Rat.ext h.1 (Int.ofNat.inj h.2)
  · intro h; rw [h]
theorem datSh_ok (q : Rat) (n : Nat) : PySem.W.kqdOk (n + 1) (datSh q) = true := by
  cases n <;> simp [datSh, PySem.W.kqdOk]
theorem ShV.dn {K : PySem.W.Frag} {H : Hp} {v : V} {q : Rat} (h : ShV H v q) : Dn K H (datSh q) v := by
  obtain ⟨a, rfl, h⟩ := h
  unfold datSh
  simp only [Dn, DnAll]
  exact ⟨a, _, rfl, SqT.of h, _, _, rfl, rfl, _, _, rfl, rfl, rfl⟩
theorem Same.new {H : Hp} {p : Addr} {o : HO} (h : H p = none) : Same H (upd H p o) := fun b u e => by
  rw [upd_ne (ne_of_none e h)]; exact e
theorem SqT.same {K : PySem.W.Frag} {H H' : Hp} {a : Addr} {xs : List V} (e : Same H H') (h : SqT K H a xs) : SqT K H' a xs := by
  rcases h with (h | ⟨o, h⟩) | h
  · exact .inl (.inl (e _ _ h))
  · exact .inl (.inr ⟨o, e _ _ h⟩)
  · exact .inr h
end Cv

namespace Cv
open PySem PySem.Spec PyProof.Rows L2
/-! ### a def of the text, in one word -/
/-- a def of the module as the top left it -/
structure FunAt (K : PySem.W.Frag) (mg : Str → Option Value) (x : Str) (st : Stmt) (ps : List Str) : Prop where
  ex : ∃ (f : Addr) (fd : FuncData), Fun K x x st f fd ∧ mg x = some (.ref f) ∧ Binds K fd ps []
structure DefOk (P : Program) (w : World) (K : PySem.W.Frag) (mg : Str → Option Value) (base : Heap) (CX : CXT) (k : Nat) (x : Str) (ps : List Str) (sp : Sp) : Prop where
  ex : ∃ (f : Addr) (fd : FuncData), FnOk P w K mg base CX k f fd ps sp ∧ mg x = some (.ref f) ∧ PySem.W.keepIn K (.ref f) = true ∧ Binds K fd ps [] ∧
    ∃ (oc : Value) (od : Option Addr) (osl : Array (Option Value)), K.lookup f = some ⟨oc, od, .func fd, osl⟩
/-- the names that the module leaves to the builtins -/
structure Blt (mg : Str → Option Value) : Prop where
  len : mg "len" = none
  abs : mg "abs" = none
  range : mg "range" = none
  max : mg "max" = none
  min : mg "min" = none
  any : mg "any" = none
  all : mg "all" = none
  sum : mg "sum" = none
  isinstance : mg "isinstance" = none
  int : mg "int" = none
  bool : mg "bool" = none
  tuple : mg "tuple" = none
  list : mg "list" = none
  str : mg "str" = none
  ValueError : mg "ValueError" = none
  zip : mg "zip" = none
  reversed : mg "reversed" = none
  enumerate : mg "enumerate" = none
  sorted : mg "sorted" = none
  dict : mg "dict" = none
section
variable {P : Program} {w : World} {K : PySem.W.Frag} {mg : Str → Option Value} {base : Heap}
theorem FunAt.mk' {x : Str} {st : Stmt} {ps : List Str} {f : Addr} {oc : Value} {od an : Option Addr} {osl : Array (Option Value)} {kV doc pm cdv ct : Value} (hm : mg x = some (.ref f))
    (l : K.lookup f = some ⟨oc, od, .func (PySem.W.fnOf x x (defArgs st) (defBody st) (defScope st) .none kV doc pm an cdv ct), osl⟩)
    (c : PySem.W.codeIn K cdv x = true) (k : PySem.W.keepIn K (.ref f) = true)
    (h : ∀ (kV doc pm : Value) (an : Option Addr) (cdv ct : Value) (us : List Value), us.length = ps.length → bindArgs (PySem.W.fnOf x x (defArgs st) (defBody st) (defScope st) .none kV doc pm an cdv ct) ⟨us, []⟩ = pure (ps.zip us)) : FunAt K mg x st ps := by
  have F := fun_mk (st := st) l c k
  exact ⟨_, _, F, hm, F.binds h⟩
theorem def_ok {x : Str} {st : Stmt} {N ps : List Str} {k : Nat} {sp : Sp} (F : FunAt K mg x st ps) (S : FnScope N ps (defScope st)) (len : ∀ vs H Q E, sp vs H Q E → vs.length = ps.length)
    (hbody : ∀ (f : Addr) (cdv : Value) (A : Around) (outer : List Env) (s : Shared) (H : Hp) (vs : List V) (Q : VK) (E : XK), Room k (A.deeper (envOfC x (defScope st) s.heap.objs.size f cdv)) → sp vs H Q E →
      ∃ t, PSs (cxOf CX0 P w K mg base N x (defScope st) f cdv A outer s H E).nox (defBody st) t ∧ t { nx := fun _ H' => Q .non H', rt := Q } (start N vs) H) : DefOk P w K mg base CX0 (k + 1) x ps sp := by
  obtain ⟨f, fd, F, hm, hb⟩ := F.ex
  exact ⟨f, fd, F.ok S len fun cdv A outer s H vs Q E hr h => hbody f cdv A outer s H vs Q E hr h, hm, F.kp, hb, let ⟨oc, od, _, _, _, _, _, _, osl, _, l, _⟩ := F.ex; ⟨oc, od, osl, l⟩⟩
end
section
variable {X : Cx} {CX : CXT} {k j : Nat} {ps : List Str} {sp : Sp} {E : XK} {x : Str} {p pos : Pos} {e : Expr} {es : List Expr} {t : TA}
noncomputable def tFn (sp : Sp) (E : XK) (t : TA) : TE := fun σ H Q => t σ H fun vs H1 => sp vs H1 Q E
theorem pe_fn (D : DefOk X.prog X.w X.K X.mg X.base CX k x ps sp) (hr : Room j X.A) (hx : Passes CX X E) (ha : PA X (e :: es) t) (hk : k ≤ j := by decide) (hg : Gl X x := by rfl)
    (hdb : (x == ("__debug__" : Str)) = false := by decide) (he : starEach (e :: es) X.env = (false, eval e X.env) :: starEach es X.env := by rfl) (hpl : (backTo pos (starEach es X.env)).any (·.1) = false := by rfl) :
    PE X (.Call (.Name x p) (e :: es) [] pos) (tFn sp E t) := by
  obtain ⟨f, fd, F, hm, kp, hb, _⟩ := D.ex
  intro pins s σ H Q I h
  have q := pe_call (X := X) (p := p) (pos := pos) F (hr.mono hk) hg hm kp hb .nil hx ha hdb he hpl
  refine q pins s σ H Q I ?_
  unfold tCall
  have e : (fun (vs : List V) (H1 : Hp) => sp (vs ++ []) H1 Q E) = fun vs H1 => sp vs H1 Q E := by
    funext vs H1
    rw [List.append_nil]
  rw [e]
  exact h
end
end Cv

namespace Cv
open PySem PySem.Spec PyProof.Rows L2
section
variable {X : Cx}
noncomputable def CMulA (i j : Int) : Prop := CMul i j ∨ CMulB i j
theorem op_mulA : OpR X (binaryOp .Mult) (rI CMulA fun i j => .int (i * j)) := opI fun i j _ _ _ _ _ hc q => by
  rcases hc with hc | ⟨n, m, h1, h2, h3⟩
  · exact mul_int q hc.ok
  · exact mul_int q (IntMulOk.of_le (PySem.intBits_le_iff.mpr h1.lt) (PySem.intBits_le_iff.mpr h2.lt) (by omega))
end
theorem mulL {i j : Int} (h1 : -(2 ^ 64) < i) (h2 : i < 2 ^ 64) : CMulA i j := .inl (.inl ⟨h1, h2⟩)
theorem mulR {i j : Int} (h1 : -(2 ^ 64) < j) (h2 : j < 2 ^ 64) : CMulA i j := .inl (.inr ⟨h1, h2⟩)
theorem mulB {n m : Nat} {i j : Int} (h1 : Sz n i) (h2 : Sz m j) (h : n + m ≤ 100000000 := by decide) : CMulA i j := .inr ⟨n, m, h1, h2, h⟩
/-! ### the promises -/
/-! the law's own helpers -/
noncomputable def spCell (K : PySem.W.Frag) : Sp := fun vs H Q _ => ∃ (a : Addr) (ns : List Int) (k : Int), vs = [.ref a, .int k] ∧ SqL K H a (ns.map V.int) ∧ 0 ≤ k ∧ ∀ z, Q (.int z) H
noncomputable def spLShare : Sp := fun vs H Q _ => ∃ t b : Int, vs = [.int t, .int b] ∧ 0 < b ∧ Sz 9000 b ∧ ∀ v H', Same H H' → ShV H' v (Rat.divInt t b) → Q v H'
noncomputable def spLaw (K : PySem.W.Frag) : Sp := fun vs H Q _ => ∃ (a : Addr) (ns : List Int), vs = [.ref a] ∧ SqL K H a (ns.map V.int) ∧ ns.length ≤ 63 ∧ ∀ H', Q (.bl true) H'
/-! ### tests -/
theorem ite_dec {c : Prop} [Decidable c] {A B : Prop} (h1 : c → A) (h2 : ¬ c → B) : if decide c = true then A else B := by
  by_cases h : c
  · rw [if_pos (decide_eq_true h)]; exact h1 h
  · rw [if_neg (by simp [h])]; exact h2 h
theorem ifT {b : Bool} {A B : Prop} (h : b = true) (k : A) : if b = true then A else B := by rw [if_pos h]; exact k
theorem ifF {b : Bool} {A B : Prop} (h : b = false) (k : B) : if b = true then A else B := by rw [if_neg (by rw [h]; decide)]; exact k
theorem ifB {b : Bool} {A B : Prop} (h1 : b = true → A) (h2 : b = false → B) : if b = true then A else B := by
  cases b
  · exact ifF rfl (h2 rfl)
  · exact ifT rfl (h1 rfl)
end Cv
namespace Cv
open PySem PySem.Spec PyProof.Rows L2
/-- the law's function is the one that the top left -/
theorem DefOk.law {P : Program} {w : World} {K : PySem.W.Frag} {mg : Str → Option Value} {base : Heap} {CX : CXT} {k : Nat} {x : Str} {ps : List Str} {sp : Sp} {f : Addr} {fd : FuncData} {oc : Value} {od : Option Addr} {osl : Array (Option Value)}
    (D : DefOk P w K mg base CX k x ps sp) (l : K.lookup f = some ⟨oc, od, .func fd, osl⟩) (hm : mg x = some (.ref f)) : FnOk P w K mg base CX k f fd ps sp := by
  obtain ⟨f', fd', FO, hm', _, _, oc', od', osl', l'⟩ := D.ex
  have e := hm.symm.trans hm'
  cases e
  have e2 := l.symm.trans l'
  have e3 : Data.func fd = Data.func fd' := congrArg (fun (o : Obj) => o.data) (Option.some.inj e2)
  cases e3
  exact FO
theorem walk {l : PySem.W.OpenLaw} {k : Nat} {CX : CXT} {sp : PySem.W.Frag → Sp} {q : Program} {loose : List Str} {XP : (Str → Option Value) → Heap → Prop} {YP : World → Heap → Prop} {d : DefRec} {K : Params → PySem.W.Frag} {x : Str} (hn : l.most = some 63) (hdf : d.params.defaults = []) (hr : Room k callerA)
    (hY : ∀ (w : World) (h : Heap), YP w h → (K w.params).In h)
    (F : ∀ (w : World) (mg : Str → Option Value) (fa : Addr) (h : Heap), (K w.params).In h → h.Ns mainGlobals mg → mg d.name = some (.ref fa) →
      ∃ fd : FuncData, (∀ (s : Shared) (u : Value), BindsTo s fd ⟨[u], []⟩ [(x, u)]) ∧ ∀ (P : Program) (base : Heap), (K w.params).In base → base.Ns mainGlobals mg → FnOk P w (K w.params) mg base CX k fa fd [x] (sp (K w.params)))
    (hsp : ∀ (K : PySem.W.Frag) (H : Hp) (a : Addr) (ns : List Int), ns.length ≤ 63 → Only H → SqL K H a (ns.map V.int) → sp K [.ref a] H (fun v _ => v = .bl true) fun _ _ _ => False)
    (hCX : ∀ (H : Hp) (s : Shared) (e : Value) (s' : Shared), CX [] H s (fun _ _ _ => False) e s' → False) :
    PySem.W.WalkO q loose XP YP l.row.toRowW d [] (fun f vs => PySem.call f vs) :=
  L2.walk_of (n := 63) (k := k) (x := x) (CX := fun _ => CX) (sp := fun w => sp (K w.params)) hn (by decide) hdf hr hY
    (fun w mg fa h a b c => let ⟨fd, h1, h2⟩ := F w mg fa h a b c; ⟨fd, h1, fun base => h2 l.prog base⟩) (fun w H a ns => hsp (K w.params) H a ns) fun _ H s e s' => hCX H s e s'
end Cv

namespace Cv
open PySem PySem.Spec PyProof.Rows L2
/-! small facts for the readings -/
theorem pl {j : Int} (h : 0 < j := by decide) : 0 < j := h
theorem at_map (xs : List Int) (k : Nat) (h : k < xs.length) : atI (xs.map V.int) (k : Int) = some (V.int (xs.getD k 0)) := by
  refine atI_nat ?_
  rw [List.getElem?_map, List.getElem?_eq_getElem h]
  simp [List.getD_eq_getElem?_getD, List.getElem?_eq_getElem h]
theorem at_mapZ (xs : List Int) (k : Int) (h0 : 0 ≤ k) (h : k < (xs.length : Int)) : atI (xs.map V.int) k = some (V.int (xs.getD k.toNat 0)) := by
  have e : k = ((k.toNat : Nat) : Int) := by omega
  have q := at_map xs k.toNat (by omega)
  rw [← e] at q
  exact q
theorem getD_nn {xs : List Int} (h : ∀ x ∈ xs, 0 ≤ x) (k : Nat) : 0 ≤ xs.getD k 0 := by
  rw [List.getD_eq_getElem?_getD]
  cases e : xs[k]? with
  | none => simp
  | some v => exact h v (List.mem_of_getElem? e)
theorem atI_lt {α : Type} (xs : List α) (i : Int) (h0 : 0 ≤ i) (h1 : i < (xs.length : Int)) : ∃ v, atI xs i = some v ∧ v ∈ xs := by
  have e : i = ((i.toNat : Nat) : Int) := by omega
  have hl : i.toNat < xs.length := by omega
  refine ⟨xs[i.toNat], ?_, List.getElem_mem hl⟩
  have q := atI_nat (xs := xs) (j := i.toNat) (v := xs[i.toNat]) (List.getElem?_eq_getElem hl)
  rw [← e] at q
  exact q
theorem p30 : (10 : Int) ^ (30 : Int).toNat = 1000000000000000000000000000000 := by decide
theorem pos30 : (0 : Int) < (10 : Int) ^ (30 : Int).toNat := by rw [p30]; decide
theorem sz_of {n : Nat} {x : Int} {b : Nat} (h1 : x.natAbs ≤ b) (h2 : b < 2 ^ n) : Sz n x := ⟨Nat.lt_of_le_of_lt h1 h2⟩
/-- a drawn top -/
theorem gcd_abs (t b : Int) : Int.gcd (if t < 0 then -t else t) b = Int.gcd t b := by
  split
  · rw [Int.neg_gcd]
  · rfl
theorem emod_gcd (a b : Int) (hb : 0 < b) : Int.gcd b (a % b) = Int.gcd a b := by
  have := gcd_step a b
  rw [Int.fmod_eq_emod_of_nonneg a (by omega)] at this
  exact this
theorem kit_ii (K : PySem.W.Frag) : PySem.W.kitOne K (.type "int") (.type "int") = some true := rfl
theorem kit_ib (K : PySem.W.Frag) : PySem.W.kitOne K (.type "int") (.type "bool") = some false := rfl
theorem kit_tt (K : PySem.W.Frag) : PySem.W.kitOne K (.type "tuple") (.type "tuple") = some true := rfl
theorem kit_bb (K : PySem.W.Frag) : PySem.W.kitOne K (.type "bool") (.type "bool") = some true := rfl
theorem kit_ll (K : PySem.W.Frag) : PySem.W.kitOne K (.type "list") (.type "list") = some true := rfl
end Cv

namespace Cv
open PySem PySem.Spec PyProof.Rows L2
/-! ### an exception on its way, with none ahead of it -/
structure TrX (h B : Heap) (e : Addr) (cls fl : Value) : Prop where
  ex : ∃ (oe : Obj) (vs : Array Value) (T : Addr) (oT : Obj) (ts : Array Value), (h.get? e = some oe ∧ oe.cls = cls ∧ oe.data = .fields vs ∧ oe.dict = none) ∧ (vs[2]? = some .none ∧ vs[1]? = some (.ref T)) ∧ (B.get? T = none ∧ T ≠ e) ∧ h.get? T = some oT ∧ oT.data = .fields ts ∧ ts[3]? = some fl
structure FlyX (B : Heap) (l : List Env) (e : Addr) (cls fl : Value) (h : Heap) : Prop where
  stays : B.StaysIn h
  new : B.get? e = none
  frames : h.FunFrames B l
  tr : TrX h B e cls fl
theorem mf_dict (f : Array Value → Array Value) (o : Obj) : (Obj.mapFields f o).dict = o.dict := by
  unfold Obj.mapFields
  split <;> rfl
theorem FlyX.there {B h : Heap} {l : List Env} {e : Addr} {cls fl : Value} (x : FlyX B l e cls fl h) : ∃ o vs, h.get? e = some o ∧ o.cls = cls ∧ o.data = .fields vs ∧ vs[2]? = some .none ∧ o.dict = none := by
  obtain ⟨o, vs, _, _, _, ⟨a, b, c, f⟩, ⟨d, _⟩, _⟩ := x.tr.ex
  exact ⟨o, vs, a, b, c, d, f⟩
section
variable {M : Model} {A : Around} {E : Value → Shared → Prop} {s : Shared} {B : Heap} {env : Env} {outer : List Env} {L e : Addr}
theorem entX {oe : Obj} {vs : Array Value} {hd : Value} {b : Bool} {Q : Unit → Shared → Prop} (hfr : A.frames = some (env :: outer)) (hf : env.frame = some L) (st : B.StaysIn s.heap) (ne : B.get? e = none)
    (ff : s.heap.FunFrames B (env :: outer)) (he : s.heap.get? e = some oe) (dt : oe.data = .fields vs) (dn : oe.dict = none) (v2 : vs[2]? = some .none)
    (k : ∀ h', FlyX B (env :: outer) e oe.cls (rawInt L) h' → s.heap.UpToSlots h' → Q () { s with heap := h' }) :
    wpAny M A (frameOf env >>= fun a => entryPlaceOf L b >>= fun pl => EntryCells.newEntry hd a .none (rawInt L) .none pl >>= fun t => setField (.ref e) 1 t) Q E s := by
  have v2s : 2 < vs.size := (Array.getElem?_eq_some_iff.mp v2).1
  have nfr : e ∉ (env :: outer).filterMap (·.frame) := by
    intro hm
    obtain ⟨_, o, ho, q⟩ := ff.mem hm
    cases he.symm.trans ho
    exact q vs dt
  refine wpAny_bind (wpAny_frameOf_fun hfr ff hf fun h1 so => ?_)
  refine wpAny_bind (wpAny_entryPlaceOf fun pl ip => ?_)
  unfold EntryCells.newEntry newFields
  refine wpAny_bind (wpAny_newObj_type ?_ (ip.sizeOk5 _ _ _ _ _))
  have e1 : h1.get? e = some oe := (so.2.1 e nfr).trans he
  have st1 : B.StaysIn h1 := fun c o q => (so.2.1 c fun hm => by rw [(ff.mem hm).1] at q; cases q).trans (st c o q)
  have t3 : (([hd, Value.ref L, Value.none, rawInt L, Value.none] ++ (if pl.isEmpty then List.replicate 6 Value.none else pl)).toArray)[3]? = some (rawInt L) := by
    rw [List.getElem?_toArray]; rfl
  have tT : h1.objs.size ≠ e := Nat.ne_of_gt (Heap.lt_size e1)
  generalize hts : ([hd, Value.ref L, Value.none, rawInt L, Value.none] ++ (if pl.isEmpty then List.replicate 6 Value.none else pl)).toArray = ts at t3 ⊢
  have e2 := Heap.get?_push_of_some (h := h1) { cls := .type "traceback", dict := none, data := .fields ts } e1
  refine wpAny_setField e2 dt (by omega) (k _ ?_ ?_)
  all_goals
    have d3 := Obj.data_mapFields dt (·.setIfInBounds 1 (Value.ref h1.objs.size))
    have e3 := Heap.get?_update_self (Obj.mapFields (·.setIfInBounds 1 (Value.ref h1.objs.size))) e2 (Obj.isFreed_of_fields d3)
    have up : ∀ c o, c ≠ e → h1.get? c = some o → ((h1.push { cls := .type "traceback", dict := none, data := .fields ts }).update e (Obj.mapFields (·.setIfInBounds 1 (Value.ref h1.objs.size)))).get? c = some o := fun c o q z => by
      rw [Heap.get?_update_other _ _ (Ne.symm q)]; exact Heap.get?_push_of_some _ z
    have nr : ∀ c o, s.heap.get? c = some o → (∀ us, o.data ≠ .fields us) → c ≠ e := fun c o z nf q => by
      subst q; cases he.symm.trans z; exact nf vs dt
  · refine ⟨fun c o z => up c o (fun q => by rw [q, ne] at z; cases z) (st1 c o z), ne, ff.of_keeps fun c o z nf => ?_, ⟨_, _, h1.objs.size, _, _, ⟨e3, Obj.cls_mapFields _ _, d3, (mf_dict _ _).trans dn⟩, ⟨by rw [Array.getElem?_setIfInBounds_ne (by decide)]; exact v2, by simp [show 1 < vs.size by omega]⟩, ⟨st1.fresh, tT⟩, (Heap.get?_update_other _ _ (Ne.symm tT)).trans (Heap.get?_push_size h1 rfl), rfl, t3⟩⟩
    obtain ⟨sl, q⟩ := so.2.2 c o z
    exact ⟨_, up c _ (nr c o z nf) q, rfl⟩
  · intro c o z nf
    obtain ⟨sl, q⟩ := so.2.2 c o z
    exact ⟨sl, up c _ (nr c o z nf) q⟩
/-- the flight's mark is taken off -/
theorem offX {l : List Env} {cls fl : Value} {Q : Unit → Shared → Prop} (x : FlyX B l e cls fl s.heap) (k : ∀ h', FlyX B l e cls .none h' → s.heap.UpToSlots h' → Q () { s with heap := h' }) : wpAny M A (setFlight (.ref e) none) Q E s := by
  obtain ⟨oe, vs, T, oT, ts, ⟨a1, a2, a3, a4⟩, ⟨b1, b2⟩, ⟨c1, c2⟩, d1, d2, d3⟩ := x.tr.ex
  have t3 : 3 < ts.size := (Array.getElem?_eq_some_iff.mp d3).1
  unfold setFlight
  refine wpAny_bind (wpAny_field a1 a3 b2 ?_)
  rw [if_pos (by simp : (Value.ref T != Value.none) = true)]
  refine wpAny_setField d1 d2 t3 (k _ ?_ ?_)
  all_goals
    have ot : ∀ c, c ≠ T → (s.heap.update T (Obj.mapFields (·.setIfInBounds 3 ((none : Option Addr).elim Value.none fun f => rawInt f)))).get? c = s.heap.get? c := fun c q => Heap.get?_update_other _ _ (Ne.symm q)
    have nr : ∀ c o, s.heap.get? c = some o → (∀ us, o.data ≠ .fields us) → c ≠ T := fun c o z nf q => by
      subst q; cases d1.symm.trans z; exact nf ts d2
  · exact ⟨fun c o z => (ot c fun q => by rw [q, c1] at z; cases z).trans (x.stays c o z), x.new, x.frames.of_keeps fun c o z nf => ⟨o, (ot c (nr c o z nf)).trans z, rfl⟩,
      ⟨oe, vs, T, _, _, ⟨(ot e (Ne.symm c2)).trans a1, a2, a3, a4⟩, ⟨b1, b2⟩, ⟨c1, c2⟩, Heap.get?_update_self _ d1 (Obj.isFreed_of_fields (Obj.data_mapFields d2 _)), Obj.data_mapFields d2 _, by simp [t3]⟩⟩
  · exact fun c o z nf => ⟨o.slots, (ot c (nr c o z nf)).trans z⟩
/-- the next frame is noted -/
theorem noteX {cls : Value} {Q : Unit → Shared → Prop} (hfr : A.frames = some (env :: outer)) (hf : env.frame = some L) (x : FlyX B (env :: outer) e cls .none s.heap)
    (k : ∀ h', FlyX B (env :: outer) e cls (rawInt L) h' → s.heap.UpToSlots h' → Q () { s with heap := h' }) : wpAny M A (noteFrame (.ref e) env) Q E s := by
  obtain ⟨oe, vs, T, oT, ts, ⟨a1, a2, a3, a4⟩, ⟨b1, b2⟩, ⟨c1, c2⟩, d1, d2, d3⟩ := x.tr.ex
  subst a2
  have t3 : 3 < ts.size := (Array.getElem?_eq_some_iff.mp d3).1
  unfold noteFrame
  simp only [hf]
  refine wpAny_bind (wpAny_field a1 a3 b2 ?_)
  rw [if_pos (by simp : (Value.ref T != Value.none) = true)]
  refine wpAny_bind (wpAny_field d1 d2 d3 ?_)
  rw [if_neg (by simp [rawInt] : ¬ ((Value.none == rawInt L) = true))]
  refine wpAny_bind (wpAny_setField d1 d2 t3 ?_)
  have ot : ∀ c, c ≠ T → (s.heap.update T (Obj.mapFields (·.setIfInBounds 3 Value.none))).get? c = s.heap.get? c := fun c q => Heap.get?_update_other _ _ (Ne.symm q)
  have nr : ∀ c o, s.heap.get? c = some o → (∀ us, o.data ≠ .fields us) → c ≠ T := fun c o z nf q => by
    subst q; cases d1.symm.trans z; exact nf ts d2
  refine entX hfr hf (fun c o z => (ot c fun q => by rw [q, c1] at z; cases z).trans (x.stays c o z)) x.new (x.frames.of_keeps fun c o z nf => ⟨o, (ot c (nr c o z nf)).trans z, rfl⟩) ((ot e (Ne.symm c2)).trans a1) a3 a4 b1 fun h' f u => k h' f ?_
  exact fun c o z nf => u c o ((ot c (nr c o z nf)).trans z) nf
theorem FlyX.tail {cls fl : Value} {h : Heap} (x : FlyX B (env :: outer) e cls fl h) : FlyX B outer e cls fl h := by
  obtain ⟨a, b, ⟨_, _, c⟩, d⟩ := x
  exact ⟨a, b, c, d⟩
theorem madeX {h : Heap} {cls : Value} {args : List Value} {Q : Unit → Shared → Prop} (hfr : A.frames = some (env :: outer)) (hf : env.frame = some L) (st : B.StaysIn h) (ff : h.FunFrames B (env :: outer)) (hx : Heap.MadeExcOf h s.heap e cls args)
    (k : ∀ h', FlyX B outer e cls .none h' → s.heap.UpToSlots h' → Q () { s with heap := h' }) : wpAny M A (leaving env (.ref e)) Q E s := by
  obtain ⟨t, he, _, _⟩ := hx.there
  have nb : B.get? e = none := by
    cases q : B.get? e with
    | none => rfl
    | some o => have := st e o q; rw [hx.new] at this; cases this
  unfold leaving noteFrame
  simp only [hf]
  refine wpAny_bind (wpAny_bind (wpAny_field he rfl (x := .none) rfl ?_))
  rw [if_neg (by decide)]
  refine entX hfr hf (fun c o z => hx.keeps c o (st c o z)) nb (ff.of_keeps fun c o z _ => ⟨o, hx.keeps c o z, rfl⟩) he rfl rfl rfl fun h1 f1 u1 => ?_
  exact offX f1 fun h2 f2 u2 => k h2 f2.tail (u1.trans u2)
end
end Cv

namespace Cv
open PySem PySem.Spec PyProof.Rows L2
/-! ### an exception that flies -/
/-- from a call's entry (H, h) to the flight: B holds all that stays, frames aside; h' is the heap of the flight -/
structure UnB (fs : List Addr) (H H' : Hp) (h B h' : Heap) : Prop where
  keep : ∀ b o, h.get? b = some o → H b = none → b ∉ fs → B.get? b = some o
  slot : ∀ b o, h.get? b = some o → H b = none → b ∈ fs → ∃ sl, h'.get? b = some { o with slots := sl }
  free : ∀ b o, h.get? b = some o → H b = none → H' b = none
  there : ∀ b o, h.get? b = some o → b ∉ fs → ∃ o', B.get? b = some o'
  tups : ∀ b xs, H b = some (.tup xs) → H' b = some (.tup xs)
  frzs : ∀ b o u, H b = some (.frz o u) → H' b = some (.frz o u)
  tbls : ∀ b ps, H b = some (.tbl ps) → ∃ more, H' b = some (.tbl (ps ++ more))
theorem UnB.un {fs : List Addr} {H H' : Hp} {h B h' : Heap} (u : UnB fs H H' h B h') (hB : B.StaysIn h') (hf : ∀ b ∈ fs, H b = none) : Un fs [] H H' h h' where
  keep := fun b o e n hb _ => hB b o (u.keep b o e n hb)
  slot := fun b o e n hb _ => u.slot b o e n hb
  free := fun b o e n _ => u.free b o e n
  there := fun b o e _ => by
    by_cases hb : b ∈ fs
    · obtain ⟨sl, q⟩ := u.slot b o e (hf b hb) hb
      exact ⟨_, q⟩
    · obtain ⟨o', q⟩ := u.there b o e hb
      exact ⟨o', hB b o' q⟩
  tups := u.tups
  frzs := u.frzs
  tbls := u.tbls
/-- the flight goes on: slots may change -/
theorem UnB.on {fs : List Addr} {H H' : Hp} {h B h' h'' : Heap} (u : UnB fs H H' h B h') (hf : ∀ b ∈ fs, ∀ o, h.get? b = some o → ∀ vs, o.data ≠ .fields vs) (up : h'.UpToSlots h'') : UnB fs H H' h B h'' where
  keep := u.keep
  slot := fun b o e n hb => by
    obtain ⟨sl, q⟩ := u.slot b o e n hb
    obtain ⟨sl', q'⟩ := up b _ q (hf b hb o e)
    exact ⟨sl', q'⟩
  free := u.free
  there := u.there
  tups := u.tups
  frzs := u.frzs
  tbls := u.tbls
noncomputable def CXx (P : Program) (w : World) : CXT := fun outer H s E e s' => ∃ (x : Addr) (cls : Value) (H' : Hp) (B : Heap), e = .ref x ∧ s'.os = s.os ∧ AllBare s'.gens ∧ UnB (frs outer) H H' s.heap B s'.heap ∧
  HOk P w H' B ∧ FlyX B outer x cls .none s'.heap ∧ E cls none H'
theorem passE0 {P : Program} {w : World} {X : Cx} : Passes (CXx P w) X E0 := fun _ _ _ _ _ _ _ ⟨_, _, _, _, _, _, _, _, _, _, h⟩ => h.elim
/-- a raise in the body of X reaches what X wants -/
noncomputable def Throws (X : Cx) (E : XK) : Prop := ∀ (pins : List (Addr × Obj)) (σ : L2.St) (H : Hp) (s : Shared) (e : Addr) (h' : Heap) (cls : Value) (vs : List Value), Inv X pins σ H s → Heap.MadeExcOf s.heap h' e cls vs → E cls none H → X.xe (.ref e) { s with heap := h' }
section
variable {X : Cx} {pins : List (Addr × Obj)} {σ : L2.St} {H H' : Hp} {s : Shared}
theorem fdata (I : Inv X pins σ H s) : ∀ b ∈ frs X.stack, ∀ o, s.heap.get? b = some o → ∀ vs, o.data ≠ .fields vs := fun b hb o e vs => by
  obtain ⟨_, o', e', d⟩ := I.stack.mem hb
  rw [e] at e'
  cases e'
  exact d vs
theorem hok_hide (I : Inv X pins σ H s) : HOk X.prog X.w H (PySem.W.hideAll s.heap (frs X.stack)) := fun a o e =>
  (I.hok a o e).stay (fun b u hb q => PySem.W.hideAll_get _ q fun hm => by
    have n := I.stkFree b hm
    rcases hb with rfl | hb
    · rw [e] at n; cases n
    · rw [hb] at n; cases n) (fun _ q => q) fun _ _ q => q
/-- a new exception, seen from a frame that is to be left or that catches -/
theorem made_un (I : Inv X pins σ H s) {e : Addr} {h' : Heap} {cls : Value} {vs : List Value} (hx : Heap.MadeExcOf s.heap h' e cls vs) : UnB (frs X.stack) H H s.heap (PySem.W.hideAll s.heap (frs X.stack)) h' where
  keep := fun b o q n hb => PySem.W.hideAll_get _ q hb
  slot := fun b o q n hb => ⟨o.slots, hx.keeps b o q⟩
  free := fun _ _ _ n => n
  there := fun b o q hb => ⟨o, PySem.W.hideAll_get _ q hb⟩
  tups := fun _ _ q => q
  frzs := fun _ _ _ q => q
  tbls := fun b ps q => ⟨#[], by rw [q]; simp⟩
/-- seen from the frame's own caller -/
theorem out_un {B h' : Heap} (I : Inv X pins σ H s) (hst : X.stack = X.env :: X.outer) (hfr : X.env.frame = some X.env.locals) (hex : X.ex = []) (u : UnB (frs X.stack) H H' s.heap B h') : UnB X.fs X.H₀ H' X.s₀.heap B h' := by
  have hs : frs X.stack = X.env.locals :: X.fs := by
    rw [hst]; unfold frs; rw [List.filterMap_cons, hfr]; rfl
  have nx : ∀ b, b ∉ X.ex := fun b z => by rw [hex] at z; cases z
  have ne : ∀ b o, X.s₀.heap.get? b = some o → b ≠ X.env.locals := fun b o e => Nat.ne_of_lt (Nat.lt_of_lt_of_le (Heap.lt_size e) I.ok.above)
  have nin : ∀ b o, X.s₀.heap.get? b = some o → b ∉ X.fs → b ∉ frs X.stack := fun b o e hb z => by
    rw [hs] at z
    rcases List.mem_cons.mp z with z | z
    · exact ne b o e z
    · exact hb z
  refine ⟨fun b o e n hb => ?_, fun b o e n hb => ?_, fun b o e n => ?_, fun b o e hb => ?_, fun b xs q => u.tups b xs (I.base.tups b xs q), fun b o xs q => u.frzs b o xs (I.base.frzs b o xs q), fun b ps q => ?_⟩
  · exact u.keep b o (I.base.keep b o e n hb (nx b)) (I.base.free b o e n (nx b)) (nin b o e hb)
  · obtain ⟨sl, q⟩ := I.base.slot b o e n hb (nx b)
    obtain ⟨sl', q'⟩ := u.slot b _ q (I.base.free b o e n (nx b)) (by rw [hs]; exact List.mem_cons_of_mem _ hb)
    exact ⟨sl', q'⟩
  · obtain ⟨o', q⟩ := I.base.there b o e (nx b)
    exact u.free b o' q (I.base.free b o e n (nx b))
  · obtain ⟨o', q⟩ := I.base.there b o e (nx b)
    exact u.there b o' q (nin b o e hb)
  · obtain ⟨m1, e1⟩ := I.base.tbls b ps q
    obtain ⟨m2, e2⟩ := u.tbls b _ e1
    exact ⟨m1 ++ m2, by rw [e2, Array.append_assoc]⟩
end
section
variable {P : Program} {w : World} {K : PySem.W.Frag} {mg : Str → Option Value} {base : Heap} {N : List Str} {qual : Str} {scope : Scope} {f : Addr} {cd : Value} {A : Around} {outer : List Env} {s : Shared} {H : Hp} {E : XK}
theorem throws_cx : Throws (cxOf (CXx P w) P w K mg base N qual scope f cd A outer s H E) E := by
  intro pins σ H1 s1 e h' cls vs I hx hE
  have hfr : (cxOf (CXx P w) P w K mg base N qual scope f cd A outer s H E).A.frames = some (cxOf (CXx P w) P w K mg base N qual scope f cd A outer s H E).stack := I.ok.frames
  have st : (PySem.W.hideAll s1.heap (frs (cxOf (CXx P w) P w K mg base N qual scope f cd A outer s H E).stack)).StaysIn s1.heap := fun b o q => PySem.W.of_hideAll _ q
  have ff : s1.heap.FunFrames (PySem.W.hideAll s1.heap (frs (cxOf (CXx P w) P w K mg base N qual scope f cd A outer s H E).stack)) (cxOf (CXx P w) P w K mg base N qual scope f cd A outer s H E).stack :=
    PySem.W.funFrames_hide I.stack fun env he b hb => List.mem_filterMap.mpr ⟨env, he, hb⟩
  refine madeX hfr rfl st ff hx fun h'' x1 x4 => ?_
  have u1 := made_un I hx
  have u2 : UnB (frs (cxOf (CXx P w) P w K mg base N qual scope f cd A outer s H E).stack) H1 H1 s1.heap _ h'' := u1.on (fdata I) x4
  exact ⟨e, cls, H1, _, rfl, I.os, I.bare, out_un I rfl rfl rfl u2, hok_hide I, x1, hE⟩
end

/-! ### a def whose exceptions fly on -/
section
variable {P : Program} {w : World} {K : PySem.W.Frag} {mg : Str → Option Value} {base : Heap}
end
/-! ### the classes of refusals -/
noncomputable abbrev mroV : List Value := [.type "ValueError", .type "Exception", .type "BaseException", .type "object"]
/-- an own class of exceptions, as the top left it -/
structure XCls (K : PySem.W.Frag) (mg : Str → Option Value) (x : Str) (C : Addr) : Prop where
  bound : mg x = some (.ref C)
  obj : ∃ nm q N bs bm hdct sn sub ab col dd k0 k1 k2 k3 k5, K.lookup C = some (excClassObj nm q C N bs bm hdct sn sub ab col dd k0 k1 k2 k3 k5 "ValueError.__new__") ∧
    PySem.W.nsOkIn K N = true ∧ PySem.W.nsIn K N "__init__" = some none ∧ PySem.W.tailIn K mroV bm = true
theorem XCls.own {K : PySem.W.Frag} {mg : Str → Option Value} {x : Str} {C : Addr} {h : Heap} (c : XCls K mg x C) (X : K.In h) : OwnCls x C mroV "ValueError.__new__" mg h := by
  obtain ⟨nm, q, N, bs, bm, hdct, sn, sub, ab, col, dd, k0, k1, k2, k3, k5, l, h1, h2, h3⟩ := c.obj
  exact ⟨c.bound, bm, N, nm, q, bs, hdct, sn, sub, ab, col, dd, k0, k1, k2, k3, k5, _, X _ _ l, .of_isNs (PySem.W.isNs_of_in X h1), PySem.W.nsMap_none_of_in X h1 h2, PySem.W.tail_of_in X h3⟩
section
variable {X : Cx} {x : Str} {C : Addr} {np cpos pos : Pos} {E : XK} {e₀ : Expr} {ta : TA}
/-- raise x(e₀) -/
noncomputable def tRaise (E : XK) (C : Addr) (ta : TA) : TS := fun _ σ H => ta σ H fun vs H1 => vs.length ≤ sizeLine ∧ E (.ref C) none H1
theorem ps_raise (th : Throws X E) (c : XCls X.K X.mg x C) (ha : PA X [e₀] ta) (hc : X.calm = true := by rfl) (hg : Gl X x := by rfl) (he : starEach [e₀] X.env = [(false, eval e₀ X.env)] := by rfl)
    (hd : (x == ("__debug__" : Str)) = false := by decide) : PS X (.Raise (some (.Call (.Name x np) [e₀] [] cpos)) none pos) (tRaise E C ta) := by
  intro pins s σ H D I h
  have O : OwnCls x C mroV "ValueError.__new__" X.mg s.heap := c.own I.kIn
  obtain ⟨tl, N, nm, q, bs, hdct, sn, sub, ab, col, dd, k0, k1, k2, k3, k5, mN, hC, hN, hni, T⟩ := O.obj
  obtain ⟨tl', N', nm', q', bs', hdct', sn', sub', ab', col', dd', k0', k1', k2', k3', k5', mN', hC', hN', hni', T'⟩ := (c.own I.mod.kin).obj
  have FB := PySem.F.excBase_ValueError
  refine wpAny_Raise_call_subT (C := C) (nm := nm') (q := q') (N := N') (bs := bs') (bm := tl') (hdct := hdct') (sn := sn') (sub := sub') (ab := ab') (col := col') (dd := dd') (k0 := k0') (k1 := k1') (k2 := k2') (k3 := k3') (k5 := k5')
    FB (mN := mN') (T'.hasType FB.hasBase) (I.ok.hd hc) (by rw [he]; rfl) hni' (ld_glob I hg c.bound ⟨rfl, ?_⟩ hd)
  have h2 := ha cpos pins s σ H _ I h
  rw [he] at h2 ⊢
  exact Calls.evalArgs_plain (wpAny_mono h2 (fun us s2 ⟨vs, H2, I2, r, hz, hE⟩ => ⟨rfl, (by rw [← r.length]; exact hz), I2.bk _ _ hC', hN'.keeps I2.bk, T'.keeps I2.bk, fun h' e hm => th pins σ H2 s2 e h' _ _ I2 hm hE⟩) fun _ _ y => y)
end

/-! ### try, except C as n -/
theorem obj_some {P : Program} {w : World} {H : Hp} {h : Heap} {a : Addr} {o : HO} (x : ObjOk P w H h a o) : ∃ ob, h.get? a = some ob := by
  induction o with
  | lst xs => obtain ⟨_, _, _, _, e⟩ := x; exact ⟨_, e⟩
  | tup xs => obtain ⟨_, _, _, _, e, _⟩ := x; exact ⟨_, e⟩
  | dK kvs => obtain ⟨_, _, _, _, _, _, _, e, _⟩ := x; exact ⟨_, e⟩
  | dT kvs => obtain ⟨_, _, _, _, _, _, _, e, _⟩ := x; exact ⟨_, e⟩
  | set S n => obtain ⟨_, _, _, _, e, _⟩ := x; exact ⟨_, e⟩
  | ins C dx fs => obtain ⟨_, _, _, e, _⟩ := x; exact ⟨_, e⟩
  | own y => exact x
  | xd fs => obtain ⟨_, ⟨_, _, _, e, _⟩, _⟩ := x; exact ⟨_, e⟩
  | rng lo hi => obtain ⟨_, _, _, e⟩ := x; exact ⟨_, e⟩
  | frz ob u _ => exact ⟨_, x.1⟩
  | tbl ps => exact ⟨_, x⟩
  | met f y => exact ⟨_, x⟩
  | ext p => exact x.2.1
noncomputable abbrev tryX (X : Cx) (xe : Value → Shared → Prop) (pn : List (Addr × Obj)) : Cx := { X with xe := xe, pn := pn }
noncomputable abbrev suiteX (X : Cx) (x : Addr) : Cx := { X with A := X.A.mark (some (.ref x)), calm := false, xe := fun _ _ => False }
section
variable {X : Cx} {pins pins' : List (Addr × Obj)} {σ : L2.St} {H H' : Hp} {s : Shared}
theorem toTry (I : Inv X pins σ H s) (xe : Value → Shared → Prop) : Inv (tryX X xe (X.pn ++ pins)) pins σ H s :=
  ⟨⟨I.ok.mod, I.ok.kind, I.ok.glob, I.ok.blt, I.ok.above, I.ok.inj, I.ok.has, I.ok.cab, I.ok.hd, I.ok.frames, I.ok.stk, I.ok.exf, I.ok.bs, I.ok.bsz, I.ok.noex, I.ok.exfs, I.ok.funs, I.ok.frf⟩,
    I.os, I.bare, I.base, I.loc, I.cell, I.free, I.freeC, fun p hp => I.pin p ((List.mem_append.mp hp).elim id fun z => List.mem_append_right _ z), I.hok, I.len⟩
theorem ofTry {xe : Value → Shared → Prop} (I : Inv (tryX X xe (X.pn ++ pins)) pins' σ H s) : Inv X pins σ H s :=
  ⟨⟨I.ok.mod, I.ok.kind, I.ok.glob, I.ok.blt, I.ok.above, I.ok.inj, I.ok.has, I.ok.cab, I.ok.hd, I.ok.frames, I.ok.stk, I.ok.exf, I.ok.bs, I.ok.bsz, I.ok.noex, I.ok.exfs, I.ok.funs, I.ok.frf⟩,
    I.os, I.bare, I.base, I.loc, I.cell, I.free, I.freeC, fun p hp => I.pin p (List.mem_append_left _ hp), I.hok, I.len⟩
theorem toSuite (I : Inv X pins σ H s) (x : Addr) : Inv (suiteX X x) pins σ H s :=
  ⟨⟨I.ok.mod, I.ok.kind, I.ok.glob, I.ok.blt, I.ok.above, I.ok.inj, I.ok.has, I.ok.cab, fun z => absurd z Bool.false_ne_true, I.ok.frames, I.ok.stk, I.ok.exf, I.ok.bs, I.ok.bsz, I.ok.noex, I.ok.exfs, I.ok.funs, I.ok.frf⟩,
    I.os, I.bare, I.base, I.loc, I.cell, I.free, I.freeC, I.pin, I.hok, I.len⟩
theorem ofSuite {x : Addr} (hd : X.calm = true → X.A.handled = none) (I : Inv (suiteX X x) pins σ H s) : Inv X pins σ H s :=
  ⟨⟨I.ok.mod, I.ok.kind, I.ok.glob, I.ok.blt, I.ok.above, I.ok.inj, I.ok.has, I.ok.cab, hd, I.ok.frames, I.ok.stk, I.ok.exf, I.ok.bs, I.ok.bsz, I.ok.noex, I.ok.exfs, I.ok.funs, I.ok.frf⟩,
    I.os, I.bare, I.base, I.loc, I.cell, I.free, I.freeC, I.pin, I.hok, I.len⟩
/-- the frame's names are forgotten -/
theorem inv_forget {h' : Heap} {m' : Str → Option Value} {tk : Nat} (I : Inv X pins σ H s) (hn : h'.Ns X.env.locals m') (hs : Heap.SameBut X.env.locals s.heap h') : Inv X pins (List.replicate X.N.length none) H { s with heap := h', toks := tk } := by
  have old : ∀ b o, X.s₀.heap.get? b = some o → b ≠ X.env.locals := fun b o e => Nat.ne_of_lt (Nat.lt_of_lt_of_le (Heap.lt_size e) I.ok.above)
  refine ⟨I.ok, I.os, I.bare, ⟨fun b o e n hb hx => (hs.2 b (old b o e)).trans (I.base.keep b o e n hb hx), fun b o e n hb hx => ?_, I.base.free, fun b o e hx => ?_, I.base.tups, I.base.frzs, I.base.tbls⟩,
    ⟨m', hn, fun i y v _ e2 _ => ?_⟩, fun y c e => ?_, I.free, I.freeC, fun p hp => ?_, fun b o e => ?_, List.length_replicate⟩
  · obtain ⟨sl, q⟩ := I.base.slot b o e n hb hx
    exact ⟨sl, (hs.2 b (old b o e)).trans q⟩
  · obtain ⟨o', q⟩ := I.base.there b o e hx
    exact ⟨o', (hs.2 b (old b o e)).trans q⟩
  · rw [List.getElem?_replicate] at e2
    split at e2 <;> cases e2
  · obtain ⟨v, z⟩ := I.cell y c e
    exact ⟨v, z.sameBut hs (I.cne y c e)⟩
  · obtain ⟨e, n, ne, nf, d⟩ := I.pin p hp
    exact ⟨(hs.2 p.1 ne).trans e, n, ne, nf, d⟩
  · refine (I.hok b o e).stay (fun c u hc q => (hs.2 c fun z => ?_).trans q) (fun _ q => q) fun _ _ q => q
    have fr := I.free
    rcases hc with hc | hc
    · rw [← z, hc, e] at fr; cases fr
    · rw [← z, hc] at fr; cases fr
end
/-- an exception that was caught -/
noncomputable def ExcO (x : Addr) (cls : Value) : HO := .ext fun h => ∃ o vs, h.get? x = some o ∧ o.cls = cls ∧ o.data = .fields vs ∧ vs[2]? = some .none ∧ o.dict = none
noncomputable def tTry (K : PySem.W.Frag) (n : Nat) (SC : Addr) (tb : XK → TS) (ts : Addr → TS) : TS := fun D σ H => ∃ Ex : XK, tb Ex D σ H ∧ ∀ cls x H' (σ' : L2.St), Ex cls none H' → H' x = none → σ'.length = σ.length →
  PySem.W.exmOne K cls (.ref SC) = some true ∧ ts x { nx := fun _ _ => False, rt := D.rt } (σ'.set n (some (.ref x))) (upd H' x (ExcO x cls))
section
variable {X : Cx}
theorem ps_try1 {n : Nat} {nm c : Str} {SC : Addr} {body : List Stmt} {b0 : Stmt} {suite : List Stmt} {np hpos pos : Pos} {tb : XK → TS} {ts : Addr → TS} (cb : X.mg c = some (.ref SC)) (hN : X.N.Nodup)
    (hb : ∀ xe pn Ex, Passes (CXx X.prog X.w) (tryX X xe pn) Ex → PSs (tryX X xe pn) body (tb Ex)) (hs : ∀ x, PSs (suiteX X x) (b0 :: suite) (ts x))
    (hi : X.N[n]? = some nm := by rfl) (hx : X.env.scope.names.lookup nm = some .local := by rfl) (hg : Gl X c := by rfl) (hst : X.stack = X.env :: X.outer := by rfl) (hfr : X.env.frame = some X.env.locals := by rfl)
    (hd : (c == ("__debug__" : Str)) = false := by decide) :
    PS X (.Try body [.ExceptHandler (some (.Name c np)) (some nm) (b0 :: suite) hpos] [] [] pos) (tTry X.K n SC tb ts) := by
  intro pins s σ H D I hread
  obtain ⟨Ex, hbd, hcat⟩ := hread
  refine wpAny_Try_except ?_
  have hp : Passes (CXx X.prog X.w) (tryX X (fun e s₁ => wpAny (model X.prog X.w) X.A (noteFrame e X.env) (fun _ s₂ => wpAny (model X.prog X.w) X.A (setFlight e none) (fun _ s₃ =>
      wpAny (model X.prog X.w) X.A (handleBy e X.env [.ExceptHandler (some (.Name c np)) (some nm) (b0 :: suite) hpos]) (SP X pins D) X.xe s₃) X.xe s₂) X.xe s₁) (X.pn ++ pins)) Ex := by
    rintro pins' σ1 H1 s1 e s' J ⟨x, cls, H', B, rfl, hos, hba, u, hok, hfl, hE⟩
    show wpAny (model X.prog X.w) X.A (noteFrame (.ref x) X.env) _ _ s'
    have hfl' : FlyX B (X.env :: X.outer) x cls .none s'.heap := by rw [← hst]; exact hfl
    have hfr' : X.A.frames = some (X.env :: X.outer) := by rw [← hst]; exact J.ok.frames
    have hBx : B.get? x = none := hfl.new
    have hHx : H' x = none := by
      cases q : H' x with
      | none => rfl
      | some o =>
        obtain ⟨ob, z⟩ := obj_some (hok x o q)
        rw [hBx] at z; cases z
    have hnew : ∀ o, s1.heap.get? x = some o → False := fun o e => by
      by_cases hm : x ∈ frs X.stack
      · obtain ⟨_, o', e', d⟩ := J.stack.mem hm
        obtain ⟨sl, q⟩ := u.slot x o' e' (J.stkFree x hm) hm
        obtain ⟨oe, vs, he, _, hde, _⟩ := hfl.there
        rw [q] at he
        cases he
        exact d vs hde
      · obtain ⟨o', q⟩ := u.there x o e hm
        rw [hBx] at q; cases q
    have un6 : ∀ h6, B.StaysIn h6 → s'.heap.UpToSlots h6 → Un (frs X.stack) [] H1 H' s1.heap h6 := fun h6 hB up => (u.on (fdata J) up).un hB J.stkFree
    have back : ∀ h6, B.StaysIn h6 → s'.heap.UpToSlots h6 → Inv X pins σ1 H' { s' with heap := h6 } := fun h6 hB up =>
      ofTry (J.call' (s' := { s' with heap := h6 }) (ch := []) hos (un6 h6 hB up) (hok.kept hB) hba fun b z => nomatch z)
    refine noteX hfr' hfr hfl' fun h4 held up4 => ?_
    refine offX held fun h5 fl5 up5 => ?_
    have up45 := up4.trans up5
    have I5 := back h5 fl5.stays up45
    have cat := hcat cls x H' σ1 hE hHx (J.len.trans I.len.symm)
    refine wpAny_handleBy_cons (codeAny_handlers_test ?_) (by intro q; cases q)
    refine ld_glob (X := suiteX X x) (toSuite I5 x) hg cb ?_ hd
    obtain ⟨oe, _, he, hcl, _⟩ := fl5.there
    have LT : PySem.W.Looks (model X.prog X.w) h5 (typeOf (.ref x)) cls := by
      subst hcl
      exact (PySem.W.Looks.ld he).andThen .now
    refine (PySem.W.exm_one (M := model X.prog X.w) I5.kIn LT cat.1).here ?_
    refine codeAny_handlers_suite_as ?_
    refine offX fl5 fun h6 fl6 up6 => ?_
    have up456 := up45.trans up6
    have hok6 : HOk X.prog X.w H' h6 := hok.kept fl6.stays
    obtain ⟨oe6, vs6, he6, hcl6, hd6, hn6⟩ := fl6.there
    have I6 : Inv X pins σ1 (upd H' x (ExcO x cls)) { s' with heap := h6 } := by
      have u6 := un6 h6 fl6.stays up456
      refine ofTry (J.call' (s' := { s' with heap := h6 }) (ch := []) hos ⟨u6.keep, u6.slot, fun b o e nn hx' => ?_, u6.there, fun b xs q => ?_, fun b o v q => ?_, fun b ps q => ?_⟩ (fun b o q => ?_) hba fun b z => nomatch z)
      · rw [upd_ne (fun z => by rw [z] at e; exact hnew o e)]; exact u6.free b o e nn hx'
      · rw [upd_ne (ne_of_none (u6.tups b xs q) hHx)]; exact u6.tups b xs q
      · rw [upd_ne (ne_of_none (u6.frzs b o v q) hHx)]; exact u6.frzs b o v q
      · obtain ⟨more, z⟩ := u6.tbls b ps q
        exact ⟨more, by rw [upd_ne (ne_of_none z hHx)]; exact z⟩
      · by_cases hbx : b = x
        · subst hbx
          rw [upd_same] at q
          cases q
          exact ⟨⟨oe6, vs6, he6, hcl6, hd6, hn6⟩, ⟨oe6, he6⟩, fun h1 h2 ⟨o1, v1, e1, c1⟩ k => ⟨o1, v1, k o1 e1, c1⟩⟩
        · rw [upd_ne hbx] at q
          exact (hok6 b o q).stay (fun _ _ _ z => z) (fun c' z => by rw [upd_ne (ne_of_none z hHx)]; exact z) fun c' ys z => by rw [upd_ne (ne_of_none z hHx)]; exact z
    refine store_ok (X := suiteX X x) (toSuite I6 x) hN hi (.inl hx) (v := .ref x) rfl (fun s7 I7 => ?_) (.inr hx)
    refine wpAny_mono (hs x pins s7 _ _ _ I7 cat.2) (fun f s8 h8 => ?_) fun _ _ hf => hf.elim
    have hcls : (X.env.scope.kind == .class || (X.env.scope.kind == .module && X.env.locals != X.env.globals)) = false := by rw [I.ok.kind]; rfl
    cases f with
    | ret v =>
      obtain ⟨v', σ8, H8, J8, rv, q8⟩ := h8
      obtain ⟨m, hn, _⟩ := J8.loc
      refine wpAny_nameGoes hx hn hcls fun h' m' hn' hsb => ?_
      exact ⟨v', _, H8, inv_forget (ofSuite I.ok.hd J8) hn' hsb, rv, q8⟩
    | next => obtain ⟨_, _, _, q8⟩ := h8; exact q8.elim
    | brk => obtain ⟨_, _, _, q8⟩ := h8; exact q8.elim
    | cont => obtain ⟨_, _, _, q8⟩ := h8; exact q8.elim
  refine wpAny_mono (hb _ _ Ex hp pins s σ H D (toTry I _) hbd) (fun f s1 h1 => ?_) fun _ _ h => h
  cases f with
  | next => obtain ⟨σ', H', J, d⟩ := h1; exact wpAny_execs_nil ⟨σ', H', ofTry J, d⟩
  | brk => obtain ⟨σ', H', J, d⟩ := h1; exact ⟨σ', H', ofTry J, d⟩
  | cont => obtain ⟨σ', H', J, d⟩ := h1; exact ⟨σ', H', ofTry J, d⟩
  | ret v => obtain ⟨v', σ', H', J, r, d⟩ := h1; exact ⟨v', σ', H', ofTry J, r, d⟩
end
end Cv

namespace Cv
open PySem PySem.Spec PyProof.Rows L2
/-! ### isinstance of a caught exception -/
/-- what is told of a class of exceptions, for what is none of another one -/
structure XNot (K : PySem.W.Frag) (C : Addr) : Prop where
  hg : PySem.W.findIn K (.ref C) "__getattribute__" = some (some (.builtin "BaseException.__getattribute__"))
  hk : PySem.W.findIn K (.ref C) "__getattr__" = some none
  hd : (PySem.W.clsIn K C).isSome = true
  ha : PySem.W.findIn K (.ref C) "__class__" = some (some (.builtin "object.__class__"))
  hn : PySem.W.specialIn K (.builtin "object.__class__") "__get__" = some (some (.builtin "getset_descriptor.__get__"))
  ht : PySem.W.takesIn K (.builtin "object.__class__") = some true
  hm : PySem.W.mroIn K C (.type "object") = some true
  hb : PySem.W.mroIn K C (.type "BaseException") = some true
theorem exc_cls {K : PySem.W.Frag} {x C : Addr} {prog : Program} {w : World} {A : Around} {E : Value → Shared → Prop} {s : Shared} {o : Obj} {Q : Option Value → Shared → Prop} (n : XNot K C) (KX : K.In s.heap) (I : PySem.W.InstAt s.heap x o C none)
    (hf : PySem.W.findObj K C none "__class__" = some (.bind (.builtin "getset_descriptor.__get__") (.builtin "object.__class__"))) (h : Q (some (.ref C)) { s with toks := s.toks + 1 }) : wpAny (model prog w) A (getAttr? (.ref x) "__class__") Q E s := by
  obtain ⟨hh, g, d, t, os⟩ := s
  have L0 := I.type (M := model prog w)
  have L1 := PySem.W.looks_findIn (M := model prog w) KX n.hg
  have L2 := PySem.W.looks_findIn (M := model prog w) KX n.hk
  have L3 := PySem.W.looks_find (M := model prog w) KX I hf
  have L4 := PySem.W.looks_mroIn (M := model prog w) KX n.hb
  have hx2 : (Value.builtin "BaseException.__getattribute__" == Value.builtin "object.__getattribute__") = false := by decide +kernel
  have hx1 : (onTheHeap (Value.ref C) && Value.builtin "BaseException.__getattribute__" == Value.builtin "object.__getattribute__") = false := by rw [hx2]; rfl
  have hb := F.excAttr_ValueError.ga.bind (.ref x)
  unfold getAttr? getAttrBy? getAttrBy
  refine wpAny_bind (wpAny_mkText (wpAny_bind (wpAny_attempt (wpAny_holding (wpAny_bind (L0.at (wpAny_bind (L1.at ?_))))))))
  dsimp only
  rw [hx1, if_neg Bool.false_ne_true]
  unfold getAttrByItsOwn hookBefore
  refine wpAny_bind (L2.at ?_)
  refine wpAny_bind (wpAny_attempt (wpAny_holding ?_))
  unfold callGetattribute boundAndCalled
  rw [Bool.false_and, if_neg Bool.false_ne_true, hb]
  refine wpAny_bind (wpAny_pure ?_)
  refine wpAny_call (codeAny_call_builtin F.excAttr_ValueError.ga.plain F.entry_bexc_ga ?_)
  have hk : builtinKind "BaseException.__getattribute__" = some .slot := by decide +kernel
  have hsp : splitId "BaseException.__getattribute__" = some ("BaseException", "__getattribute__") := by decide +kernel
  have hz := F.args_bexc_ga (.ref x) (.str "__class__" t)
  simp only [checkBuiltinCall, hk, hsp]
  refine wpAny_bind ?_
  unfold isInstance
  refine wpAny_bind (L0.at (L4.at ?_))
  repeat wp_step
  refine wpAny_loadPart I.at_ (wpAny_pure ?_)
  rw [I.cls]
  refine wpAny_bind (L3.at ?_)
  unfold Builtin.ObjectAttr.bindTo
  dsimp only
  refine wpAny_bind (wpAny_holding (wpAny_call (PySem.W.class_get (s := { heap := hh, gens := g, drawn := d, toks := t + 1, os := os }) (ox := o) (od := none) KX I n.hm ?_)))
  refine wpAny_pure ?_
  exact PySem.W.handed_on rfl (wpAny_pure h)
/-- an exception of an own class, as it lies there -/
noncomputable def XAt (x C : Addr) (h : Heap) : Prop := ∃ o vs, h.get? x = some o ∧ o.cls = .ref C ∧ o.data = .fields vs ∧ vs[2]? = some .none ∧ o.dict = none
theorem XAt.inst {x C : Addr} {h : Heap} (p : XAt x C h) : ∃ o, PySem.W.InstAt h x o C none := by
  obtain ⟨o, vs, a, b, c, _, d⟩ := p
  exact ⟨o, a, b, by unfold PySem.W.notCls; rw [c], by rw [d]; exact True.intro⟩
theorem cls_some {K : PySem.W.Frag} {C : Addr} (h : (PySem.W.clsIn K C).isSome = true) : ∃ c d cd sl, K.lookup C = some ⟨c, d, .cls cd, sl⟩ := by
  obtain ⟨cd, hc⟩ := Option.isSome_iff_exists.mp h
  unfold PySem.W.clsIn at hc
  split at hc
  · exact ⟨_, _, _, _, by assumption⟩
  · cases hc
theorem kitx_exc {K : PySem.W.Frag} {x C : Addr} (n : XNot K C) : PySem.W.KitX K (.ref x) (.ref C) (XAt x C) where
  ty := fun _ _ _ p => by obtain ⟨o, I⟩ := p.inst; exact I.type
  it := fun _ _ KX _ => by
    obtain ⟨c, d, cd, sl, hk⟩ := cls_some n.hd
    intro A' Q' E' s' kk q
    unfold isType loadHead
    exact wpAny_bind (wpAny_loadPart (kk _ _ (KX _ _ hk)) (wpAny_pure q))
  ne := fun h tp dd its m sl KX e => by
    obtain ⟨c, d, cd, sl', hk⟩ := cls_some n.hd
    refine Bool.eq_false_iff.mpr fun q => ?_
    cases Value.ref.inj (beq_iff_eq.mp q)
    cases (KX _ _ hk).symm.trans e
  ca := fun {_ _ _ _ _ s} KX p q => by
    obtain ⟨o, I⟩ := p.inst
    obtain ⟨c, d, cd, sl', hk⟩ := cls_some n.hd
    have hf : PySem.W.findObj K C none "__class__" = some (.bind (.builtin "getset_descriptor.__get__") (.builtin "object.__class__")) := by
      have hc : PySem.W.clsIn K C = some cd := by unfold PySem.W.clsIn; rw [hk]
      unfold PySem.W.findObj
      rw [hc, Option.bind_some, n.ha, Option.bind_some]
      simp [n.hn, n.ht]
    exact exc_cls n KX I hf q
section
variable {X : Cx}
/-- a class, as a value: one of the text's or a built-in one -/
noncomputable def clsOf : V → Option Value
  | .ref a => some (.ref a)
  | .ty n => some (.type n)
  | _ => none
theorem clsOf_rel {y : V} {c v : Value} (e : clsOf y = some c) (r : RelV y v) : v = c := by
  cases y with
  | ref a => cases e; exact r
  | ty n => cases e; exact r
  | _ => cases e
theorem call_isx : CallR X (.builtin "isinstance") (fun xs H Q => ∃ x C y c b, xs = [.ref x, y] ∧ H x = some (ExcO x (.ref C)) ∧ clsOf y = some c ∧ XNot X.K C ∧ PySem.W.kitOne X.K (.ref C) c = some b ∧ Q (.bl b) H) := by
  intro pins s σ H xs us Q I r h
  obtain ⟨x, C, y, c, b, rfl, hx, ry, n, e, q⟩ := h
  obtain ⟨u, v, rfl, ru, rv⟩ := vals_two r
  cases ru
  cases clsOf_rel ry rv
  have hO : XAt x C s.heap := (I.hok x _ hx).1
  exact PySem.W.kia_one (kitx_exc n) I.kIn hO e (fun z => nomatch z) fun tk => ⟨.bl b, H, I.tok tk, rfl, q⟩
end
end Cv
namespace Cv
open PySem PySem.Spec PyProof.Rows L2
/-! ### promises with refusals -/
theorem Bd.zero : Bd 4000 (0 : Rat) := ⟨Sz.zero.mono (by decide), Sz.one.mono (by decide)⟩
theorem Bd.one : Bd 4000 (1 : Rat) := ⟨Sz.one.mono (by decide), Sz.one.mono (by decide)⟩
theorem kit_self (K : PySem.W.Frag) (a : Addr) : PySem.W.kitOne K (.ref a) (.ref a) = some true := by
  unfold PySem.W.kitOne
  rw [if_pos (beq_self_eq_true _)]
end Cv

namespace Cv
open PySem PySem.Spec PyProof.Rows L2
/-! ### a list comprehension: one clause, no test -/
noncomputable abbrev cxComp (X : Cx) (scope : Scope) (cl : List (Str × Addr)) (Nc : List Str) (C : Addr) (s0 : Shared) (H0 : Hp) (fp : List Addr) : Cx where
  prog := X.prog
  w := X.w
  K := X.K
  mg := X.mg
  base := X.base
  A := X.A
  N := Nc
  s₀ := s0
  H₀ := H0
  env := compEnvC scope cl C X.env
  outer := X.stack
  stack := X.stack
  ex := fp
  fn := fun _ => false
  calm := X.calm
  pn := []
  xe := fun _ _ => False
noncomputable def capd (σ : L2.St) (ix : List Nat) : L2.St := ix.map fun j => (σ[j]?).getD none
section
variable {X : Cx}
end
end Cv

namespace Cv
open PySem PySem.Spec PyProof.Rows L2
/-! ### closures of a comprehension's block -/
theorem closure_go {env : Env} : ∀ (names : List (Str × NameKind)) (acc : List (Str × Addr)), (∀ y ∈ names, y.2 = .free → ∃ c, env.cells.lookup y.1 = some c) →
    ∃ cl, (forIn names acc fun (x : Str × NameKind) (r : List (Str × Addr)) => if (x.2 == NameKind.free) = true then (do let c ← cellOf env x.1; pure (ForInStep.yield ((x.1, c) :: r))) else pure (ForInStep.yield r) : Sem (List (Str × Addr))) = pure cl ∧
      ((∀ y c, acc.lookup y = some c → env.cells.lookup y = some c) → ∀ y c, cl.lookup y = some c → env.cells.lookup y = some c) ∧
      (∀ y, (∃ c, acc.lookup y = some c) → ∃ c, cl.lookup y = some c) ∧ ∀ y ∈ names, y.2 = .free → ∃ c, cl.lookup y.1 = some c
  | [], acc, _ => ⟨acc, by simp, fun h => h, fun _ h => h, fun _ h => nomatch h⟩
  | (n, k) :: r, acc, h => by
    rw [List.forIn_cons]
    by_cases hk : k = .free
    · subst hk
      obtain ⟨c, hc⟩ := h (n, .free) (.head _) rfl
      obtain ⟨cl, e, h1, h2, h3⟩ := closure_go (env := env) r ((n, c) :: acc) fun y hy => h y (.tail _ hy)
      refine ⟨cl, ?_, fun ha => h1 fun y d hd => ?_, fun y hy => h2 y ?_, fun y hy hf => ?_⟩
      · have ec : cellOf env n = pure c := by
          unfold cellOf
          have hc' : env.cells.lookup n = some c := hc
          rw [hc']
        simp only [ec]
        exact e
      · rw [List.lookup_cons] at hd
        by_cases hy : y == n
        · rw [hy] at hd
          cases hd
          rw [eq_of_beq hy]; exact hc
        · rw [Bool.not_eq_true] at hy
          rw [hy] at hd
          exact ha y d hd
      · rw [List.lookup_cons]
        by_cases hyn : y == n
        · rw [hyn]; exact ⟨_, rfl⟩
        · rw [Bool.not_eq_true] at hyn
          rw [hyn]; exact hy
      · rcases List.mem_cons.mp hy with rfl | hy
        · exact h2 n ⟨c, by rw [List.lookup_cons]; simp⟩
        · exact h3 y hy hf
    · obtain ⟨cl, e, h1, h2, h3⟩ := closure_go (env := env) r acc fun y hy => h y (.tail _ hy)
      refine ⟨cl, ?_, h1, h2, fun y hy hf => ?_⟩
      · have hk' : (k == NameKind.free) = false := by
          cases k <;> first | rfl | exact absurd rfl hk
        simp only [hk']
        exact e
      · rcases List.mem_cons.mp hy with rfl | hy
        · exact absurd hf hk
        · exact h3 y hy hf
theorem closure_of {scope : Scope} {env : Env} (h : ∀ y ∈ scope.names, y.2 = .free → ∃ c, env.cells.lookup y.1 = some c) :
    ∃ cl, closureFor scope env = pure cl ∧ (∀ y c, cl.lookup y = some c → env.cells.lookup y = some c) ∧ ∀ y ∈ scope.names, y.2 = .free → ∃ c, cl.lookup y.1 = some c := by
  obtain ⟨cl, e, h1, _, h3⟩ := closure_go (env := env) scope.names [] h
  refine ⟨cl, ?_, h1 (fun _ _ z => nomatch z), h3⟩
  unfold closureFor
  have := congrArg (fun (m : Sem (List (Str × Addr))) => m >>= fun r => pure r) e
  first
    | exact e
    | simpa using e
    | (simp only [bind_pure] at this ⊢; exact this)
/-- the names of the block, by their kinds in the def around it -/
theorem relabel_lookup {env : Env} : ∀ {names : List (Str × NameKind)} {y : Str} {k : NameKind}, (∀ z ∈ names, z.2 ≠ .cell) →
    (names.map fun (n, k) => if (k == NameKind.free && env.scope.kind == .function && env.kindOf n == some .cell) then (n, NameKind.cell) else (n, k)).lookup y = some k → (k = .cell ∨ k = .free) → (y, NameKind.free) ∈ names
  | [], _, _, _, h, _ => by simp at h
  | (n, q) :: r, y, k, hc, h, hk => by
    rw [List.map_cons] at h
    by_cases hy : y == n
    · have e : y = n := eq_of_beq hy
      subst e
      by_cases ht : (q == NameKind.free && env.scope.kind == .function && env.kindOf y == some .cell) = true
      · have : q = .free := by
          simp only [Bool.and_eq_true] at ht
          exact eq_of_beq ht.1.1
        rw [this]; exact .head _
      · simp only [ht] at h
        rw [List.lookup_cons] at h
        simp at h
        subst h
        rcases hk with rfl | rfl
        · exact absurd rfl (hc _ (.head _))
        · exact .head _
    · rw [Bool.not_eq_true] at hy
      refine .tail _ (relabel_lookup (env := env) (fun z hz => hc z (.tail _ hz)) ?_ hk)
      by_cases ht : (q == NameKind.free && env.scope.kind == .function && env.kindOf n == some .cell) = true
      · simp only [ht] at h
        rw [List.lookup_cons] at h
        have h' := h
        (simp [hy] at h'; simpa using h')
      · simp only [ht] at h
        rw [List.lookup_cons] at h
        have h' := h
        (simp [hy] at h'; simpa using h')
section
variable {prog : Program} {w : World} {A : Around} {R : Result → Shared → Prop} {s : Shared}
theorem compLoop_listG {elt target iter : Expr} {scope : Scope} {pos : Pos} {it acc : Value} {env : Env} (I : Nat → Shared → Prop)
    (turn : ∀ n s, I n s → wpAny (model prog w) A (pyNext it) (fun r s₁ => match r with
      | none => R (.ok .next) s₁
      | some v => wpAny (model prog w) A (letOwnedTupleGo target it v) (fun _ s₁' => wpAny (model prog w) A (assign target env v) (fun _ s₂ => wpAny (model prog w) A (eval elt env) (fun x s₃ =>
          wpAny (model prog w) A (call (.builtin "list.append") [acc, x]) (fun _ s₄ => ∃ m, m < n ∧ I m s₄) (notedBy (model prog w) A env fun e s' => R (.error e) s') s₃)
          (notedBy (model prog w) A env fun e s' => R (.error e) s') s₂) (notedBy (model prog w) A env fun e s' => R (.error e) s') s₁') (notedBy (model prog w) A env fun e s' => R (.error e) s') s₁) (notedBy (model prog w) A env fun e s' => R (.error e) s') s)
    (n : Nat) (h : I n s) :
    codeAny (model prog w) A (.compLoop (.ListComp elt [⟨target, iter, [], 0⟩] scope pos) 0 it acc env) R s := by
  refine codeAny_loop rfl I (fun n s hI => ?_) n h
  show wpAny _ _ ((compTurn (.ListComp elt [⟨target, iter, [], 0⟩] scope pos) 0 it acc env).onRaise (fun x => do noteFrame x env; theTreesLotGoes x)) _ _ s
  refine wpAny_noted ?_
  rw [compTurn_list1]
  refine wpAny_bind (wpAny_standAt (wpAny_bind (wpAny_mono (turn n s hI) (fun r s₁ h₁ => ?_) fun _ _ h' => h')))
  cases r with
  | none => exact wpAny_pure h₁
  | some v =>
    refine wpAny_bind (wpAny_mono h₁ (fun _ s₁' h₁' => ?_) fun _ _ h' => h')
    exact wpAny_bind (wpAny_mono h₁' (fun _ s₂ h₂ => wpAny_bind (wpAny_bind (wpAny_mono h₂ (fun x s₃ h₃ => wpAny_bind (wpAny_mono h₃
      (fun _ s₄ h₄ => wpAny_pure (wpAny_pure ⟨rfl, h₄⟩)) fun _ _ h' => h')) fun _ _ h' => h'))) fun _ _ h' => h')
end
noncomputable def CompGoal (k : Nat) (J : It) (H1 : Hp) (g : TG) (te : TE) (cs : L2.St) (Q : VK) : Prop := ∀ D, H1 D = none → ∃ W : Nat → Nat → List V → Hp → Prop, (∃ m, W 0 m [] (upd H1 D (.lst []))) ∧
  ∀ i m ys H2, W i m ys H2 → (J.stop i H2 ∧ Q (.ref D) H2) ∨ (J.go i H2 ∧ ∀ x H', J.yld i H2 x H' → ∀ own : L2.St, own.length = k → g x (own ++ cs) H' fun σ2 H4 => (∃ own' : L2.St, own'.length = k ∧ σ2 = own' ++ cs) ∧
    te σ2 H4 fun v H3 => H3 D = some (.lst ys) ∧ ys.length < sizeLine ∧ ∃ m', m' < m ∧ W (i + 1) m' (ys ++ [v]) (upd H3 D (.lst (ys ++ [v]))))
noncomputable def tCompG (k : Nat) (wi : TI) (g : TG) (te : TE) (ix : List Nat) : TE := fun σ H Q => wi σ H fun J H1 => CompGoal k J H1 g te (capd σ ix) Q
section
variable {X : Cx}
theorem comp_core {tg elt iter : Expr} {os : List Str} {pos ipos : Pos} {scope : Scope} {wi : TI} {g : TG} {te : TE} {caps : List (Nat × Str)} {pins : List (Addr × Obj)} {s : Shared} {σ : L2.St} {H : Hp} {Q : VK} {use : Option (Value → Sem Unit)} {R : Value → Shared → Prop} (hi : PI X tg iter wi)
    (hg : ∀ cl C s0 H0 fp, PG (cxComp X scope cl (os ++ caps.map (·.2)) C s0 H0 fp) tg g)
    (he : ∀ cl C s0 H0 fp, PE (cxComp X scope cl (os ++ caps.map (·.2)) C s0 H0 fp) elt te)
    (hfree : ∀ y ∈ scope.names, y.2 = .free → X.env.kindOf y.1 = some .cell)
    (hcap : ∀ p ∈ caps, X.N[p.1]? = some p.2 ∧ X.env.kindOf p.2 = some .cell ∧ ((relabel scope X.env).names.lookup p.2 = some .cell ∨ (relabel scope X.env).names.lookup p.2 = some .free))
    (hkind : scope.kind = .function) (hcell : ∀ y ∈ scope.names, y.2 ≠ .cell)
    (hnames : ∀ y ∈ scope.names, y.2 = .local → scope.names.lookup y.1 = some .local) (hc : X.calm = true) (hfs : ∀ v, foldedSetIterable iter X.env v = pure v)
    (hfin : ∀ D C H5 s6 m6, Inv X pins σ H5 s6 → s6.heap.Ns C m6 → FpOk X pins H5 C → Q (.ref D) H5 → compPost (model X.prog X.w) X.A X.xe use R (.ref D) C (.ok .next) s6)
    (I : Inv X pins σ H s) (h : tCompG os.length wi g te (caps.map (·.1)) σ H Q) :
    wpAny (model X.prog X.w) X.A (comprehension (.ListComp elt [⟨tg, iter, [], 0⟩] scope pos) scope X.env ipos (newList []) false (eval iter X.env) use) R X.xe s := by
  obtain ⟨cl, hclos, hcl, hin⟩ := closure_of (scope := scope) (env := X.env) fun y hy hf => I.ok.has y.1 (.inl (hfree y hy hf))
  have hhas : ∀ y, ((relabel scope X.env).names.lookup y = some .cell ∨ (relabel scope X.env).names.lookup y = some .free) → ∃ c, cl.lookup y = some c := fun y hy => by
    rcases hy with hy | hy
    · exact hin (y, .free) (relabel_lookup (env := X.env) hcell hy (.inl rfl)) rfl
    · exact hin (y, .free) (relabel_lookup (env := X.env) hcell hy (.inr rfl)) rfl
  refine wpAny_comprehension_free (use := use) rfl hfs hclos hkind hnames ?_
  refine thn (hi pins s σ H _ I h) fun v s1 h1 => thn h1 fun itv s2 h2 => ?_
  obtain ⟨it, fp, tn, J, H1, rfl, I2, T, st2, f2, rd⟩ := h2
  refine wpAny_newObj_type ?_ (by show 0 ≤ sizeLine; decide)
  have hD : H1 s2.heap.objs.size = none := I2.hok.fresh (Nat.le_refl _)
  obtain ⟨W, ⟨m0, w0⟩, turn⟩ := rd s2.heap.objs.size hD
  generalize eD : s2.heap.objs.size = D at hD w0 turn
  have I3 : Inv X pins σ (upd H1 D (.lst [])) { s2 with heap := s2.heap.push { cls := .type "list", data := .seq ([] : List Value).toArray } } := by
    subst eD
    exact I2.laid (t' := s2.toks) (fun b u e => Heap.get?_push_of_some _ e) (Nat.le_refl _) ⟨Nat.zero_le _, [], 0, .nil, Heap.get?_push_size _ rfl⟩
  generalize e3 : ({ s2 with heap := s2.heap.push { cls := .type "list", data := .seq ([] : List Value).toArray } } : Shared) = s3 at I3
  have hs3 : s3.heap.objs.size = D + 1 := by rw [← e3, ← eD]; simp
  have k23 : ∀ b o, s2.heap.get? b = some o → s3.heap.get? b = some o := fun b o e => by rw [← e3]; exact Heap.get?_push_of_some _ e
  refine wpAny_newFunctionEnv hcell (by intro y hy; simp at hy) (fun h4 hn4 hs4 => ?_) hkind
  have k34 : ∀ b o, s3.heap.get? b = some o → h4.get? b = some o := fun b o e => (hs4.2 b (Nat.ne_of_lt (Heap.lt_size e))).trans (Heap.get?_push_of_some _ e)
  generalize eC : s3.heap.objs.size = C at hn4 hs4
  have hfpC : ∀ b ∈ fp, b ≠ C := fun b hb z => by
    obtain ⟨o, e, _⟩ := T.obj 0 _ st2 b hb
    have h1 := Heap.lt_size e
    rw [z, ← eC, hs3, eD] at h1
    exact absurd h1 (Nat.not_lt.mpr (Nat.le_succ D))
  have hfps : ∀ b ∈ fp, b ∉ frs X.stack := fun b hb z => by
    rcases List.mem_cons.mp (I2.stkSub b z) with q | q
    · exact (f2 b hb).2.1 q
    · exact (f2 b hb).2.2.1 q
  have hfpD : ∀ b ∈ fp, b ≠ D := fun b hb z => by
    obtain ⟨o, e, _⟩ := T.obj 0 _ st2 b hb
    have h1 := Heap.lt_size e
    rw [z, eD] at h1
    exact Nat.lt_irrefl _ h1
  have okc : (cxComp X scope cl (os ++ caps.map (·.2)) C s3 (upd H1 D (.lst [])) fp).Ok := by
    refine ⟨I3.ok.mod, hkind, I3.ok.glob, I3.ok.blt, Nat.le_of_eq eC, fun y z c h1 h2 => I3.ok.inj y z c (hcl y c h1) (hcl z c h2), fun y hy => hhas y hy, fun y c hf => absurd hf Bool.false_ne_true, I3.ok.hd, I3.ok.frames, .inl rfl,
      fun b hb => ⟨hfpC b hb, fun y c e => (f2 b hb).2.2.2.2.1 y c (hcl y c e)⟩, I3.bs, Nat.le_trans I3.ok.bsz I3.sz, fun b o e hb => ?_, fun b hb => hfps b hb, I3.stack, I3.stkFree⟩
    rcases (f2 b hb).2.2.2.1 with z | z
    · exact I3.ok.noex b o e z
    · exact Nat.lt_irrefl _ (Nat.lt_of_lt_of_le (Heap.lt_size (I3.ok.bs b o e).1) z)
  have capS : (capd σ (caps.map (·.1))).length = caps.length := by unfold capd; rw [List.length_map, List.length_map]
  have Ic : Inv (cxComp X scope cl (os ++ caps.map (·.2)) C s3 (upd H1 D (.lst [])) fp) [] (List.replicate os.length none ++ capd σ (caps.map (·.1))) (upd H1 D (.lst [])) { s3 with heap := h4, toks := s3.toks + ([] : List (Str × Value)).length } := by
    refine ⟨okc, rfl, I3.bare, Un.kept k34, ⟨_, hn4, fun i y v e1 e2 e3' => ?_⟩, fun y c e => ?_, I3.hok.fresh (Nat.le_of_eq eC), fun y c e => I3.freeC y c (hcl y c e), fun p hp => absurd hp (by simp), I3.hok.kept k34, ?_⟩
    · by_cases hik : i < os.length
      · rw [List.getElem?_append_left (by rw [List.length_replicate]; exact hik), List.getElem?_replicate] at e2
        split at e2 <;> cases e2
      · have e1' : (caps.map (·.2))[i - os.length]? = some y := by
          have z : (os ++ caps.map (·.2))[i]? = some y := e1
          rw [List.getElem?_append_right (by omega)] at z
          exact z
        have e2' : (capd σ (caps.map (·.1)))[i - os.length]? = some (some v) := by
          rw [List.getElem?_append_right (by rw [List.length_replicate]; omega), List.length_replicate] at e2
          exact e2
        generalize i - os.length = i at e1' e2'
        rw [List.getElem?_map] at e1'
        unfold capd at e2'
        rw [List.getElem?_map, List.getElem?_map] at e2'
        cases q : caps[i]? with
        | none => rw [q] at e1'; cases e1'
        | some p =>
          rw [q] at e1' e2'
          have ey : p.2 = y := Option.some.inj e1'
          have ev : (σ[p.1]?).getD none = some v := Option.some.inj e2'
          have es : σ[p.1]? = some (some v) := by
            cases z : σ[p.1]? with
            | none => rw [z] at ev; cases ev
            | some w' => rw [z] at ev; exact congrArg some ev
          obtain ⟨hN, hk, hv⟩ := hcap p (List.mem_of_getElem? q)
          obtain ⟨m, _, hl⟩ := I3.loc
          obtain ⟨u, r, lk⟩ := hl p.1 p.2 v hN es (.inr (.inl hk))
          rw [ey] at hk hv lk
          refine ⟨u, r, .inr ⟨hv, ?_⟩⟩
          obtain ⟨c, hc'⟩ := hhas y hv
          rcases lk with ⟨z, _⟩ | ⟨_, c2, z, ic⟩
          · rw [hk] at z; cases z
          · have ec := (hcl y c hc').symm.trans z
            cases ec
            obtain ⟨o, ho, hd⟩ := ic
            exact ⟨c, hc', o, k34 _ _ ho, hd⟩
    · obtain ⟨v, o, ho, hd⟩ := I3.cell y c (hcl y c e)
      exact ⟨v, o, k34 _ _ ho, hd⟩
    · show (List.replicate os.length (none : Option V) ++ capd σ (caps.map fun p => p.1)).length = (os ++ caps.map fun p => p.2).length
      rw [List.length_append, List.length_append, List.length_replicate, capS, List.length_map]
  have fpc : ∀ H', (∀ b ∈ fp, H' b = none) → ∀ b ∈ fp, FpOk (cxComp X scope cl (os ++ caps.map (·.2)) C s3 (upd H1 D (.lst [])) fp) [] H' b := fun H' hn b hb =>
    ⟨hn b hb, hfpC b hb, hfps b hb, .inl hb, fun y c e => (f2 b hb).2.2.2.2.1 y c (hcl y c e), fun p hp => absurd hp (by simp)⟩
  have st4 : tn 0 h4 := T.keep _ _ _ (T.keep _ _ _ st2 fun b _ o e => k23 b o e) fun b _ o e => k34 b o e
  have fp0 : ∀ b ∈ fp, (upd H1 D (.lst [])) b = none := fun b hb => by rw [upd_ne (hfpD b hb)]; exact (f2 b hb).1
  have loop : codeAny (model X.prog X.w) X.A (.compLoop (.ListComp elt [⟨tg, iter, [], 0⟩] scope pos) 0 (.ref it) (.ref D) (compEnvC scope cl C X.env)) (compPost (model X.prog X.w) X.A X.xe use R (.ref D) C)
      { s3 with heap := h4, toks := s3.toks + ([] : List (Str × Value)).length } := by
    refine compLoop_listG (fun n s' => ∃ i ys own H', own.length = os.length ∧ Inv (cxComp X scope cl (os ++ caps.map (·.2)) C s3 (upd H1 D (.lst [])) fp) [] (own ++ capd σ (caps.map (·.1))) H' s' ∧ tn i s'.heap ∧ (∀ b ∈ fp, H' b = none) ∧ W i n ys H') ?_ m0 ⟨0, [], List.replicate os.length none, _, List.length_replicate, Ic, st4, fp0, w0⟩
    rintro n s5 ⟨i, ys, own, H5, ho5, I5, st5, fr5, w5⟩
    rcases turn i n ys H5 w5 with ⟨stop, qn⟩ | ⟨go, step⟩
    · refine thn (T.done (cxComp X scope cl (os ++ caps.map (·.2)) C s3 (upd H1 D (.lst [])) fp) rfl rfl rfl hc i [] s5 _ H5 _ I5 (fpc H5 fr5) st5 stop) fun r s6 ⟨hr, I6⟩ => ?_
      subst hr
      obtain ⟨m6, hn6, _⟩ := I6.loc
      have hs' : Heap.SameBut C s6.heap s6.heap := ⟨rfl, fun _ _ => rfl⟩
      generalize eh' : s6.heap = h' at hs'
      have hs' : Heap.SameBut C s6.heap h' := by rw [eh']; exact hs'
      have neC : ∀ b o, s3.heap.get? b = some o → b ≠ C := fun b o e => Nat.ne_of_lt (eC ▸ Heap.lt_size e)
      have ns : ∀ b o, s2.heap.get? b = some o → b ≠ D := fun b o e => Nat.ne_of_lt (eD ▸ Heap.lt_size e)
      have B := I6.base
      have uu : Un (frs X.stack) fp H1 H5 s2.heap h' := by
        refine ⟨fun b o e nn hb hf => ?_, fun b o e nn hb hf => ?_, fun b o e nn hf => ?_, fun b o e hf => ?_, fun b xs e => ?_, fun b o u' e => ?_, fun b ps e => ?_⟩
        · exact (hs'.2 b (neC b o (k23 b o e))).trans (B.keep b o (k23 b o e) (by show (upd H1 D _) b = none; rw [upd_ne (ns b o e)]; exact nn) hb hf)
        · obtain ⟨sl, z⟩ := B.slot b o (k23 b o e) (by show (upd H1 D _) b = none; rw [upd_ne (ns b o e)]; exact nn) hb hf
          exact ⟨sl, (hs'.2 b (neC b o (k23 b o e))).trans z⟩
        · exact B.free b o (k23 b o e) (by show (upd H1 D _) b = none; rw [upd_ne (ns b o e)]; exact nn) hf
        · obtain ⟨o', z⟩ := B.there b o (k23 b o e) hf
          exact ⟨o', (hs'.2 b (neC b o (k23 b o e))).trans z⟩
        · exact B.tups b xs (by show (upd H1 D _) b = _; rw [upd_ne (ne_of_none e hD)]; exact e)
        · exact B.frzs b o u' (by show (upd H1 D _) b = _; rw [upd_ne (ne_of_none e hD)]; exact e)
        · exact B.tbls b ps (by show (upd H1 D _) b = _; rw [upd_ne (ne_of_none e hD)]; exact e)
      have hok' : HOk X.prog X.w H5 h' := fun b o e => by
        refine (I6.hok b o e).stay (fun c' u' hc' z => (hs'.2 c' fun zz => ?_).trans z) (fun _ z => z) fun _ _ z => z
        have fr : H5 C = none := I6.free
        rcases hc' with hc' | hc'
        · rw [← zz, hc', e] at fr; cases fr
        · rw [← zz, hc'] at fr; cases fr
      have ho6 : s6.os = s2.os := I6.os.trans (by show s3.os = s2.os; rw [← e3])
      subst eh'
      have hC2 : s2.heap.objs.size ≤ C := by rw [← eC, hs3, eD]; exact Nat.le_succ D
      exact hfin D C H5 s6 m6 (I2.call' (s' := s6) (ch := fp) ho6 uu hok' I6.bare (fun b hb => ⟨(f2 b hb).2.2.2.1, (f2 b hb).2.1, (f2 b hb).2.2.2.2.1, (f2 b hb).2.2.2.2.2⟩)) hn6 (I2.fpOk hC2 I6.free) qn
    · refine thn (T.item (cxComp X scope cl (os ++ caps.map (·.2)) C s3 (upd H1 D (.lst [])) fp) rfl rfl rfl hc i [] s5 _ H5 _ I5 (fpc H5 fr5) st5 go) fun r s6 ⟨u, hr, h6⟩ => ?_
      subst hr
      refine (thn h6 fun _ s7 ⟨y, H7, I7, r7, y7, st7, fr7⟩ => ?_)
      have I7' := I7.pinned (fpc H7 fr7) (T.obj _ _ st7)
      refine wpAny_mono (hg cl C s3 _ fp _ s7 _ H7 y u _ I7' r7 (step y H7 y7 own ho5)) (fun _ s8 ⟨σ8, H8, I8, ⟨own', ho8, e8⟩, q8⟩ => ?_) fun _ _ z => z.elim
      subst e8
      refine wpAny_mono (he cl C s3 _ fp _ s8 _ H8 _ I8 q8) (fun xv s9 ⟨v9, H9, I9, r9, d9, l9, m9, lt9, w9⟩ => ?_) fun _ _ z => z.elim
      refine wpAny_mono (mt_append (X := (cxComp X scope cl (os ++ caps.map (·.2)) C s3 (upd H1 D (.lst [])) fp)) _ s9 _ H9 (.ref D) [v9] (.ref D) [xv] (fun _ H10 => H10 = upd H9 D (.lst (ys ++ [v9]))) I9 rfl (.cons r9 .nil) ⟨D, ys, v9, rfl, rfl, d9, l9, rfl⟩) (fun _ s10 ⟨_, H10, I10, _, e10⟩ => ?_) fun _ _ z => z.elim
      subst e10
      refine ⟨m9, lt9, i + 1, ys ++ [v9], own', _, ho8, I10.unpinned, T.keep _ _ _ st7 fun b hb o e => (I10.pin (b, o) (List.mem_append_right _ (List.mem_append_right _ (mem_pinsAt hb e)))).1, fun b hb => ?_, w9⟩
      obtain ⟨o, e, _⟩ := T.obj _ _ st7 b hb
      exact (I10.pin (b, o) (List.mem_append_right _ (List.mem_append_right _ (mem_pinsAt hb e)))).2.1
  exact codeAny_compStart_list loop (T.self _ 0 _ _ _ st4 loop)

theorem pe_compG {tg elt iter : Expr} {os : List Str} {pos : Pos} {scope : Scope} {wi : TI} {g : TG} {te : TE} {caps : List (Nat × Str)} (hi : PI X tg iter wi)
    (hg : ∀ cl C s0 H0 fp, PG (cxComp X scope cl (os ++ caps.map (·.2)) C s0 H0 fp) tg g)
    (he : ∀ cl C s0 H0 fp, PE (cxComp X scope cl (os ++ caps.map (·.2)) C s0 H0 fp) elt te)
    (hfree : ∀ y ∈ scope.names, y.2 = .free → X.env.kindOf y.1 = some .cell)
    (hcap : ∀ p ∈ caps, X.N[p.1]? = some p.2 ∧ X.env.kindOf p.2 = some .cell ∧ ((relabel scope X.env).names.lookup p.2 = some .cell ∨ (relabel scope X.env).names.lookup p.2 = some .free))
    (hkind : scope.kind = .function) (hcell : ∀ y ∈ scope.names, y.2 ≠ .cell)
    (hnames : ∀ y ∈ scope.names, y.2 = .local → scope.names.lookup y.1 = some .local) (hc : X.calm = true) (hfs : ∀ v, foldedSetIterable iter X.env v = pure v) :
    PE X (.ListComp elt [⟨tg, iter, [], 0⟩] scope pos) (tCompG os.length wi g te (caps.map (·.1))) := by
  intro pins s σ H Q I h
  rw [eval_ListComp]
  refine comp_core (Q := Q) (use := none) (R := EP X pins σ Q) hi hg he hfree hcap hkind hcell hnames hc hfs (fun D C H5 s6 m6 I6 n6 f6 q6 => ?_) I h
  refine ⟨m6, n6, fun h' hs' => ⟨.ref D, H5, ?_, rfl, q6⟩⟩
  exact I6.turned (t' := s6.toks) (fun b o hb e => (hs'.2 b hb).trans e) f6.1 f6.2.1 f6.2.2.2.1 f6.2.2.2.2.1 f6.2.2.2.2.2
/-- name = a comprehension, the name a plain local: the store comes ahead of the letting go -/
theorem ps_compG {tg elt iter : Expr} {os : List Str} {i : Nat} {y : Str} {py pos spos : Pos} {scope : Scope} {wi : TI} {g : TG} {te : TE} {caps : List (Nat × Str)} (hN : X.N.Nodup) (hy : X.N[i]? = some y) (hl : X.env.kindOf y = some .local) (hi : PI X tg iter wi)
    (hg : ∀ cl C s0 H0 fp, PG (cxComp X scope cl (os ++ caps.map (·.2)) C s0 H0 fp) tg g)
    (he : ∀ cl C s0 H0 fp, PE (cxComp X scope cl (os ++ caps.map (·.2)) C s0 H0 fp) elt te)
    (hfree : ∀ y ∈ scope.names, y.2 = .free → X.env.kindOf y.1 = some .cell)
    (hcap : ∀ p ∈ caps, X.N[p.1]? = some p.2 ∧ X.env.kindOf p.2 = some .cell ∧ ((relabel scope X.env).names.lookup p.2 = some .cell ∨ (relabel scope X.env).names.lookup p.2 = some .free))
    (hkind : scope.kind = .function) (hcell : ∀ y ∈ scope.names, y.2 ≠ .cell)
    (hnames : ∀ y ∈ scope.names, y.2 = .local → scope.names.lookup y.1 = some .local) (hc : X.calm = true) (hfs : ∀ v, foldedSetIterable iter X.env v = pure v)
    (hsw : swapsWith (.ListComp elt [⟨tg, iter, [], 0⟩] scope pos) (some (.Name y py)) spos.line X.env = pure true) :
    PS X (.Assign [.Name y py] (.ListComp elt [⟨tg, iter, [], 0⟩] scope pos) spos) (tAsg (tCompG os.length wi g te (caps.map (·.1))) (gName i)) := by
  intro pins s σ H D I h
  rw [exec_Assign_Name_used _ _ _ _ hsw]
  refine wpAny_bind (wpAny_standAt (wpAny_bind ?_))
  show wpAny _ X.A (do let _ ← comprehension (.ListComp elt [⟨tg, iter, [], 0⟩] scope pos) scope X.env _ (newList []) false (eval iter X.env) (some (assign (.Name y py) X.env))) _ _ s
  refine wpAny_bind (wpAny_mono (comp_core (Q := fun x H1 => gName i x σ H1 D.nx) (use := some (assign (.Name y py) X.env)) (R := fun _ s' => SP X pins D .next s') hi hg he hfree hcap hkind hcell hnames hc hfs (fun D' C H5 s6 m6 I6 n6 f6 q6 => ?_) I h) (fun _ s' hq => wpAny_pure (wpAny_pure hq)) fun _ _ e => e)
  show wpAny _ X.A (assign (.Name y py) X.env (.ref D')) _ _ s6
  obtain ⟨oC, es, ep, hoC, rC⟩ := n6
  have dC : ∀ v, oC.data ≠ .cell v := fun v z => by
    first
      | (rw [rC.2.1] at z; cases z)
      | (obtain ⟨_, hd, _⟩ := rC; rw [hd] at z; cases z)
      | (obtain ⟨hd, _⟩ := rC; rw [hd] at z; cases z)
  have Ip : Inv X (pins ++ [(C, oC)]) σ H5 s6 := I6.pins_of fun p hp => (List.mem_append.mp hp).elim (fun z => I6.pin p (List.mem_append_right _ z)) fun z => by
    have e : p = (C, oC) := by simpa using z
    subst e
    exact ⟨hoC, f6.1, f6.2.1, f6.2.2.1, dC⟩
  refine wpAny_assign_Name (store_ok Ip hN hy (.inl hl) (v := .ref D') rfl (fun s7 I7 => ?_) (.inr hl))
  have h7 := (I7.pin (C, oC) (List.mem_append_right _ (List.mem_append_right _ (by simp)))).1
  refine ⟨m6, ⟨oC, es, ep, h7, rC⟩, fun h' hs' => ⟨_, H5, ?_, q6⟩⟩
  have I8 := I7.unpinned
  exact I8.turned (t' := s7.toks) (fun b o hb e => (hs'.2 b hb).trans e) f6.1 f6.2.1 f6.2.2.2.1 f6.2.2.2.2.1 f6.2.2.2.2.2
end
end Cv

namespace Cv
open PySem PySem.Spec PyProof.Rows L2
/-! ### what a comprehension asks of the scopes, by one reckoning -/
noncomputable def compOk (N : List Str) (sc scope : Scope) (caps : List (Nat × Str)) : Bool :=
  decide (scope.kind = .function) && scope.names.all (fun y => decide (y.2 ≠ .cell) && (!decide (y.2 = .free) || decide (sc.names.lookup y.1 = some .cell)) && (!decide (y.2 = .local) || decide (scope.names.lookup y.1 = some .local))) &&
    caps.all fun p => decide (N[p.1]? = some p.2) && decide (sc.names.lookup p.2 = some .cell) && decide (scope.names.lookup p.2 = some .free)
theorem relabel_free {env : Env} : ∀ {names : List (Str × NameKind)} {y : Str}, names.lookup y = some .free →
    (names.map fun (n, k) => if (k == NameKind.free && env.scope.kind == .function && env.kindOf n == some .cell) then (n, NameKind.cell) else (n, k)).lookup y = some .cell ∨
    (names.map fun (n, k) => if (k == NameKind.free && env.scope.kind == .function && env.kindOf n == some .cell) then (n, NameKind.cell) else (n, k)).lookup y = some .free
  | [], _, h => by simp at h
  | (n, q) :: r, y, h => by
    rw [List.lookup_cons] at h
    rw [List.map_cons]
    by_cases hy : y == n
    · rw [hy] at h
      cases h
      by_cases ht : (NameKind.free == NameKind.free && env.scope.kind == .function && env.kindOf n == some .cell) = true
      · left; simp only [ht]; rw [List.lookup_cons]; simp [eq_of_beq hy]
      · right; simp only [ht]; rw [List.lookup_cons]; simp [eq_of_beq hy]
    · rw [Bool.not_eq_true] at hy
      rw [hy] at h
      have ih := relabel_free (env := env) h
      by_cases ht : (q == NameKind.free && env.scope.kind == .function && env.kindOf n == some .cell) = true
      · simp only [ht]; rw [List.lookup_cons]; simpa [hy] using ih
      · simp only [ht]; rw [List.lookup_cons]; simpa [hy] using ih
section
variable {X : Cx}
theorem pe_compS {tg elt iter : Expr} {os : List Str} {pos : Pos} {scope : Scope} {wi : TI} {g : TG} {te : TE} {caps : List (Nat × Str)} (N : List Str) (sc : Scope) (hi : PI X tg iter wi)
    (hg : ∀ cl C s0 H0 fp, PG (cxComp X scope cl (os ++ caps.map (·.2)) C s0 H0 fp) tg g)
    (he : ∀ cl C s0 H0 fp, PE (cxComp X scope cl (os ++ caps.map (·.2)) C s0 H0 fp) elt te)
    (ok : compOk N sc scope caps = true) (hN : X.N = N := by rfl) (hsc : X.env.scope = sc := by rfl) (hc : X.calm = true := by rfl) (hfs : ∀ v, foldedSetIterable iter X.env v = pure v := by intro _; rfl) :
    PE X (.ListComp elt [⟨tg, iter, [], 0⟩] scope pos) (tCompG os.length wi g te (caps.map (·.1))) := by
  subst hN hsc
  unfold compOk at ok
  simp only [Bool.and_eq_true, List.all_eq_true, decide_eq_true_eq, Bool.or_eq_true, Bool.not_eq_true', decide_eq_false_iff_not] at ok
  obtain ⟨⟨h1, h2⟩, h3⟩ := ok
  refine pe_compG hi hg he (fun y hy hf => ?_) (fun p hp => ?_) h1 (fun y hy => (h2 y hy).1.1) (fun y hy hl => ?_) hc hfs
  · rcases (h2 y hy).1.2 with z | z
    · exact absurd hf z
    · exact z
  · obtain ⟨⟨a, b⟩, c⟩ := h3 p hp
    exact ⟨a, b, relabel_free c⟩
  · rcases (h2 y hy).2 with z | z
    · exact absurd hl z
    · exact z
theorem ps_compS {tg elt iter : Expr} {os : List Str} {i : Nat} {y : Str} {py pos spos : Pos} {scope : Scope} {wi : TI} {g : TG} {te : TE} {caps : List (Nat × Str)} (N : List Str) (sc : Scope) (hNd : X.N.Nodup) (hy : X.N[i]? = some y) (hl : X.env.kindOf y = some .local) (hi : PI X tg iter wi)
    (hg : ∀ cl C s0 H0 fp, PG (cxComp X scope cl (os ++ caps.map (·.2)) C s0 H0 fp) tg g)
    (he : ∀ cl C s0 H0 fp, PE (cxComp X scope cl (os ++ caps.map (·.2)) C s0 H0 fp) elt te)
    (ok : compOk N sc scope caps = true) (hN : X.N = N := by rfl) (hsc : X.env.scope = sc := by rfl) (hc : X.calm = true := by rfl) (hfs : ∀ v, foldedSetIterable iter X.env v = pure v := by intro _; rfl)
    (hsw : swapsWith (.ListComp elt [⟨tg, iter, [], 0⟩] scope pos) (some (.Name y py)) spos.line X.env = pure true := by rfl) :
    PS X (.Assign [.Name y py] (.ListComp elt [⟨tg, iter, [], 0⟩] scope pos) spos) (tAsg (tCompG os.length wi g te (caps.map (·.1))) (gName i)) := by
  subst hN hsc
  unfold compOk at ok
  simp only [Bool.and_eq_true, List.all_eq_true, decide_eq_true_eq, Bool.or_eq_true, Bool.not_eq_true', decide_eq_false_iff_not] at ok
  obtain ⟨⟨h1, h2⟩, h3⟩ := ok
  refine ps_compG hNd hy hl hi hg he (fun y hy hf => ?_) (fun p hp => ?_) h1 (fun y hy => (h2 y hy).1.1) (fun y hy hl => ?_) hc hfs hsw
  · rcases (h2 y hy).1.2 with z | z
    · exact absurd hf z
    · exact z
  · obtain ⟨⟨a, b⟩, c⟩ := h3 p hp
    exact ⟨a, b, relabel_free c⟩
  · rcases (h2 y hy).2 with z | z
    · exact absurd hl z
    · exact z
end
/-! ### tuples never change -/
noncomputable def Tup (H H' : Hp) : Prop := ∀ b xs, H b = some (.tup xs) → H' b = some (.tup xs)
theorem _root_.L2.Same.tup {H H' : Hp} (h : Same H H') : Tup H H' := fun b xs e => h b _ e
theorem Tup.refl (H : Hp) : Tup H H := fun _ _ e => e
theorem Tup.trans {H H1 H2 : Hp} (a : Tup H H1) (b : Tup H1 H2) : Tup H H2 := fun c xs e => b c xs (a c xs e)
theorem Tup.lst {H : Hp} {D : Addr} {ys : List V} {o : HO} (h : H D = some (.lst ys)) : Tup H (upd H D o) := fun b xs e => by
  rw [upd_ne (fun z => by rw [z, h] at e; cases e)]; exact e
theorem Tup.new {H : Hp} {D : Addr} {o : HO} (h : H D = none) : Tup H (upd H D o) := L2.Same.tup (Same.new h)
theorem ShV.tup {H H' : Hp} {v : V} {q : Rat} (h : ShV H v q) (e : Tup H H') : ShV H' v q := by
  obtain ⟨a, rfl, h⟩ := h
  exact ⟨a, rfl, e _ _ h⟩
/-! ### comprehensions by what their items are -/
/-- an iterator of n items that are known ahead -/
noncomputable def Plain1 (J : It) (H1 : Hp) (n : Nat) (f : Nat → V) : Prop := ∀ H2, Same H1 H2 → ∀ i, (i < n → J.go i H2 ∧ ∀ x H', J.yld i H2 x H' → H' = H2 ∧ x = f i) ∧ (i = n → J.stop i H2)
/-- .. of n pairs (tuples that are new, or known ahead) -/
noncomputable def Plain2 (K : PySem.W.Frag) (J : It) (H1 : Hp) (n : Nat) (f g : Nat → V) : Prop := ∀ H2, Same H1 H2 → ∀ i, (i < n → J.go i H2 ∧ ∀ x H', J.yld i H2 x H' → Same H2 H' ∧ ∃ a, x = .ref a ∧ SqT K H' a [f i, g i]) ∧ (i = n → J.stop i H2)
theorem plain_range (lo : Int) (n : Nat) (H1 : Hp) : Plain1 (Itr lo n) H1 n fun i => .int (lo + i) := fun H2 _ i =>
  ⟨fun hi => ⟨hi, fun x H' y => ⟨y.1, y.2⟩⟩, fun e => by subst e; exact Nat.le_refl _⟩
theorem plain_list {K : PySem.W.Frag} {a : Addr} {xs : List V} {H1 : Hp} (h : SqL K H1 a xs) : Plain1 (Itl K a) H1 xs.length fun i => (xs[i]?).getD .non := fun H2 s i =>
  ⟨fun hi => ⟨⟨xs, xs[i], s.seq h, by simp [hi]⟩, fun x H' y => ⟨y.1, by show x = (xs[i]?).getD .non; rw [y.2 xs (s.seq h)]; rfl⟩⟩, fun e => by subst e; exact ⟨xs, s.seq h, Nat.le_refl _⟩⟩
theorem small_line {n : Nat} (h : n ≤ 100000) : n < sizeLine := Nat.lt_of_le_of_lt h (by rw [sizeLine_eq]; decide)
section
variable {K : PySem.W.Frag} {J : It} {H1 : Hp} {te : TE} {cs : L2.St} {Q : VK} {n : Nat}
theorem comp1 {f : Nat → V} (hJ : Plain1 J H1 n f) (hn : n ≤ 100000) (R : Nat → V → Hp → Prop) (hR : ∀ i v H H', Tup H H' → R i v H → R i v H')
    (he : ∀ i H2 (k : VK), i < n → Same H1 H2 → (∀ v H3, Same H2 H3 → R i v H3 → k v H3) → te (some (f i) :: cs) H2 k)
    (hq : ∀ D ys H2, H1 D = none → Same H1 H2 → H2 D = some (.lst ys) → ys.length = n → (∀ i v, ys[i]? = some v → R i v H2) → Q (.ref D) H2) :
    CompGoal 1 J H1 (gName 0) te cs Q := by
  intro D hD
  refine ⟨fun i m ys H2 => m = n - i ∧ i ≤ n ∧ ys.length = i ∧ Same H1 H2 ∧ H2 D = some (.lst ys) ∧ ∀ j v, ys[j]? = some v → R j v H2, ⟨n, by simp, Nat.zero_le _, rfl, Same.new hD, upd_same, fun j v e => by simp at e⟩, ?_⟩
  rintro i m ys H2 ⟨rfl, hi, hl, s2, d2, r2⟩
  by_cases hlt : i < n
  · refine .inr ⟨((hJ H2 s2 i).1 hlt).1, fun x H' y own ho => ?_⟩
    obtain ⟨rfl, rfl⟩ := ((hJ H2 s2 i).1 hlt).2 x H' y
    cases own with
    | nil => cases ho
    | cons o1 r =>
      cases r with
      | cons _ _ => cases ho
      | nil =>
        refine ⟨⟨[some (f i)], rfl, rfl⟩, he i _ _ hlt s2 fun v H3 s3 r3 => ⟨s3 _ _ d2, small_line (by omega), n - (i + 1), by omega, rfl, hlt, by rw [List.length_append, hl]; rfl, fun b o e => ?_, upd_same, fun j w e => ?_⟩⟩
        · rw [upd_ne (ne_of_none e hD)]; exact s3 _ _ (s2 _ _ e)
        · have t3 : Tup H3 (upd H3 D (.lst (ys ++ [v]))) := Tup.lst (s3 _ _ d2)
          by_cases hj : j < ys.length
          · rw [List.getElem?_append_left hj] at e
            exact hR _ _ _ _ (s3.tup.trans t3) (r2 j w e)
          · rw [List.getElem?_append_right (by omega)] at e
            have hj0 : j - ys.length = 0 := by
              cases q : j - ys.length with
              | zero => rfl
              | succ k => rw [q] at e; simp at e
            rw [hj0] at e
            have e' : v = w := by simpa using e
            have hji : j = i := by omega
            rw [← e', hji]
            exact hR _ _ _ _ t3 r3
  · have e : i = n := by omega
    subst e
    exact .inl ⟨(hJ H2 s2 i).2 rfl, hq D ys H2 hD s2 d2 hl r2⟩
theorem comp2 {f g : Nat → V} (hJ : Plain2 K J H1 n f g) (hn : n ≤ 100000) (R : Nat → V → Hp → Prop) (hR : ∀ i v H H', Tup H H' → R i v H → R i v H')
    (he : ∀ i H2 (k : VK), i < n → Same H1 H2 → (∀ v H3, Same H2 H3 → R i v H3 → k v H3) → te (some (f i) :: some (g i) :: cs) H2 k)
    (hq : ∀ D ys H2, H1 D = none → Same H1 H2 → H2 D = some (.lst ys) → ys.length = n → (∀ i v, ys[i]? = some v → R i v H2) → Q (.ref D) H2) :
    CompGoal 2 J H1 (gTup K 2 (gCons (gName 0) (gCons (gName 1) gNil))) te cs Q := by
  intro D hD
  refine ⟨fun i m ys H2 => m = n - i ∧ i ≤ n ∧ ys.length = i ∧ Same H1 H2 ∧ H2 D = some (.lst ys) ∧ ∀ j v, ys[j]? = some v → R j v H2, ⟨n, by simp, Nat.zero_le _, rfl, Same.new hD, upd_same, fun j v e => by simp at e⟩, ?_⟩
  rintro i m ys H2 ⟨rfl, hi, hl, s2, d2, r2⟩
  by_cases hlt : i < n
  · refine .inr ⟨((hJ H2 s2 i).1 hlt).1, fun x H' y own ho => ?_⟩
    obtain ⟨s2', a, rfl, ht⟩ := ((hJ H2 s2 i).1 hlt).2 x H' y
    cases own with
    | nil => cases ho
    | cons o1 r =>
      cases r with
      | nil => cases ho
      | cons o2 r =>
        cases r with
        | cons _ _ => cases ho
        | nil =>
          refine ⟨a, _, rfl, ht, rfl, _, _, rfl, _, _, rfl, rfl, ⟨[some (f i), some (g i)], rfl, rfl⟩, he i _ _ hlt (s2.trans s2') fun v H3 s3 r3 => ⟨s3 _ _ (s2' _ _ d2), small_line (by omega), n - (i + 1), by omega, rfl, hlt, by rw [List.length_append, hl]; rfl, fun b o e => ?_, upd_same, fun j w e => ?_⟩⟩
          · rw [upd_ne (ne_of_none e hD)]; exact s3 _ _ (s2' _ _ (s2 _ _ e))
          · have t3 : Tup H3 (upd H3 D (.lst (ys ++ [v]))) := Tup.lst (s3 _ _ (s2' _ _ d2))
            by_cases hj : j < ys.length
            · rw [List.getElem?_append_left hj] at e
              exact hR _ _ _ _ ((s2'.trans s3).tup.trans t3) (r2 j w e)
            · rw [List.getElem?_append_right (by omega)] at e
              have hj0 : j - ys.length = 0 := by
                cases q : j - ys.length with
                | zero => rfl
                | succ k => rw [q] at e; simp at e
              rw [hj0] at e
              have e' : v = w := by simpa using e
              have hji : j = i := by omega
              rw [← e', hji]
              exact hR _ _ _ _ t3 r3
  · have e : i = n := by omega
    subst e
    exact .inl ⟨(hJ H2 s2 i).2 rfl, hq D ys H2 hD s2 d2 hl r2⟩
end
/-! ### rules that name K plainly (a comprehension's block hands on no context) -/
section
variable {X : Cx}
theorem ix_listK (K : PySem.W.Frag) (h : X.K = K := by rfl) : IxR X (rIxL K) := by subst h; exact ix_list
theorem ix_tupK (K : PySem.W.Frag) (h : X.K = K := by rfl) : IxR X (rIxT K) := by subst h; exact ix_tup
theorem sl_listK (K : PySem.W.Frag) (h : X.K = K := by rfl) : SlR X (rSlL K) := by subst h; exact sl_list
theorem op_eqDK (K : PySem.W.Frag) (hu : X.A.units + 64 < cLine) (h : X.K = K := by rfl) : OpR X (compareOp .Eq) (rEqD K) := by subst h; exact op_eqD hu
theorem op_neDK (K : PySem.W.Frag) (hu : X.A.units + 64 < cLine) (h : X.K = K := by rfl) : OpR X (compareOp .NotEq) (rNeD K) := by subst h; exact op_neD hu
theorem call_lenK (K : PySem.W.Frag) (h : X.K = K := by rfl) : CallR X (.builtin "len") (fun xs H Q => ∃ p ys, xs = [.ref p] ∧ (SqL K H p ys ∨ SqT K H p ys) ∧ Q (.int ys.length) H) := by subst h; exact call_len_seq
theorem call_isiK (K : PySem.W.Frag) (h : X.K = K := by rfl) : CallR X (.builtin "isinstance") (fun xs H Q => ∃ x T t b, xs = [x, .ty T] ∧ TyOf K H x t ∧ PySem.W.kitOne K t (.type T) = some b ∧ Q (.bl b) H) := by subst h; exact call_isi
theorem pg_tupK (K : PySem.W.Frag) {es : List Expr} {k : Nat} {t : TGs} {n : Nat} {pos : Pos} (hc : X.calm = true) (h : PGs X es t) (hK : X.K = K := by rfl)
    (hn : (assignEach es X.env).length = n := by rfl) (hst : (assignEach es X.env).findIdx? (·.1) = none := by rfl) : PG X (.Tuple es k pos) (gTup K n t) := by subst hK; exact pg_tup hc h hn hst
end
end Cv

namespace Cv
open PySem PySem.Spec PyProof.Rows L2
/-! ### reversed of a list, walked -/
section
variable {X : Cx} {tg : Expr}
end
end Cv

namespace Cv
open PySem PySem.Spec PyProof.Rows L2
section
variable {prog : Program} {w : World} {A : Around} {E : Value → Shared → Prop} {s : Shared}
end
section
variable {X : Cx}
end
end Cv

namespace Cv
open PySem PySem.Spec PyProof.Rows L2
section
variable {X : Cx} {pins : List (Addr × Obj)} {σ : L2.St} {H : Hp} {s : Shared} {h' : Heap}
/-- untracked records of ours have turned, a new object is laid and tracked -/
theorem turnedLay {t' : Nat} {ch : List Addr} {a : Addr} {o : HO} (I : Inv X pins σ H s) (hf : ∀ b ∈ ch, FpOk X pins H b) (k : ∀ b o, b ∉ ch → s.heap.get? b = some o → h'.get? b = some o)
    (ha : s.heap.objs.size ≤ a) (new : ObjOk X.prog X.w (upd H a o) h' a o) : Inv X pins σ (upd H a o) { s with heap := h', toks := t' } := by
  have hna : H a = none := I.hok.fresh ha
  have nit : ∀ b u, H b = some u → b ∉ ch := fun b u e z => by rw [(hf b z).1] at e; cases e
  have up : ∀ b u, H b = some u → upd H a o b = some u := fun b u e => by rw [upd_ne (ne_of_none e hna)]; exact e
  refine I.step (g' := s.gens) (d' := s.drawn) (ch := ch) (fun b hb => ⟨(hf b hb).2.2.2.1, (hf b hb).2.1, (hf b hb).2.2.2.2.1, (hf b hb).2.2.2.2.2⟩) (fun b o _ _ hc e _ => k b o hc e) (fun b o _ _ hc e _ => ⟨o.slots, k b o hc e⟩) (fun b o _ e n => ?_)
    (fun b o hc e => ⟨o, k b o hc e⟩) (fun _ _ e => up _ _ e) (fun _ _ _ e => up _ _ e) (fun b ps e => ⟨#[], by rw [up _ _ e]; simp⟩) (fun m hm => ?_) (fun b u e => ?_) I.bare
  · rw [upd_ne (fun z => by rw [z] at e; exact absurd (Heap.lt_size e) (Nat.not_lt.mpr ha))]; exact n
  · obtain ⟨o, es, ep, ho, r⟩ := hm
    exact ⟨o, es, ep, k _ o (fun z => (hf _ z).2.1 rfl) ho, r⟩
  · by_cases hb : b = a
    · subst hb
      rw [upd_same] at e
      cases e
      exact new
    · rw [upd_ne hb] at e
      refine (I.hok b u e).stay (fun c v hc q => k c v ?_ q) (fun _ q => up _ _ q) fun _ _ q => up _ _ q
      rcases hc with z | z
      · rw [z]; exact nit b u e
      · exact nit c _ z
theorem turnedL {t' : Nat} {ch : List Addr} (I : Inv X pins σ H s) (hf : ∀ b ∈ ch, FpOk X pins H b) (k : ∀ b o, b ∉ ch → s.heap.get? b = some o → h'.get? b = some o) : Inv X pins σ H { s with heap := h', toks := t' } := by
  have nit : ∀ b u, H b = some u → b ∉ ch := fun b u e z => by rw [(hf b z).1] at e; cases e
  refine I.step (g' := s.gens) (d' := s.drawn) (ch := ch) (fun b hb => ⟨(hf b hb).2.2.2.1, (hf b hb).2.1, (hf b hb).2.2.2.2.1, (hf b hb).2.2.2.2.2⟩) (fun b o _ _ hc e _ => k b o hc e) (fun b o _ _ hc e _ => ⟨o.slots, k b o hc e⟩) (fun _ _ _ _ n => n)
    (fun b o hc e => ⟨o, k b o hc e⟩) (fun _ _ e => e) (fun _ _ _ e => e) (fun b ps e => ⟨#[], by rw [e]; simp⟩) (fun m hm => ?_) (fun b u e => ?_) I.bare
  · obtain ⟨o, es, ep, ho, r⟩ := hm
    exact ⟨o, es, ep, k _ o (fun z => (hf _ z).2.1 rfl) ho, r⟩
  · refine (I.hok b u e).stay (fun c v hc q => k c v ?_ q) (fun _ q => q) fun _ _ q => q
    rcases hc with z | z
    · rw [z]; exact nit b u e
    · exact nit c _ z
end
/-! ### zip of two lists, walked by pairs of names -/
noncomputable def Itz (K : PySem.W.Frag) (l1 l2 : Addr) : It :=
  ⟨fun i H => ∃ xs ys x y, SqL K H l1 xs ∧ SqL K H l2 ys ∧ xs[i]? = some x ∧ ys[i]? = some y,
   fun i H v H' => ∃ T a b, v = .ref T ∧ H T = none ∧ H' = upd H T (.tup [a, b]) ∧ (∀ xs, SqL K H l1 xs → xs[i]? = some a) ∧ ∀ ys, SqL K H l2 ys → ys[i]? = some b,
   fun i H => ∃ xs ys, SqL K H l1 xs ∧ SqL K H l2 ys ∧ (xs[i]? = none ∨ ys[i]? = none)⟩
theorem turn_zip {P : Program} {w : World} {K : PySem.W.Frag} {elts : List Expr} {k0 : Nat} {pos : Pos} {z TI TO i1 i2 l1 l2 : Addr} (D : ZipApart z TI TO i1 i2 l1 l2) : Turn P w K (.Tuple elts k0 pos) (Itz K l1 l2) [z, TI, TO, i1, i2] z
    (fun i h => IsZip h z TI TO .none ∧ IsPair h TI (.ref i1) (.ref i2) ∧ (∃ a b, IsPair h TO a b) ∧ h.IsListIter i1 l1 i ∧ h.IsListIter i2 l2 i) where
  mem := by simp
  obj := fun i h st b hb => by
    obtain ⟨hz, hTI, ⟨a, b', hTO⟩, ⟨o1, e1, c1, d1⟩, ⟨o2, e2, c2, d2⟩⟩ := st
    simp only [List.mem_cons, List.not_mem_nil, or_false] at hb
    rcases hb with rfl | rfl | rfl | rfl | rfl
    · exact ⟨_, hz, fun v q => by have q' : Data.fields _ = Data.cell v := q; cases q'⟩
    · exact ⟨_, hTI, fun v q => by have q' : Data.seq _ _ = Data.cell v := q; cases q'⟩
    · exact ⟨_, hTO, fun v q => by have q' : Data.seq _ _ = Data.cell v := q; cases q'⟩
    · exact ⟨_, e1, fun v q => by rw [d1] at q; cases q⟩
    · exact ⟨_, e2, fun v q => by rw [d2] at q; cases q⟩
  keep := fun i h h' st k => by
    obtain ⟨hz, hTI, ⟨a, b, hTO⟩, h1, h2⟩ := st
    exact ⟨k z (by simp) _ hz, k TI (by simp) _ hTI, ⟨a, b, k TO (by simp) _ hTO⟩, h1.at fun o e => k i1 (by simp) o e, h2.at fun o e => k i2 (by simp) o e⟩
  item := by
    intro X hP hw hK hc i pins s σ H E I hf st hg
    subst hP hw hK
    obtain ⟨xs, ys, x, y, hq1, hq2, hx, hy⟩ := hg
    obtain ⟨hz, hTI, ⟨a, b, hTO⟩, h1, h2⟩ := st
    obtain ⟨its1, rv1, p1, hz1⟩ := I.list hq1
    obtain ⟨its2, rv2, p2, hz2⟩ := I.list hq2
    obtain ⟨u1, hu1, ru1⟩ := rv1.get hx
    obtain ⟨u2, hu2, ru2⟩ := rv2.get hy
    refine wpAny_pyNext_zip_item D hz hTI hTO h1 h2 p1.isList p2.isList (x := u1) (y := u2) (by simpa using hu1) (by simpa using hu2) fun h' a1 a2 a3 a4 a5 a6 a7 => ?_
    refine ⟨_, rfl, wpAny_letOwnedTupleGo_zip a1 fun h'' b1 b2 => ?_⟩
    have hT : H s.heap.objs.size = none := I.hok.fresh (Nat.le_refl _)
    have neT : ∀ {c o}, s.heap.get? c = some o → c ≠ s.heap.objs.size := fun e => Nat.ne_of_lt (Heap.lt_size e)
    have kk : ∀ b o, b ∉ [z, TI, TO, i1, i2] → s.heap.get? b = some o → h''.get? b = some o := fun b o hb e => by
      simp only [List.mem_cons, List.not_mem_nil, or_false, not_or] at hb
      exact b2.extBut b o hb.1 (a7 b o hb.1 hb.2.2.1 hb.2.2.2.1 hb.2.2.2.2 e)
    have tT : h''.get? s.heap.objs.size = some { cls := .type "tuple", data := .seq #[u1, u2] } := b2.extBut _ _ (Ne.symm (neT hz)) a5
    have I1 := turnedLay (t' := s.toks) (a := s.heap.objs.size) (o := .tup [x, y]) (h' := h'') I hf kk (Nat.le_refl _) ⟨by show 2 ≤ sizeLine; decide, [u1, u2], .cons ru1 (.cons ru2 .nil), ⟨_, tT, rfl, _, rfl⟩⟩
    refine ⟨.ref s.heap.objs.size, _, I1, rfl, ⟨s.heap.objs.size, x, y, rfl, hT, rfl, fun xs' hx' => by rw [I.list_inj hx' hq1]; exact hx, fun ys' hy' => by rw [I.list_inj hy' hq2]; exact hy⟩, ?_, fun c hc => ?_⟩
    · exact ⟨b1, b2.extBut _ _ D.TIz (a7 _ _ D.TIz D.TITO D.TIi1 D.TIi2 hTI), ⟨_, _, b2.extBut _ _ D.TOz a2⟩, a3.extBut b2.extBut D.i1z, a4.extBut b2.extBut D.i2z⟩
    · have e0 := (hf c hc).1
      rw [upd_ne ?_]
      · exact e0
      · intro q
        obtain ⟨o1, e1, _⟩ := h1
        obtain ⟨o2, e2, _⟩ := h2
        simp only [List.mem_cons, List.not_mem_nil, or_false] at hc
        rcases hc with rfl | rfl | rfl | rfl | rfl
        · exact neT hz q
        · exact neT hTI q
        · exact neT hTO q
        · exact neT e1 q
        · exact neT e2 q
  done := by
    intro X hP hw hK hc i pins s σ H E I hf st hg
    subst hP hw hK
    obtain ⟨xs, ys, hq1, hq2, hend⟩ := hg
    obtain ⟨hz, hTI, ⟨a, b, hTO⟩, h1, h2⟩ := st
    obtain ⟨its1, rv1, p1, hz1⟩ := I.list hq1
    obtain ⟨its2, rv2, p2, hz2⟩ := I.list hq2
    refine wpAny_pyNext_zip_end (I.ok.hd hc) D hz hTI hTO h1 h2 p1.isList p2.isList (hend.imp (fun e => by simpa using rv1.none_of e) fun e => by simpa using rv2.none_of e) fun h' kk => ⟨rfl, turnedL (t' := s.toks) I hf fun b o hb e => ?_⟩
    simp only [List.mem_cons, List.not_mem_nil, or_false, not_or] at hb
    exact kk b o hb.1 hb.2.2.1 hb.2.2.2.1 hb.2.2.2.2 e
  self := fun _ _ _ _ _ st h => wpAny_pyIter_zip st.1 h
section
variable {X : Cx}
noncomputable def iZip (K : PySem.W.Frag) (ta : TA) : TI := fun σ H R => ta σ H fun vs H1 => ∃ l1 l2, vs = [.ref l1, .ref l2] ∧ (∃ xs, SqL K H1 l1 xs) ∧ (∃ ys, SqL K H1 l2 ys) ∧ R (Itz K l1 l2) H1
theorem pi_zip {a b : Expr} {ta : TA} {p pos ppos : Pos} {elts : List Expr} {k0 : Nat} (hg : Gl X "zip") (hm : X.mg "zip" = none) (ha : PA X [a, b] ta) (he : starEach [a, b] X.env = (false, eval a X.env) :: starEach [b] X.env := by rfl)
    (hpl : (backTo pos (starEach [b] X.env)).any (·.1) = false := by rfl) : PI X (.Tuple elts k0 ppos) (.Call (.Name "zip" p) [a, b] [] pos) (iZip X.K ta) := by
  intro pins s σ H R I h
  refine wpAny_Call_Name_kw (ld_blt I hg hm boot_zip ?_ (by decide) (by decide))
  refine PyProof.Rows.callWith_type1 (thn (ha pos pins s σ H _ I h) fun us s1 ⟨vs, H1, I1, r1, q1⟩ => ?_) he hpl
  obtain ⟨l1, l2, rfl, ⟨xs, hq1⟩, ⟨ys, hq2⟩, q⟩ := q1
  obtain ⟨u1, u2, rfl, e1, e2⟩ := vals_two r1
  cases e1; cases e2
  obtain ⟨its1, rv1, p1, hz1⟩ := I1.list hq1
  obtain ⟨its2, rv2, p2, hz2⟩ := I1.list hq2
  have a1 : l1 < s1.heap.objs.size := by obtain ⟨_, e, _⟩ := p1.isList; exact Heap.lt_size e
  have a2 : l2 < s1.heap.objs.size := by obtain ⟨_, e, _⟩ := p2.isList; exact Heap.lt_size e
  refine call_zip_2 p1.isList p2.isList fun h' hz hTI hTO hi1 hi2 _ hk => ?_
  refine wpAny_pyIter_zip hz ?_
  refine ⟨_, [s1.heap.objs.size + 4, s1.heap.objs.size + 2, s1.heap.objs.size + 3, s1.heap.objs.size, s1.heap.objs.size + 1], _, _, H1, rfl, I1.kept (t' := s1.toks) hk, turn_zip (zipApart_new a1 a2), ⟨hz, hTI, ⟨_, _, hTO⟩, hi1, hi2⟩, fun c hc => ?_, q⟩
  have hge : s1.heap.objs.size ≤ c := by
    simp only [List.mem_cons, List.not_mem_nil, or_false] at hc
    rcases hc with rfl | rfl | rfl | rfl | rfl <;> omega
  exact I1.fpOk hge (I1.hok.fresh hge)
theorem plain_zip {K : PySem.W.Frag} {l1 l2 : Addr} {xs ys : List V} {H1 : Hp} (h1 : SqL K H1 l1 xs) (h2 : SqL K H1 l2 ys) : Plain2 K (Itz K l1 l2) H1 (min xs.length ys.length) (fun i => (xs[i]?).getD .non) (fun i => (ys[i]?).getD .non) := fun H2 s i => by
  refine ⟨fun hi => ⟨⟨xs, ys, xs[i]'(by omega), ys[i]'(by omega), s.seq h1, s.seq h2, by simp [show i < xs.length by omega], by simp [show i < ys.length by omega]⟩, fun x H' y => ?_⟩, fun e => ⟨xs, ys, s.seq h1, s.seq h2, ?_⟩⟩
  · obtain ⟨T, a, b, rfl, hT, rfl, e1, e2⟩ := y
    refine ⟨Same.new hT, T, rfl, ?_⟩
    show SqT K _ T [(xs[i]?).getD .non, (ys[i]?).getD .non]
    rw [e1 xs (s.seq h1), e2 ys (s.seq h2)]
    exact SqT.of upd_same
  · rcases Nat.le_total xs.length ys.length with h | h
    · exact .inl (List.getElem?_eq_none (by omega))
    · exact .inr (List.getElem?_eq_none (by omega))
/-! ### all, any of a list of truths -/
theorem all_range (bs : List Bool) : (List.range bs.length).all (fun i => (bs[i]?).getD false) = bs.all id := by
  rw [Bool.eq_iff_iff, List.all_eq_true, List.all_eq_true]
  constructor
  · intro h b hb
    obtain ⟨i, hi, rfl⟩ := List.getElem_of_mem hb
    have := h i (List.mem_range.mpr hi)
    simpa [hi] using this
  · intro h i hi
    have hi' := List.mem_range.mp hi
    have := h bs[i] (List.getElem_mem hi')
    simpa [hi'] using this
theorem rel_bools {bs : List Bool} {us : List Value} (r : Vals (bs.map V.bl) us) : us = bs.map Value.bool := by
  induction bs generalizing us with
  | nil => cases r; rfl
  | cons b r' ih =>
    cases r with
    | cons p q => rw [List.map_cons, ← ih q]; cases p; rfl
theorem call_allB (hc : X.calm = true) : CallR X (.builtin "all") (fun xs H Q => ∃ (p : Addr) (bs : List Bool), xs = [.ref p] ∧ SqL X.K H p (bs.map V.bl) ∧ Q (.bl (bs.all id)) H) := by
  intro pins s σ H xs us Q I r h
  obtain ⟨p, bs, rfl, hq, q⟩ := h
  obtain ⟨u, rfl, ru⟩ := vals_one r
  cases ru
  obtain ⟨its, rv, pl, hz⟩ := I.list hq
  have e := rel_bools rv
  subst e
  have a1 : p < s.heap.objs.size := by obtain ⟨_, e, _⟩ := pl.isList; exact Heap.lt_size e
  have hne : p ≠ s.heap.objs.size := Nat.ne_of_lt a1
  refine call_all_walk (wpAny_pyIter_list pl.isList ⟨_, _, _, _, _, _, fun i => (bs[i]?).getD false, rfl, Walks.list (A := X.A.in1) (show X.A.in1.handled = none from I.ok.hd hc) _ p hne _, ⟨⟨_, Heap.get?_push_size _ rfl, rfl, rfl⟩, Heap.IsList.push pl.isList _⟩, fun i v s' Q' E' hv hQ => ?_, fun h' tk hk => ?_⟩)
  · have hv' : (bs.map Value.bool)[i]? = some v := by simpa using hv
    have hQ : Q' ((bs[i]?).getD false) s' := hQ
    rw [List.getElem?_map] at hv'
    cases eb : bs[i]? with
    | none => rw [eb] at hv'; cases hv'
    | some b =>
      rw [eb] at hv' hQ
      cases hv'
      exact wpAny_truthy_bool hQ
  · have ea : (List.range (bs.map Value.bool).toArray.size).all (fun i => (bs[i]?).getD false) = bs.all id := by
      rw [← all_range bs]; simp
    rw [ea]
    exact ⟨.bl _, H, I.kept (h' := h') (t' := tk) (fun b o eb => hk b o (by
      intro hm
      have : b = s.heap.objs.size := by simpa using hm
      rw [this] at eb
      exact absurd (Heap.lt_size eb) (Nat.lt_irrefl _)) (Heap.get?_push_of_some _ eb)), rfl, q⟩
end
end Cv

namespace Cv
open PySem PySem.Spec PyProof.Rows L2
/-! ### the end of a list while an exception is handled; any of a list of truths there -/
section
variable {prog : Program} {w : World} {A : Around} {E : Value → Shared → Prop} {s : Shared}
end
section
variable {X : Cx}
end
end Cv

namespace Cv
open PySem PySem.Spec PyProof.Rows L2
/-! ### promises of what is refused -/
theorem st2 {l : L2.St} (h : l.length = 2) : ∃ a b, l = [a, b] := by
  match l, h with
  | [a, b], _ => exact ⟨a, b, rfl⟩
/-! ### is, is not of two truths -/
section
variable {X : Cx}
end
end Cv
namespace Cv
open PySem PySem.Spec PyProof.Rows L2
/-! ### what goes on is read once -/
end Cv

namespace Cv
open PySem PySem.Spec PyProof.Rows L2
section
set_option autoImplicit true
@[irreducible] noncomputable def PEi (X : Cx) (e : Expr) (t : TE) : Prop := PE X e t
@[irreducible] noncomputable def PAi (X : Cx) (e : List Expr) (t : TA) : Prop := PA X e t
@[irreducible] noncomputable def PTi (X : Cx) (e : Expr) (t : TT) : Prop := PT X e t
@[irreducible] noncomputable def PWi (X : Cx) (e : Expr) (t : TT) : Prop := PW X e t
@[irreducible] noncomputable def PSi (X : Cx) (e : Stmt) (t : TS) : Prop := PS X e t
@[irreducible] noncomputable def PSsi (X : Cx) (e : List Stmt) (t : TS) : Prop := PSs X e t
@[irreducible] noncomputable def PGi (X : Cx) (e : Expr) (t : TG) : Prop := PG X e t
@[irreducible] noncomputable def PGsi (X : Cx) (e : List Expr) (t : TGs) : Prop := PGs X e t
@[irreducible] noncomputable def PIi (X : Cx) (tg e : Expr) (t : TI) : Prop := PI X tg e t
@[irreducible] noncomputable def POi (X : Cx) (e : Option Expr) (t : TO) : Prop := PO X e t
theorem pvI  (i : Nat) {x : Str} {pos : Pos} (hN : X.N[i]? = some x := by rfl) (hv : Vis X.env.scope x := by first | exact Or.inl rfl | exact Or.inr (Or.inl rfl) | exact Or.inr (Or.inr rfl)) (hd : (x == ("__debug__" : Str)) = false := by decide) (hcd : (x == ("__classdict__" : Str)) = false := by decide) : PEi X (.Name x pos) (tVar i) := by with_unfolding_all exact pv (i := i) (hN := hN) (hv := hv) (hd := hd) (hcd := hcd)
theorem pe_intI  {i j pos} : PEi X (.Constant (.int i) j pos) (tC (.int i)) := by with_unfolding_all exact pe_int 
theorem pe_blI  {b j pos} : PEi X (.Constant (.bool b) j pos) (tC (.bl b)) := by with_unfolding_all exact pe_bl 
theorem pe_strI  {x j pos} : PEi X (.Constant (.str x) j pos) (tC (.str x)) := by with_unfolding_all exact pe_str 
theorem pe_globI  {x : Str} {v : V} {u : Value} {pos : Pos} (hg : Gl X x) (hm : X.mg x = some u) (r : RelV v u) (hd : (x == ("__debug__" : Str)) = false := by decide) : PEi X (.Name x pos) (tC v) := by with_unfolding_all exact pe_glob (hg := hg) (hm := hm) (r := r) (hd := hd)
theorem pe_bltnI  {x : Str} {v : V} {u : Value} {pos : Pos} (hg : Gl X x) (hm : X.mg x = none) (hv : bootBuiltins x = some u) (r : RelV v u) (hn : x ≠ "__name__" := by decide) (hd : (x == ("__debug__" : Str)) = false := by decide) : PEi X (.Name x pos) (tC v) := by with_unfolding_all exact pe_bltn (hg := hg) (hm := hm) (hv := hv) (r := r) (hn := hn) (hd := hd)
theorem pe_opI  {op : Operator} {r : R2} (ho : OpR X (binaryOp op) r) (ha : PEi X a ta) (hb : PEi X b tb) : PEi X (.BinOp a op b pos) (tOp r ta tb) := by with_unfolding_all exact pe_op (ho := ho) (ha := ha) (hb := hb)
theorem pe_unI  {op : UnaryOp} {r : V → Hp → VK → Prop} (ho : UnR X (unaryOp op) r) (ha : PEi X a ta) : PEi X (.UnaryOp op a pos) (tUn r ta) := by with_unfolding_all exact pe_un (ho := ho) (ha := ha)
theorem pe_cmpRI  {op : CmpOp} {r : R2} (ho : OpR X (compareOp op) r) (ha : PEi X a ta) (hb : PEi X b tb) (hm : behindInMarks op b = false) : PEi X (.Compare a [op] [b] pos) (tOp r ta tb) := by with_unfolding_all exact pe_cmpR (ho := ho) (ha := ha) (hb := hb) (hm := hm)
theorem pe_andI {rest : List Expr} (ha : PEi X a ta) (hb : PEi X (.BoolOp .And (b :: rest) pos) tb) : PEi X (.BoolOp .And (a :: b :: rest) pos) (tAndV ta tb) := by with_unfolding_all exact pe_and (ha := ha) (hb := hb)
theorem pe_oneI  {op} {t : TE} (h : PEi X a t) : PEi X (.BoolOp op [a] pos) t := by with_unfolding_all exact pe_one (h := h)
theorem pe_fnI  (D : DefOk X.prog X.w X.K X.mg X.base CX k x ps sp) (hr : Room j X.A) (hx : Passes CX X E) (ha : PAi X (e :: es) t) (hk : k ≤ j := by decide) (hg : Gl X x := by rfl) (hdb : (x == ("__debug__" : Str)) = false := by decide) (he : starEach (e :: es) X.env = (false, eval e X.env) :: starEach es X.env := by rfl) (hpl : (backTo pos (starEach es X.env)).any (·.1) = false := by rfl) : PEi X (.Call (.Name x p) (e :: es) [] pos) (tFn sp E t) := by with_unfolding_all exact pe_fn (D := D) (hr := hr) (hx := hx) (ha := ha) (hk := hk) (hg := hg) (hdb := hdb) (he := he) (hpl := hpl)
theorem pe_callBI {id : String} (hc : CallR X (.builtin id) r) (hg : Gl X x) (hm : X.mg x = none) (hv : bootBuiltins x = some (.builtin id)) (ha : PAi X (e :: es) t) (hn : x ≠ "__name__" := by decide) (hdb : (x == ("__debug__" : Str)) = false := by decide) (he : starEach (e :: es) X.env = (false, eval e X.env) :: starEach es X.env := by rfl) (hpl : (backTo pos (starEach es X.env)).any (·.1) = false := by rfl) : PEi X (.Call (.Name x p) (e :: es) [] pos) (tCB r t) := by with_unfolding_all exact pe_callB (hc := hc) (hg := hg) (hm := hm) (hv := hv) (ha := ha) (hn := hn) (hdb := hdb) (he := he) (hpl := hpl)
theorem pe_callTyI  (hc : CallR X (.type T) r) (hg : Gl X x) (hm : X.mg x = none) (hv : bootBuiltins x = some (.type T)) (ha : PAi X (e :: es) t) (hn : x ≠ "__name__" := by decide) (hdb : (x == ("__debug__" : Str)) = false := by decide) (he : starEach (e :: es) X.env = (false, eval e X.env) :: starEach es X.env := by rfl) (hpl : (backTo pos (starEach es X.env)).any (·.1) = false := by rfl) : PEi X (.Call (.Name x p) (e :: es) [] pos) (tCB r t) := by with_unfolding_all exact pe_callTy (hc := hc) (hg := hg) (hm := hm) (hv := hv) (ha := ha) (hn := hn) (hdb := hdb) (he := he) (hpl := hpl)
theorem pe_bmI {id : String} (pa : PlainAttrs T) (slot : Slot T name id) (hty : typeOf (.builtin id) = pure (.type "method_descriptor")) (hm : MtR X id r) (ho : PEi X o to) (ha : PAi X (e :: es) t) (hbase : attributeBase o name X.env (eval o X.env) = eval o X.env := by rfl) (hfew : ((backTo cpos (starEach (e :: es) X.env)).all (fun x => !x.1) && (backToKw cpos (keywordEach [] X.env)).all (fun x => x.1.isSome)
      && decide ((e :: es).length + ([] : List Keyword).length + (if ([] : List Keyword).isEmpty then 0 else 1) < 30)) = true := by rfl) (hline : (apos.endLine == cpos.line) = true := by rfl) (hs : starEach (e :: es) X.env = (false, eval e X.env) :: starEach es X.env := by rfl) (hplain : (backTo cpos (starEach es X.env)).any (·.1) = false := by rfl) : PEi X (.Call (.Attribute o name apos) (e :: es) [] cpos) (tBM X.K T r to t) := by with_unfolding_all exact pe_bm (pa := pa) (slot := slot) (hty := hty) (hm := hm) (ho := ho) (ha := ha) (hbase := hbase) (hfew := hfew) (hline := hline) (hs := hs) (hplain := hplain)
theorem pe_bm0I {id : String} (pa : PlainAttrs T) (slot : Slot T name id) (hty : typeOf (.builtin id) = pure (.type "method_descriptor")) (hm : MtR X id r) (ho : PEi X o to) (hbase : attributeBase o name X.env (eval o X.env) = eval o X.env := by rfl) (hline : (apos.endLine == cpos.line) = true := by rfl) : PEi X (.Call (.Attribute o name apos) [] [] cpos) (tBM0 X.K T r to) := by with_unfolding_all exact pe_bm0 (pa := pa) (slot := slot) (hty := hty) (hm := hm) (ho := ho) (hbase := hbase) (hline := hline)
theorem pe_ixI  {r : R2} (hr : IxR X r) (ha : PEi X a ta) (hb : PEi X b tb) (hs : PlainIx b) : PEi X (.Subscript a b pos) (tOp r ta tb) := by with_unfolding_all exact pe_ix (hr := hr) (ha := ha) (hb := hb) (hs := hs)
theorem pe_sliceI {lo hi : Option Expr} {r : V → Option Int → Option Int → Hp → VK → Prop} (hr : SlR X r) (he : PEi X e te) (hl : POi X lo tl) (hu : POi X hi th) : PEi X (.Subscript e (.Slice lo hi none p2) pos) (tSl r te tl th) := by with_unfolding_all exact pe_slice (hr := hr) (he := he) (hl := hl) (hu := hu)
theorem pe_tupI  {x1} (h : PAi X es t) : PEi X (.Tuple es x1 pos) (tTup t) := by with_unfolding_all exact pe_tup (h := h)
theorem pe_lstI  (h : PAi X es t) : PEi X (.List es pos) (tLst t) := by with_unfolding_all exact pe_lst (h := h)
theorem pe_compSI  {tg elt iter : Expr} {os : List Str} {pos : Pos} {scope : Scope} {wi : TI} {g : TG} {te : TE} {caps : List (Nat × Str)} (N : List Str) (sc : Scope) (hi : PIi X tg iter wi) (hg : ∀ cl C s0 H0 fp, PGi (cxComp X scope cl (os ++ caps.map (·.2)) C s0 H0 fp) tg g) (he : ∀ cl C s0 H0 fp, PEi (cxComp X scope cl (os ++ caps.map (·.2)) C s0 H0 fp) elt te) (ok : compOk N sc scope caps = true) (hN : X.N = N := by rfl) (hsc : X.env.scope = sc := by rfl) (hc : X.calm = true := by rfl) (hfs : ∀ v, foldedSetIterable iter X.env v = pure v := by intro _; rfl) : PEi X (.ListComp elt [⟨tg, iter, [], 0⟩] scope pos) (tCompG os.length wi g te (caps.map (·.1))) := by with_unfolding_all exact pe_compS (N := N) (sc := sc) (hi := hi) (hg := hg) (he := he) (ok := ok) (hN := hN) (hsc := hsc) (hc := hc) (hfs := hfs)
theorem pa_nilI   : PAi X [] tNil := by with_unfolding_all exact pa_nil 
theorem pa_consI  (ha : PEi X e te) (hr : PAi X es t) (hs : starEach (e :: es) X.env = (false, eval e X.env) :: starEach es X.env := by rfl) : PAi X (e :: es) (tCons te t) := by with_unfolding_all exact pa_cons (ha := ha) (hr := hr) (hs := hs)
theorem pt_cmpRI  {op : CmpOp} {r : R2} (ho : OpR X (compareOp op) r) (ha : PEi X a ta) (hb : PEi X b tb) (hm : behindInMarks op b = false) : PTi X (.Compare a [op] [b] pos) (tTest (tOp r ta tb)) := by with_unfolding_all exact pt_cmpR (ho := ho) (ha := ha) (hb := hb) (hm := hm)
theorem pt_chainI  {op op' : CmpOp} {r r' : R2} (ho : OpR X (compareOp op) r) (ho' : OpR X (compareOp op') r') (ha : PEi X a ta) (hb : PEi X b tb) (hc : PEi X c tc) (hm : lastMarks [op, op'] [b, c] = false := by with_unfolding_all rfl) : PTi X (.Compare a [op, op'] [b, c] pos) (tTest (tChain r r' ta tb tc)) := by with_unfolding_all exact pt_chain (ho := ho) (ho' := ho') (ha := ha) (hb := hb) (hc := hc) (hm := hm)
theorem pt_notI  (ha : PTi X a tA) : PTi X (.UnaryOp .Not a pos) (tNot tA) := by with_unfolding_all exact pt_not (ha := ha)
theorem pt_valI  {e : Expr} {t : TE} (h : PEi X e t) (he : ∀ whole, isTrue e X.env whole = (do let v ← whole; standAt e.pos; holding [v] (truthy v)) := by intro _; rfl) : PTi X e (tB t) := by with_unfolding_all exact pt_val (h := h) (he := he)
theorem PW_ptI  {X : Cx} {e : Expr} {t : TT} (h : PWi X e t) : PTi X e t := by with_unfolding_all exact L2.PW.pt (h := h)
theorem pw_and1I  (ha : PTi X a tA) : PWi X (.BoolOp .And [a] pos) tA := by with_unfolding_all exact pw_and1 (ha := ha)
theorem pw_or1I  (ha : PTi X a tA) : PWi X (.BoolOp .Or [a] pos) tA := by with_unfolding_all exact pw_or1 (ha := ha)
theorem pw_andI {rest : List Expr} (ha : PTi X a tA) (hb : PWi X (.BoolOp .And (b :: rest) pos) tB') : PWi X (.BoolOp .And (a :: b :: rest) pos) (tAnd tA tB') := by with_unfolding_all exact pw_and (ha := ha) (hb := hb)
theorem pw_orI {rest : List Expr} (ha : PTi X a tA) (hb : PWi X (.BoolOp .Or (b :: rest) pos) tB') : PWi X (.BoolOp .Or (a :: b :: rest) pos) (tOr tA tB') := by with_unfolding_all exact pw_or (ha := ha) (hb := hb)
theorem pss_nilI   : PSsi X [] tNext := by with_unfolding_all exact pss_nil 
theorem pss_consI {st : Stmt} {rest : List Stmt} (h1 : PSi X st t) (h2 : PSsi X rest u) : PSsi X (st :: rest) (tSeq t u) := by with_unfolding_all exact pss_cons (h1 := h1) (h2 := h2)
theorem pss_oneI {st : Stmt} (h1 : PSi X st t) : PSsi X [st] t := by with_unfolding_all exact pss_one (h1 := h1)
theorem ps_exprI  (he : PEi X e te) (hs : swapsWith e none pos.line X.env = pure false := by rfl) : PSi X (.Expr e pos) (tDrop te) := by with_unfolding_all exact ps_expr (he := he) (hs := hs)
theorem ps_retI  (he : PEi X e te) : PSi X (.Return (some e) pos) (tRet te) := by with_unfolding_all exact ps_ret (he := he)
theorem ps_ifI  {c : Expr} {a b : List Stmt} {tc : TT} (hc : PTi X c tc) (ha : PSsi X a t) (hb : PSsi X b u) : PSi X (.If c a b pos) (tIfS tc t u) := by with_unfolding_all exact ps_if (hc := hc) (ha := ha) (hb := hb)
theorem ps_asgI  {tg e : Expr} {te : TE} {g : TG} (he : PEi X e te) (hg : PGi X tg g) (hs : swapsWithSole [tg] e pos.line X.env = pure false := by rfl) (hw : swappedStores [tg] e X.env = pure none := by rfl) (h1 : (assignEach [tg] X.env).map (·.2) = [assign tg X.env] := by rfl) : PSi X (.Assign [tg] e pos) (tAsg te g) := by with_unfolding_all exact ps_asg (he := he) (hg := hg) (hs := hs) (hw := hw) (h1 := h1)
theorem ps_setI  {i : Nat} {x : Str} {e : Expr} {te : TE} {pos' : Pos} (hN : X.N.Nodup) (hi : X.N[i]? = some x) (hx : Loc X.env.scope x) (he : PEi X e te) (hs : swapsWith e (some (.Name x pos')) pos.line X.env = pure false := by rfl) (hf : X.fn x = true ∨ X.env.scope.names.lookup x = some .local := by first | exact .inl rfl | exact .inr rfl | assumption) : PSi X (.Assign [.Name x pos'] e pos) (tAsg te (gName i)) := by with_unfolding_all exact ps_set (hN := hN) (hi := hi) (hx := hx) (he := he) (hs := hs) (hf := hf)
theorem ps_whileI  {c : Expr} {body : List Stmt} {tc : TT} {tb : TS} (hp : PassesOwn (model X.prog X.w) X.A X.env X.xe) (hc : PTi X c tc) (hb : PSsi X body tb) : PSi X (.While c body [] pos) (tWhile tc tb) := by with_unfolding_all exact ps_while (hp := hp) (hc := hc) (hb := hb)
theorem ps_forI  {iter : Expr} {body : List Stmt} {wi : TI} {g : TG} {tb : TS} {pos : Pos} (hp : PassesOwn (model X.prog X.w) X.A X.env X.xe) (hc : X.calm = true) (hi : PIi X tg iter wi) (hg : PGi X tg g) (hb : PSsi X body tb) (hs : ∀ x, foldedSetIterable iter X.env x = pure x := by intro _; rfl) : PSi X (.For tg iter body [] pos) (tFor wi g tb) := by with_unfolding_all exact ps_for (hp := hp) (hc := hc) (hi := hi) (hg := hg) (hb := hb) (hs := hs)
theorem ps_compSI  {tg elt iter : Expr} {os : List Str} {i : Nat} {y : Str} {py pos spos : Pos} {scope : Scope} {wi : TI} {g : TG} {te : TE} {caps : List (Nat × Str)} (N : List Str) (sc : Scope) (hNd : X.N.Nodup) (hy : X.N[i]? = some y) (hl : X.env.kindOf y = some .local) (hi : PIi X tg iter wi) (hg : ∀ cl C s0 H0 fp, PGi (cxComp X scope cl (os ++ caps.map (·.2)) C s0 H0 fp) tg g) (he : ∀ cl C s0 H0 fp, PEi (cxComp X scope cl (os ++ caps.map (·.2)) C s0 H0 fp) elt te) (ok : compOk N sc scope caps = true) (hN : X.N = N := by rfl) (hsc : X.env.scope = sc := by rfl) (hc : X.calm = true := by rfl) (hfs : ∀ v, foldedSetIterable iter X.env v = pure v := by intro _; rfl) (hsw : swapsWith (.ListComp elt [⟨tg, iter, [], 0⟩] scope pos) (some (.Name y py)) spos.line X.env = pure true := by rfl) : PSi X (.Assign [.Name y py] (.ListComp elt [⟨tg, iter, [], 0⟩] scope pos) spos) (tAsg (tCompG os.length wi g te (caps.map (·.1))) (gName i)) := by with_unfolding_all exact ps_compS (N := N) (sc := sc) (hNd := hNd) (hy := hy) (hl := hl) (hi := hi) (hg := hg) (he := he) (ok := ok) (hN := hN) (hsc := hsc) (hc := hc) (hfs := hfs) (hsw := hsw)
theorem ps_raiseI  (th : Throws X E) (c : XCls X.K X.mg x C) (ha : PAi X [e₀] ta) (hc : X.calm = true := by rfl) (hg : Gl X x := by rfl) (he : starEach [e₀] X.env = [(false, eval e₀ X.env)] := by rfl) (hd : (x == ("__debug__" : Str)) = false := by decide) : PSi X (.Raise (some (.Call (.Name x np) [e₀] [] cpos)) none pos) (tRaise E C ta) := by with_unfolding_all exact ps_raise (th := th) (c := c) (ha := ha) (hc := hc) (hg := hg) (he := he) (hd := hd)
theorem ps_try1I  {n : Nat} {nm c : Str} {SC : Addr} {body : List Stmt} {b0 : Stmt} {suite : List Stmt} {np hpos pos : Pos} {tb : XK → TS} {ts : Addr → TS} (cb : X.mg c = some (.ref SC)) (hN : X.N.Nodup) (hb : ∀ xe pn Ex, Passes (CXx X.prog X.w) (tryX X xe pn) Ex → PSsi (tryX X xe pn) body (tb Ex)) (hs : ∀ x, PSsi (suiteX X x) (b0 :: suite) (ts x)) (hi : X.N[n]? = some nm := by rfl) (hx : X.env.scope.names.lookup nm = some .local := by rfl) (hg : Gl X c := by rfl) (hst : X.stack = X.env :: X.outer := by rfl) (hfr : X.env.frame = some X.env.locals := by rfl) (hd : (c == ("__debug__" : Str)) = false := by decide) : PSi X (.Try body [.ExceptHandler (some (.Name c np)) (some nm) (b0 :: suite) hpos] [] [] pos) (tTry X.K n SC tb ts) := by with_unfolding_all exact ps_try1 (cb := cb) (hN := hN) (hb := hb) (hs := hs) (hi := hi) (hx := hx) (hg := hg) (hst := hst) (hfr := hfr) (hd := hd)
theorem pg_nameI  {i : Nat} {x : Str} (hN : X.N.Nodup) (hi : X.N[i]? = some x) (hx : Loc X.env.scope x) (hf : X.fn x = true ∨ X.env.scope.names.lookup x = some .local := by first | exact .inl rfl | exact .inr rfl | assumption) : PGi X (.Name x pos) (gName i) := by with_unfolding_all exact pg_name (hN := hN) (hi := hi) (hx := hx) (hf := hf)
theorem pgs_nilI   : PGsi X [] gNil := by with_unfolding_all exact pgs_nil 
theorem pgs_consI  {e : Expr} {es : List Expr} {t : TG} {u : TGs} (h1 : PGi X e t) (h2 : PGsi X es u) (hs : (assignEach (e :: es) X.env).map (·.2) = assign e X.env :: (assignEach es X.env).map (·.2) := by rfl) : PGsi X (e :: es) (gCons t u) := by with_unfolding_all exact pgs_cons (h1 := h1) (h2 := h2) (hs := hs)
theorem pg_tupKI  (K : PySem.W.Frag) {es : List Expr} {k : Nat} {t : TGs} {n : Nat} {pos : Pos} (hc : X.calm = true) (h : PGsi X es t) (hK : X.K = K := by rfl) (hn : (assignEach es X.env).length = n := by rfl) (hst : (assignEach es X.env).findIdx? (·.1) = none := by rfl) : PGi X (.Tuple es k pos) (gTup K n t) := by with_unfolding_all exact pg_tupK (K := K) (hc := hc) (h := h) (hK := hK) (hn := hn) (hst := hst)
theorem pi_listI  {l : Expr} {tl : TE} (hl : PEi X l tl) : PIi X tg l (iList X.K tl) := by with_unfolding_all exact pi_list (hl := hl)
theorem pi_range1I  {a : Expr} {ta : TA} {p pos : Pos} (hg : Gl X "range") (hm : X.mg "range" = none) (ha : PAi X [a] ta) (hs : starEach [a] X.env = [(false, eval a X.env)] := by rfl) : PIi X tg (.Call (.Name "range" p) [a] [] pos) (iRng1 ta) := by with_unfolding_all exact pi_range1 (hg := hg) (hm := hm) (ha := ha) (hs := hs)
theorem pi_zipI  {a b : Expr} {ta : TA} {p pos ppos : Pos} {elts : List Expr} {k0 : Nat} (hg : Gl X "zip") (hm : X.mg "zip" = none) (ha : PAi X [a, b] ta) (he : starEach [a, b] X.env = (false, eval a X.env) :: starEach [b] X.env := by rfl) (hpl : (backTo pos (starEach [b] X.env)).any (·.1) = false := by rfl) : PIi X (.Tuple elts k0 ppos) (.Call (.Name "zip" p) [a, b] [] pos) (iZip X.K ta) := by with_unfolding_all exact pi_zip (hg := hg) (hm := hm) (ha := ha) (he := he) (hpl := hpl)
theorem po_noneI   : POi X none tNoPart := by with_unfolding_all exact po_none 
theorem po_someI  (h : PEi X e te) : POi X (some e) (tPart te) := by with_unfolding_all exact po_some (h := h)
theorem def_okI {P : Program} {w : World} {K : PySem.W.Frag} {mg : Str → Option Value} {base : Heap} {x : Str} {st : Stmt} {N ps : List Str} {k : Nat} {sp : Sp} (F : FunAt K mg x st ps) (S : FnScope N ps (defScope st)) (len : ∀ vs H Q E, sp vs H Q E → vs.length = ps.length) (hbody : ∀ (f : Addr) (cdv : Value) (A : Around) (outer : List Env) (s : Shared) (H : Hp) (vs : List V) (Q : VK) (E : XK), Room k (A.deeper (envOfC x (defScope st) s.heap.objs.size f cdv)) → sp vs H Q E →
      ∃ t, PSsi (cxOf CX0 P w K mg base N x (defScope st) f cdv A outer s H E).nox (defBody st) t ∧ t { nx := fun _ H' => Q .non H', rt := Q } (start N vs) H) : DefOk P w K mg base CX0 (k + 1) x ps sp := by with_unfolding_all exact def_ok (F := F) (S := S) (len := len) (hbody := hbody)
end
end Cv

namespace Cv
open PySem PySem.Spec PyProof.Rows L2
/-- a def's body read in two parts: the second one is hidden while the first one is read -/
theorem if_mergeN {c : Bool} {body : TS} {D : Ends} {σ : L2.St} {H : Hp} (S : L2.St → Hp → Prop) (h : ∀ σ' H', S σ' H' → D.nx σ' H') (h1 : ∀ N : L2.St → Hp → Prop, (∀ σ' H', S σ' H' → N σ' H') → c = true → body { D with nx := N } σ H) (h2 : c = false → S σ H) : if c = true then body D σ H else tNext D σ H := by
  cases c with
  | true => rw [if_pos rfl]; exact h1 D.nx h rfl
  | false => rw [if_neg Bool.false_ne_true]; exact h σ H (h2 rfl)
theorem uln0 {α : Type} {P : List α → Prop} (h : P []) : ∀ us : List α, us.length = 0 → P us
  | [], _ => h
theorem ulnS {α : Type} {n : Nat} {P : List α → Prop} (h : ∀ a, ∀ us : List α, us.length = n → P (a :: us)) : ∀ us : List α, us.length = n + 1 → P us
  | [], e => nomatch e
  | a :: us, e => h a us (Nat.succ.inj e)
@[elab_as_elim] theorem uln1 {α : Type} {P : List α → Prop} (h : ∀ a, P [a]) (us : List α) (hl : us.length = 1) : P us := (ulnS fun a => uln0 (h a)) us hl
@[elab_as_elim] theorem uln2 {α : Type} {P : List α → Prop} (h : ∀ a b, P [a, b]) (us : List α) (hl : us.length = 2) : P us := (ulnS fun a => ulnS fun b => uln0 (h a b)) us hl
@[elab_as_elim] theorem uln3 {α : Type} {P : List α → Prop} (h : ∀ a b c, P [a, b, c]) (us : List α) (hl : us.length = 3) : P us := (ulnS fun a => ulnS fun b => ulnS fun c => uln0 (h a b c)) us hl
@[elab_as_elim] theorem uln4 {α : Type} {P : List α → Prop} (h : ∀ a b c d, P [a, b, c, d]) (us : List α) (hl : us.length = 4) : P us := (ulnS fun a => ulnS fun b => ulnS fun c => ulnS fun d => uln0 (h a b c d)) us hl
end Cv

namespace Cv
open PySem PySem.Spec PyProof.Rows L2
/-! ### points and steps -/
noncomputable def PtV (H : Hp) (v : V) (x y : Rat) : Prop := ∃ a vx vy, v = .ref a ∧ H a = some (.tup [vx, vy]) ∧ ShV H vx x ∧ ShV H vy y
theorem PtV.same {H H' : Hp} {v : V} {x y : Rat} (h : PtV H v x y) (e : Same H H') : PtV H' v x y := by
  obtain ⟨a, vx, vy, rfl, h, h1, h2⟩ := h
  exact ⟨a, vx, vy, rfl, e _ _ h, h1.same e, h2.same e⟩
end Cv
namespace Cv
open PySem PySem.Spec PyProof.Rows L2
/-! ### pairs that are not in lowest terms, as the law reckons them -/
noncomputable def RwV (H : Hp) (v : V) (t b : Int) : Prop := ∃ a, v = .ref a ∧ H a = some (.tup [.int t, .int b])
theorem RwV.same {H H' : Hp} {v : V} {t b : Int} (h : RwV H v t b) (e : Same H H') : RwV H' v t b := by
  obtain ⟨a, rfl, h⟩ := h
  exact ⟨a, rfl, e _ _ h⟩
theorem ShV.rw {H : Hp} {v : V} {q : Rat} (h : ShV H v q) : RwV H v q.num q.den := h
end Cv

namespace Cv
open PySem PySem.Spec PyProof.Rows L2
theorem upd_keep {H : Hp} {p b : Addr} {o x : HO} (h : H p = none) (e : H b = some x) : upd H p o b = some x := by rw [upd_ne (ne_of_none e h)]; exact e
theorem Bd.zero' : Bd 1 (0 : Rat) := ⟨⟨by decide⟩, ⟨by decide⟩⟩
theorem Bd.one' : Bd 1 (1 : Rat) := ⟨⟨by decide⟩, ⟨by decide⟩⟩
theorem PtV.tup {H H' : Hp} {v : V} {x y : Rat} (h : PtV H v x y) (e : Tup H H') : PtV H' v x y := by
  obtain ⟨a, vx, vy, rfl, h, h1, h2⟩ := h
  exact ⟨a, vx, vy, rfl, e _ _ h, h1.tup e, h2.tup e⟩
theorem RwV.tup {H H' : Hp} {v : V} {x y : Int} (h : RwV H v x y) (e : Tup H H') : RwV H' v x y := by
  obtain ⟨a, rfl, h⟩ := h
  exact ⟨a, rfl, e _ _ h⟩
theorem SqL.same' {K : PySem.W.Frag} {H H' : Hp} {a : Addr} {xs : List V} (h : SqL K H a xs) (e : Same H H') : SqL K H' a xs := e.seq h
theorem SqT.same' {K : PySem.W.Frag} {H H' : Hp} {a : Addr} {xs : List V} (h : SqT K H a xs) (e : Same H H') : SqT K H' a xs := SqT.same e h
end Cv

namespace Cv
open PySem PySem.Spec PyProof.Rows L2
/-! ### pairs not in lowest terms, by what they are worth -/
noncomputable def RwQ (H : Hp) (v : V) (r : Rat) (n : Nat) : Prop := ∃ t b : Int, RwV H v t b ∧ 0 < b ∧ (t : Rat) = r * (b : Rat) ∧ Sz n t ∧ Sz n b
theorem RwQ.same {H H' : Hp} {v : V} {r : Rat} {n : Nat} (h : RwQ H v r n) (e : Same H H') : RwQ H' v r n := by
  obtain ⟨t, b, h1, h2⟩ := h
  exact ⟨t, b, h1.same e, h2⟩
theorem RwQ.tup {H H' : Hp} {v : V} {r : Rat} {n : Nat} (h : RwQ H v r n) (e : Tup H H') : RwQ H' v r n := by
  obtain ⟨t, b, h1, h2⟩ := h
  exact ⟨t, b, h1.tup e, h2⟩
end Cv

namespace Cv
/-! ### curves by rows, over Rat -/
noncomputable abbrev Pt := Rat × Rat
/-! ### sizes: tops over one bottom -/
noncomputable def Ov (D : Int) (n : Nat) (x : Rat) : Prop := ∃ m : Int, x * (D : Rat) = (m : Rat) ∧ Sz n m
theorem Ov.mono {D : Int} {n k : Nat} {x : Rat} (h : Ov D n x) (hk : n ≤ k) : Ov D k x := by
  obtain ⟨m, e, z⟩ := h
  exact ⟨m, e, z.mono hk⟩
theorem Ov.bd {D : Int} {n d : Nat} {x : Rat} (h : Ov D n x) (hD : D ≠ 0) (hd : Sz d D) : Bd (max n d) x := by
  obtain ⟨m, e, z⟩ := h
  rw [eq_divInt hD e]
  exact Bd.of z hd hD
theorem Ov.add {D E : Int} {n m d e : Nat} {x y : Rat} (hx : Ov D n x) (hy : Ov E m y) (hd : Sz d D) (he : Sz e E) : Ov (D * E) (max (n + e) (m + d) + 1) (x + y) := by
  obtain ⟨m1, e1, z1⟩ := hx
  obtain ⟨m2, e2, z2⟩ := hy
  refine ⟨m1 * E + m2 * D, ?_, ?_⟩
  · simp only [Rat.intCast_add, Rat.intCast_mul]
    rw [← e1, ← e2]; grind
  · exact ((z1.mul he).add (z2.mul hd)).mono (by omega)
theorem Ov.mul {D E : Int} {n m : Nat} {x y : Rat} (hx : Ov D n x) (hy : Ov E m y) : Ov (D * E) (n + m) (x * y) := by
  obtain ⟨m1, e1, z1⟩ := hx
  obtain ⟨m2, e2, z2⟩ := hy
  refine ⟨m1 * m2, ?_, z1.mul z2⟩
  simp only [Rat.intCast_mul]
  rw [← e1, ← e2]; grind
theorem Bd.ov {n : Nat} {x : Rat} (h : Bd n x) : Ov x.den n x := ⟨x.num, (num_cast x).symm, h.num⟩
noncomputable def OvP (D : Int) (n : Nat) (p : Pt) : Prop := Ov D n p.1 ∧ Ov D n p.2
end Cv

namespace Cv
open PySem PySem.Spec PyProof.Rows L2
/-! ### lists of points -/
structure PtsV (H : Hp) (vs : List V) (ps : List Pt) : Prop where
  len : vs.length = ps.length
  get : ∀ (i : Nat) v p, vs[i]? = some v → ps[i]? = some p → PtV H v p.1 p.2
theorem PtsV.tup {H H' : Hp} {vs : List V} {ps : List Pt} (h : PtsV H vs ps) (t : Tup H H') : PtsV H' vs ps := ⟨h.len, fun i v p e1 e2 => (h.get i v p e1 e2).tup t⟩
theorem PtsV.same {H H' : Hp} {vs : List V} {ps : List Pt} (h : PtsV H vs ps) (t : Same H H') : PtsV H' vs ps := h.tup t.tup
theorem PtsV.nil (H : Hp) : PtsV H [] [] := ⟨rfl, fun i v p e _ => by simp at e⟩
theorem PtsV.at {H : Hp} {vs : List V} {ps : List Pt} (h : PtsV H vs ps) {i : Nat} {p : Pt} (hp : ps[i]? = some p) : ∃ v, vs[i]? = some v ∧ PtV H v p.1 p.2 := by
  have hi : i < ps.length := (List.getElem?_eq_some_iff.mp hp).1
  have e : vs[i]? = some (vs[i]'(by rw [h.len]; exact hi)) := List.getElem?_eq_getElem _
  exact ⟨_, e, h.get i _ p e hp⟩
theorem PtsV.of {H : Hp} {vs : List V} {ps : List Pt} (hl : vs.length = ps.length) (h : ∀ (i : Nat) v p, vs[i]? = some v → ps[i]? = some p → PtV H v p.1 p.2) : PtsV H vs ps := ⟨hl, h⟩
noncomputable def datPt (p : Pt) : PySem.W.Dat := .tuple [datSh p.1, datSh p.2]
noncomputable def datPts (ps : List Pt) : PySem.W.Dat := .list (ps.map datPt)
theorem datPt_inj {p q : Pt} : datPt p = datPt q ↔ p = q := by
  unfold datPt
  constructor
  · intro h
    simp only [PySem.W.Dat.tuple.injEq, List.cons.injEq, and_true] at h
    exact Prod.ext (datSh_inj.mp h.1) (datSh_inj.mp h.2)
  · intro h; rw [h]
theorem datPt_ok (p : Pt) (n : Nat) : PySem.W.kqdOk (n + 2) (datPt p) = true := by
  have h1 := datSh_ok p.1 n
  have h2 := datSh_ok p.2 n
  simp [datPt, PySem.W.kqdOk, h1, h2]
theorem datPts_ok (ps : List Pt) (n : Nat) : PySem.W.kqdOk (n + 3) (datPts ps) = true := by
  have h : ∀ p : Pt, PySem.W.kqdOk (n + 2) (datPt p) = true := fun p => datPt_ok p n
  simp [datPts, PySem.W.kqdOk, h]
theorem PtV.dn {K : PySem.W.Frag} {H : Hp} {v : V} {p : Pt} (h : PtV H v p.1 p.2) : Dn K H (datPt p) v := by
  obtain ⟨a, vx, vy, rfl, h, h1, h2⟩ := h
  unfold datPt
  simp only [Dn, DnAll]
  exact ⟨a, _, rfl, SqT.of h, _, _, rfl, h1.dn, _, _, rfl, h2.dn, rfl⟩
theorem dnAll_pts {K : PySem.W.Frag} {H : Hp} : ∀ {ps : List Pt} {vs : List V}, PtsV H vs ps → DnAll K H (ps.map datPt) vs
  | [], vs, h => by
    have : vs = [] := List.length_eq_zero_iff.mp h.len
    subst this
    simp [DnAll]
  | p :: ps, vs, h => by
    cases vs with
    | nil => have := h.len; simp at this
    | cons v vs =>
      simp only [List.map_cons, DnAll]
      exact ⟨v, vs, rfl, (h.get 0 v p rfl rfl).dn, dnAll_pts ⟨by have := h.len; simpa using this, fun i w q e1 e2 => h.get (i + 1) w q (by simpa using e1) (by simpa using e2)⟩⟩
theorem PtsV.dn {K : PySem.W.Frag} {H : Hp} {a : Addr} {vs : List V} {ps : List Pt} (h : PtsV H vs ps) (hs : SqL K H a vs) : Dn K H (datPts ps) (.ref a) := by
  unfold datPts
  simp only [Dn]
  exact ⟨a, vs, rfl, hs, dnAll_pts h⟩
/-! ### promises of the law's helpers -/
theorem atI_last' {α : Type} (xs : List α) (v : α) (h : xs[xs.length - 1]? = some v) (hl : 1 ≤ xs.length) : atI xs (-1) = some v := by
  rcases List.eq_nil_or_concat xs with rfl | ⟨ys, y, rfl⟩
  · simp at hl
  · have : (ys ++ [y])[ys.length]? = some v := by simpa using h
    have e : y = v := by simpa using this
    subst e
    have := atI_last ys y
    simpa using this
theorem atI_nat' {α : Type} {xs : List α} {j : Nat} {i : Int} {v : α} (e : i = (j : Int)) (h : xs[j]? = some v) : atI xs i = some v := by subst e; exact atI_nat h
end Cv

namespace Cv
open PySem PySem.Spec PyProof.Rows L2
theorem cut_from {α : Type} (f : α → V) (xs : List α) (k : Nat) (h : k ≤ xs.length) : cutV (xs.map f) (some (k : Int)) none = (xs.drop k).map f := by
  unfold cutV
  have e : HT.sIx (xs.map f).length 0 (some (k : Int)) = k := by
    have := HT.sIx_nat (xs.map f).length 0 k
    rw [List.length_map] at this
    rw [List.length_map]
    exact this.trans (by omega)
  rw [e, HT.sIx_none, ← List.map_drop]
  refine List.take_of_length_le ?_
  rw [List.length_map, List.length_drop, List.length_map]
  omega
theorem cut_fromI {α : Type} (f : α → V) (xs : List α) (k : Int) (n : Nat) (e : k = (n : Int)) (h : n ≤ xs.length) : cutV (xs.map f) (some k) none = (xs.drop n).map f := by subst e; exact cut_from f xs n h
theorem low_gcd {t b x : Int} (hx : 0 ≤ x) (e : Int.gcd x 0 = Int.gcd t b) : x = (Int.gcd t b : Int) := by
  rw [Int.gcd_zero] at e
  omega
/-- a list of lists of points -/
theorem getD_bnd {T : List Int} {lo hi : Int} (h : ∀ x ∈ T, lo ≤ x ∧ x ≤ hi) {j : Nat} (hj : j < T.length) : lo ≤ T.getD j 0 ∧ T.getD j 0 ≤ hi := by
  rw [List.getD_eq_getElem?_getD, List.getElem?_eq_getElem hj]
  exact h _ (List.getElem_mem hj)
/-- an item of a written table of numbers, and its bounds -/
theorem tab (T : List Int) (lo hi i : Int) (h : ∀ x ∈ T, lo ≤ x ∧ x ≤ hi) (h0 : 0 ≤ i) (h1 : i < (T.length : Int)) : ∃ v : Int, atI (T.map V.int) i = some (.int v) ∧ lo ≤ v ∧ v ≤ hi :=
  ⟨_, at_mapZ T i h0 h1, getD_bnd h (by omega)⟩
theorem sh_int (i : Int) : ((i : Rat).num = i) ∧ ((i : Rat).den = 1) := ⟨by simp, by simp⟩
theorem ShV.int {H : Hp} {a : Addr} {i : Int} (h : H a = some (.tup [.int i, .int 1])) : ShV H (.ref a) (i : Rat) := ⟨a, rfl, by rw [(sh_int i).1, (sh_int i).2]; exact h⟩
theorem p29 : (10 : Int) ^ (29 : Int).toNat = 100000000000000000000000000000 := by decide
theorem p9 : (10 : Int) ^ (9 : Int).toNat = 1000000000 := by decide
end Cv

namespace Cv
open PySem PySem.Spec PyProof.Rows L2
/-! ### maps -/
structure Mp where
  a : Rat
  b : Rat
  c : Rat
  d : Rat
  e : Rat
  f : Rat
noncomputable def MpV (H : Hp) (v : V) (m : Mp) : Prop := ∃ x v0 v1 v2 v3 v4 v5, v = .ref x ∧ H x = some (.tup [v0, v1, v2, v3, v4, v5]) ∧ ShV H v0 m.a ∧ ShV H v1 m.b ∧ ShV H v2 m.c ∧ ShV H v3 m.d ∧ ShV H v4 m.e ∧ ShV H v5 m.f
theorem MpV.tup {H H' : Hp} {v : V} {m : Mp} (h : MpV H v m) (t : Tup H H') : MpV H' v m := by
  obtain ⟨x, v0, v1, v2, v3, v4, v5, rfl, h, h0, h1, h2, h3, h4, h5⟩ := h
  exact ⟨x, v0, v1, v2, v3, v4, v5, rfl, t _ _ h, h0.tup t, h1.tup t, h2.tup t, h3.tup t, h4.tup t, h5.tup t⟩
theorem MpV.same {H H' : Hp} {v : V} {m : Mp} (h : MpV H v m) (t : Same H H') : MpV H' v m := h.tup t.tup
/-! the mathematics -/
/-! shares in a list, each of a bounded size -/
noncomputable def ShsV (n : Nat) (H : Hp) (vs : List V) : Prop := ∀ (i : Nat) v, vs[i]? = some v → ∃ q, ShV H v q ∧ Bd n q
theorem ShsV.tup {n : Nat} {H H' : Hp} {vs : List V} (h : ShsV n H vs) (t : Tup H H') : ShsV n H' vs := fun i v e => let ⟨q, w, b⟩ := h i v e; ⟨q, w.tup t, b⟩
theorem ShsV.mono {n m : Nat} {H : Hp} {vs : List V} (h : ShsV n H vs) (hm : n ≤ m) : ShsV m H vs := fun i v e => let ⟨q, w, b⟩ := h i v e; ⟨q, w, b.mono hm⟩
theorem same_upd {H H' : Hp} {D : Addr} {o : HO} (h : H D = none) (s : Same H H') : Same H (upd H' D o) := fun b u e => by rw [upd_ne (ne_of_none e h)]; exact s b u e
theorem PtsV.one {H : Hp} {v : V} {p : Pt} (h : PtV H v p.1 p.2) : PtsV H [v] [p] := ⟨rfl, fun i w q e1 e2 => by
  cases i with
  | zero => simp at e1 e2; subst e1 e2; exact h
  | succ i => simp at e1⟩
theorem dnP {K : PySem.W.Frag} {H : Hp} {a : Addr} {vs : List V} {ps : List Pt} (hs : H a = some (.lst vs)) (h : PtsV H vs ps) : Dn K H (datPts ps) (.ref a) := h.dn (SqL.of hs)
end Cv

namespace Cv
/-! ### axes: tops over all the bottoms -/
/-! ### lowest terms, bottom by bottom -/
/-! ### a common bottom -/
end Cv

namespace Cv
open PySem PySem.Spec PyProof.Rows L2
/-! ### lists of shares, axes -/
structure ShL (H : Hp) (vs : List V) (qs : List Rat) : Prop where
  len : vs.length = qs.length
  get : ∀ (i : Nat) v q, vs[i]? = some v → qs[i]? = some q → ShV H v q
theorem ShL.tup {H H' : Hp} {vs : List V} {qs : List Rat} (h : ShL H vs qs) (t : Tup H H') : ShL H' vs qs := ⟨h.len, fun i v q e1 e2 => (h.get i v q e1 e2).tup t⟩
theorem ShL.same {H H' : Hp} {vs : List V} {qs : List Rat} (h : ShL H vs qs) (t : Same H H') : ShL H' vs qs := h.tup t.tup
theorem ShL.at {H : Hp} {vs : List V} {qs : List Rat} (h : ShL H vs qs) {i : Nat} {q : Rat} (hq : qs[i]? = some q) : ∃ v, vs[i]? = some v ∧ ShV H v q := by
  have hi : i < qs.length := (List.getElem?_eq_some_iff.mp hq).1
  have e : vs[i]? = some (vs[i]'(by rw [h.len]; exact hi)) := List.getElem?_eq_getElem _
  exact ⟨_, e, h.get i _ q e hq⟩
noncomputable def AxV (H : Hp) (v : V) (n : Nat) (tops bs : List Int) : Prop := ∃ a lt lb, v = .ref a ∧ H a = some (.tup [.ref lt, .ref lb]) ∧ H lt = some (.lst (tops.map V.int)) ∧ H lb = some (.lst (bs.map V.int)) ∧ (∀ x ∈ tops, Sz n x) ∧ (∀ b ∈ bs, 0 < b ∧ Sz 9000 b) ∧ bs.length ≤ 100 ∧ tops.length ≤ 1000
theorem AxV.same {H H' : Hp} {v : V} {n : Nat} {tops bs : List Int} (h : AxV H v n tops bs) (s : Same H H') : AxV H' v n tops bs := by
  obtain ⟨a, lt, lb, e, h1, h2, h3, h4⟩ := h
  exact ⟨a, lt, lb, e, s _ _ h1, s _ _ h2, s _ _ h3, h4⟩
/-! the mathematics of the loops -/
theorem ShL.map {H : Hp} {ys : List V} {ps : List Pt} {f : Pt → Rat} (hl : ys.length = ps.length) (h : ∀ (i : Nat) v, ys[i]? = some v → ∀ p, ps[i]? = some p → ShV H v (f p)) : ShL H ys (ps.map f) := by
  refine ⟨by rw [hl, List.length_map], fun i v q e1 e2 => ?_⟩
  rw [List.getElem?_map] at e2
  cases e3 : ps[i]? with
  | none => rw [e3] at e2; cases e2
  | some p => rw [e3] at e2; cases e2; exact h i v e1 p e3
theorem int_at {t : List Int} {i : Nat} {x : Int} (h : t[i]? = some x) : ((t.map V.int)[i]?).getD V.non = .int x := by rw [List.getElem?_map, h]; rfl
end Cv

namespace Cv
open PySem PySem.Spec PyProof.Rows L2
/-! ### rows, polar points, cuts and stretches of the program -/
/-- a curve as the program takes it: its seats, a common bottom, sizes -/
theorem AxV.lst {H : Hp} {v : V} {n : Nat} {tops bs : List Int} {l : Addr} {ls : List Addr} {o : HO} (h : AxV H v n tops bs) (hl : H l = some (.lst (ls.map V.ref))) (h1 : 1 ≤ ls.length) : AxV (upd H l o) v n tops bs := by
  obtain ⟨a, lt, lb, e, g1, g2, g3, g4⟩ := h
  have ne : ∀ (b : Addr) (xs : List Int), H b = some (.lst (xs.map V.int)) → b ≠ l := fun b xs e z => by
    rw [z, hl] at e
    have e' : ls.map V.ref = xs.map V.int := by simpa using e
    cases ls with
    | nil => simp at h1
    | cons x r =>
      cases xs with
      | nil => simp at e'
      | cons y s => simp at e'
  have na : a ≠ l := fun z => by rw [z, hl] at g1; cases g1
  exact ⟨a, lt, lb, e, by rw [upd_ne na]; exact g1, by rw [upd_ne (ne _ _ g2)]; exact g2, by rw [upd_ne (ne _ _ g3)]; exact g3, g4⟩
end Cv

namespace Cv
open PySem PySem.Spec PyProof.Rows L2
/-! ### the order of the shares does not matter -/
/-! ### sizes -/
end Cv

namespace Cv
/-! ### polar points share by share: each goes between as the share does -/
/-! ### a stretch's rows -/
/-! ### at 0 and at 1 -/
end Cv

namespace Cv
/-! ### sizes of the halves -/
end Cv

namespace Cv
open PySem PySem.Spec PyProof.Rows L2
/-! ### curves the other way round, stretches of stretches -/
/-! ### the bottoms of a stretch's seats -/
end Cv

namespace Cv
open PySem PySem.Spec PyProof.Rows L2
/-! ### curves and shares drawn from the script's cells -/
section
variable {X : Cx}
end
theorem ShL.nil (H : Hp) : ShL H [] [] := ⟨rfl, fun i v q e => by simp at e⟩
end Cv

namespace Cv
open PySem PySem.Spec PyProof.Rows L2
/-! ### how many ways, sums, powers -/
noncomputable def ch : Nat → Nat → Nat
  | _, 0 => 1
  | 0, _ + 1 => 0
  | n + 1, k + 1 => ch n k + ch n (k + 1)
noncomputable def pw (x : Rat) : Nat → Rat
  | 0 => 1
  | n + 1 => pw x n * x
noncomputable def sm (f : Nat → Rat) : Nat → Rat
  | 0 => 0
  | n + 1 => sm f n + f n
/-! ### the weighted sum -/
noncomputable def gX (ps : List Pt) (j : Nat) : Rat := ((ps[j]?).getD (0, 0)).1
noncomputable def gY (ps : List Pt) (j : Nat) : Rat := ((ps[j]?).getD (0, 0)).2
/-! ### a walk over pairs -/
/-! ### promises -/
theorem cut_rest (xs : List V) (h : 1 ≤ xs.length) : cutV xs (some 1) none = xs.drop 1 := by
  have := cut_fromI (fun v : V => v) xs 1 1 rfl h
  simpa using this
end Cv

namespace Cv
open PySem PySem.Spec PyProof.Rows L2
section
variable {X : Cx}
end
/-! ### the weights -/
end Cv

namespace Cv
open PySem PySem.Spec PyProof.Rows L2
/-! ### enumerate of a list -/
section
variable {X : Cx}
end
/-! ### least and greatest of a list of whole numbers -/
section
variable {X : Cx}
end
end Cv

namespace Cv
open PySem PySem.Spec PyProof.Rows L2
/-! ### tuples that never change: ours, or the module's -/
noncomputable def TK (K : PySem.W.Frag) (H : Hp) (a : Addr) (xs : List V) : Prop := H a = some (.tup xs) ∨ ∃ (o : Obj) (its : Array Value) (n : Nat), K.lookup a = some o ∧ o.cls = .type "tuple" ∧ o.data = .seq its n ∧ its.size ≤ sizeLine ∧ Vals xs its.toList
theorem TK.of {K : PySem.W.Frag} {H : Hp} {a : Addr} {xs : List V} (h : H a = some (.tup xs)) : TK K H a xs := .inl h
theorem TK.sq {K : PySem.W.Frag} {H : Hp} {a : Addr} {xs : List V} (h : TK K H a xs) : SqT K H a xs := by
  rcases h with h | h
  · exact SqT.of h
  · exact .inr h
theorem TK.tup {K : PySem.W.Frag} {H H' : Hp} {a : Addr} {xs : List V} (h : TK K H a xs) (t : Tup H H') : TK K H' a xs := by
  rcases h with h | h
  · exact .inl (t _ _ h)
  · exact .inr h
theorem TK.same {K : PySem.W.Frag} {H H' : Hp} {a : Addr} {xs : List V} (h : TK K H a xs) (t : Same H H') : TK K H' a xs := h.tup t.tup
theorem TK.same' {K : PySem.W.Frag} {H H' : Hp} {a : Addr} {xs : List V} (t : Same H H') (h : TK K H a xs) : TK K H' a xs := h.tup t.tup
structure ShK (K : PySem.W.Frag) (H : Hp) (v : V) (q : Rat) : Prop where
  ex : ∃ a, v = .ref a ∧ TK K H a [.int q.num, .int (q.den : Int)]
structure PtK (K : PySem.W.Frag) (H : Hp) (v : V) (x y : Rat) : Prop where
  ex : ∃ a vx vy, v = .ref a ∧ TK K H a [vx, vy] ∧ ShK K H vx x ∧ ShK K H vy y
structure PtsK (K : PySem.W.Frag) (H : Hp) (vs : List V) (ps : List Pt) : Prop where
  len : vs.length = ps.length
  get : ∀ (i : Nat) v p, vs[i]? = some v → ps[i]? = some p → PtK K H v p.1 p.2
section
variable {K : PySem.W.Frag} {H H' : Hp} {v : V} {q x y : Rat} {vs : List V} {ps : List Pt}
theorem ShK.tup (h : ShK K H v q) (t : Tup H H') : ShK K H' v q := by obtain ⟨a, rfl, h⟩ := h; exact ⟨a, rfl, h.tup t⟩
theorem ShK.same (h : ShK K H v q) (t : Same H H') : ShK K H' v q := h.tup t.tup
theorem ShV.k (h : ShV H v q) : ShK K H v q := by obtain ⟨a, rfl, h⟩ := h; exact ⟨a, rfl, .inl h⟩
theorem PtK.tup (h : PtK K H v x y) (t : Tup H H') : PtK K H' v x y := by obtain ⟨a, vx, vy, rfl, h, h1, h2⟩ := h; exact ⟨a, vx, vy, rfl, h.tup t, h1.tup t, h2.tup t⟩
theorem PtK.same (h : PtK K H v x y) (t : Same H H') : PtK K H' v x y := h.tup t.tup
theorem PtV.k (h : PtV H v x y) : PtK K H v x y := by obtain ⟨a, vx, vy, rfl, h, h1, h2⟩ := h; exact ⟨a, vx, vy, rfl, .inl h, h1.k, h2.k⟩
theorem PtsK.tup (h : PtsK K H vs ps) (t : Tup H H') : PtsK K H' vs ps := ⟨h.len, fun i v p e1 e2 => (h.get i v p e1 e2).tup t⟩
theorem PtsK.same (h : PtsK K H vs ps) (t : Same H H') : PtsK K H' vs ps := h.tup t.tup
theorem PtsV.k (h : PtsV H vs ps) : PtsK K H vs ps := ⟨h.len, fun i v p e1 e2 => (h.get i v p e1 e2).k⟩
theorem PtsK.nil (K : PySem.W.Frag) (H : Hp) : PtsK K H [] [] := ⟨rfl, fun i v p e _ => by simp at e⟩
theorem PtsK.at (h : PtsK K H vs ps) {i : Nat} {p : Pt} (hp : ps[i]? = some p) : ∃ v, vs[i]? = some v ∧ PtK K H v p.1 p.2 := by
  have hi : i < ps.length := (List.getElem?_eq_some_iff.mp hp).1
  have e : vs[i]? = some (vs[i]'(by rw [h.len]; exact hi)) := List.getElem?_eq_getElem _
  exact ⟨_, e, h.get i _ p e hp⟩
end
/-! ### differences -/
/-! sizes -/
theorem Ov.zero (D : Int) (n : Nat) : Ov D (n + 1) 0 := ⟨0, by simp, ⟨by show 0 < _; exact Nat.two_pow_pos _⟩⟩
/-! ### isinstance, also of the module's tuples -/
section
variable {X : Cx}
end
/-! ### promises -/
end Cv

namespace Cv
open PySem PySem.Spec PyProof.Rows L2
/-! ### a list is unpacked -/
section
variable {prog : Program} {w : World} {A : Around} {E : Value → Shared → Prop}
variable {s : Shared}
end
section
variable {X : Cx}
end
end Cv

namespace Cv
open PySem PySem.Spec PyProof.Rows L2
/-! ### places: pairs of whole numbers, in lists -/
noncomputable abbrev Pl := Int × Int
structure PlsV (H : Hp) (vs : List V) (pl : List Pl) : Prop where
  len : vs.length = pl.length
  get : ∀ (i : Nat) v p, vs[i]? = some v → pl[i]? = some p → RwV H v p.1 p.2
section
variable {H H' : Hp} {vs : List V} {pl : List Pl}
theorem PlsV.tup (h : PlsV H vs pl) (t : Tup H H') : PlsV H' vs pl := ⟨h.len, fun i v p e1 e2 => (h.get i v p e1 e2).tup t⟩
theorem PlsV.same (h : PlsV H vs pl) (t : Same H H') : PlsV H' vs pl := h.tup t.tup
theorem PlsV.at (h : PlsV H vs pl) {i : Nat} {p : Pl} (hp : pl[i]? = some p) : ∃ a, vs[i]? = some (.ref a) ∧ H a = some (.tup [.int p.1, .int p.2]) := by
  have hi : i < pl.length := (List.getElem?_eq_some_iff.mp hp).1
  have e : vs[i]? = some (vs[i]'(by rw [h.len]; exact hi)) := List.getElem?_eq_getElem _
  obtain ⟨a, e2, h2⟩ := h.get i _ p e hp
  exact ⟨a, by rw [e, e2], h2⟩
theorem pls_exist {n : Nat} : ∀ {ys : List V}, (∀ (i : Nat) v, ys[i]? = some v → ∃ x y : Int, RwV H v x y ∧ Sz n x ∧ Sz n y) → ∃ pl : List Pl, PlsV H ys pl ∧ ∀ p ∈ pl, Sz n p.1 ∧ Sz n p.2
  | [], _ => ⟨[], ⟨rfl, fun i v p e => by simp at e⟩, fun _ h => nomatch h⟩
  | y :: ys, h => by
    obtain ⟨a, b, hp, z1, z2⟩ := h 0 y rfl
    obtain ⟨pl, hP, hO⟩ := pls_exist (ys := ys) fun i v e => h (i + 1) v e
    refine ⟨(a, b) :: pl, ⟨by rw [List.length_cons, List.length_cons, hP.len], fun i v q e1 e2 => ?_⟩, fun q hq => ?_⟩
    · cases i with
      | zero => cases e1; cases e2; exact hp
      | succ i => exact hP.get i v q e1 e2
    · rcases List.mem_cons.mp hq with rfl | hq
      · exact ⟨z1, z2⟩
      · exact hO q hq
end
theorem plain_pls {K : PySem.W.Frag} {a : Addr} {ws : List V} {pl : List Pl} {H1 : Hp} (h : SqL K H1 a ws) (hP : PlsV H1 ws pl) : Plain2 K (Itl K a) H1 pl.length (fun i => .int ((pl[i]?).getD (0, 0)).1) (fun i => .int ((pl[i]?).getD (0, 0)).2) := fun H2 s i => by
  refine ⟨fun hi => ?_, fun e => ⟨ws, s.seq h, by rw [hP.len]; omega⟩⟩
  obtain ⟨b, e1, hb⟩ := hP.at (List.getElem?_eq_getElem hi)
  refine ⟨⟨ws, _, s.seq h, e1⟩, fun x H' y => ?_⟩
  obtain ⟨rfl, y2⟩ := y
  have := y2 ws (s.seq h)
  rw [e1] at this
  refine ⟨L2.Same.refl _, b, (Option.some.inj this).symm, SqT.of ?_⟩
  show H' b = some (.tup [.int ((pl[i]?).getD (0, 0)).1, .int ((pl[i]?).getD (0, 0)).2])
  rw [List.getElem?_eq_getElem hi]
  exact s _ _ hb
structure WayV (H : Hp) (v : V) (B kd : Int) : Prop where
  ex : ∃ (a s b : Addr) (sx sy bx by_ : Int), v = .ref a ∧ H a = some (.tup [.int B, .int kd, .ref s, .ref b]) ∧ H s = some (.tup [.int sx, .int sy]) ∧ H b = some (.tup [.int bx, .int by_]) ∧ 1 ≤ B ∧ B ≤ 1000000007 ∧ sx.natAbs ≤ 20 ∧ sy.natAbs ≤ 20 ∧ bx.natAbs ≤ 3 ∧ by_.natAbs ≤ 3
theorem WayV.same {H H' : Hp} {v : V} {B kd : Int} (h : WayV H v B kd) (t : Same H H') : WayV H' v B kd := by
  obtain ⟨a, s, b, sx, sy, bx, by_, rfl, h1, h2, h3, r⟩ := h
  exact ⟨a, s, b, sx, sy, bx, by_, rfl, t _ _ h1, t _ _ h2, t _ _ h3, r⟩
noncomputable def spStreamC : Sp := fun vs H Q _ => ∃ c : Int, ∃ n : Nat, vs = [.int c, .int (n : Int)] ∧ n ≤ 1000 ∧ ∀ (l : Addr) (xs : List Int) (H' : Hp), Same H H' → H l = none → H' l = some (.lst (xs.map V.int)) → xs.length = n → (∀ x ∈ xs, 0 ≤ x ∧ x ≤ 2147483647) → Q (.ref l) H'
noncomputable def spWay : Sp := fun vs H Q _ => ∃ c : Int, vs = [.int c] ∧ ∀ v B kd H', Same H H' → WayV H' v B kd → Q v H'
noncomputable def spPlace : Sp := fun vs H Q _ => ∃ (c : Int) (w : V) (B kd : Int), vs = [.int c, w] ∧ WayV H w B kd ∧ ∀ v x y H', Same H H' → RwV H' v x y → Sz 110 x → Sz 110 y → Q v H'
noncomputable def ptsOf (B : Int) (pl : List Pl) : List Pt := pl.map fun p => (Rat.divInt p.1 B, Rat.divInt p.2 B)
noncomputable def spHanded (K : PySem.W.Frag) : Sp := fun vs H Q _ => ∃ (a : Addr) (ws : List V) (pl : List Pl) (B : Int), vs = [.ref a, .int B] ∧ SqL K H a ws ∧ PlsV H ws pl ∧ 1 ≤ B ∧ Sz 9000 B ∧ pl.length ≤ 1000 ∧ ∀ (l : Addr) (us : List V) (H' : Hp), Same H H' → H l = none → H' l = some (.lst us) → PtsV H' us (ptsOf B pl) → Q (.ref l) H'
theorem p25 : (10 : Int) ^ (25 : Int).toNat = 10000000000000000000000000 := by decide
/-! ### least and greatest -/
noncomputable def LeastQ (qs : List Rat) (m : Rat) : Prop := m ∈ qs ∧ ∀ q ∈ qs, m ≤ q
noncomputable def GreatQ (qs : List Rat) (m : Rat) : Prop := m ∈ qs ∧ ∀ q ∈ qs, q ≤ m
theorem LeastQ.one {qs : List Rat} {a b : Rat} (h1 : LeastQ qs a) (h2 : LeastQ qs b) : a = b := Rat.le_antisymm (h1.2 b h2.1) (h2.2 a h1.1)
theorem GreatQ.one {qs : List Rat} {a b : Rat} (h1 : GreatQ qs a) (h2 : GreatQ qs b) : a = b := Rat.le_antisymm (h2.2 a h1.1) (h1.2 b h2.1)
theorem LeastQ.of {qs rs : List Rat} {a : Rat} (h : LeastQ qs a) (e : ∀ q, q ∈ qs ↔ q ∈ rs) : LeastQ rs a := ⟨(e a).mp h.1, fun q hq => h.2 q ((e q).mpr hq)⟩
theorem GreatQ.of {qs rs : List Rat} {a : Rat} (h : GreatQ qs a) (e : ∀ q, q ∈ qs ↔ q ∈ rs) : GreatQ rs a := ⟨(e a).mp h.1, fun q hq => h.2 q ((e q).mpr hq)⟩
structure BoxV (H : Hp) (v : V) (xs ys : List Rat) : Prop where
  ex : ∃ (a : Addr) (v1 v2 v3 v4 : V) (q1 q2 q3 q4 : Rat), v = .ref a ∧ H a = some (.tup [v1, v2, v3, v4]) ∧ ShV H v1 q1 ∧ ShV H v2 q2 ∧ ShV H v3 q3 ∧ ShV H v4 q4 ∧ LeastQ xs q1 ∧ LeastQ ys q2 ∧ GreatQ xs q3 ∧ GreatQ ys q4
theorem BoxV.same {H H' : Hp} {v : V} {xs ys : List Rat} (h : BoxV H v xs ys) (t : Same H H') : BoxV H' v xs ys := by
  obtain ⟨a, v1, v2, v3, v4, q1, q2, q3, q4, rfl, h0, h1, h2, h3, h4, r⟩ := h
  exact ⟨a, v1, v2, v3, v4, q1, q2, q3, q4, rfl, t _ _ h0, h1.same t, h2.same t, h3.same t, h4.same t, r⟩
theorem BoxV.of {H : Hp} {v : V} {xs ys xs' ys' : List Rat} (h : BoxV H v xs ys) (e1 : ∀ q, q ∈ xs ↔ q ∈ xs') (e2 : ∀ q, q ∈ ys ↔ q ∈ ys') : BoxV H v xs' ys' := by
  obtain ⟨a, v1, v2, v3, v4, q1, q2, q3, q4, rfl, h0, h1, h2, h3, h4, r1, r2, r3, r4⟩ := h
  exact ⟨a, v1, v2, v3, v4, q1, q2, q3, q4, rfl, h0, h1, h2, h3, h4, r1.of e1, r2.of e2, r3.of e1, r4.of e2⟩
/-! ### lists of whole numbers -/
end Cv

namespace Cv
open PySem PySem.Spec PyProof.Rows L2
/-! ### list(zip(a, b)): a zip whose tuples are kept -/
section
variable {prog : Program} {w : World} {A : Around} {E : Value → Shared → Prop} {s : Shared}
end
section
variable {X : Cx} {pins : List (Addr × Obj)} {σ : L2.St} {A : Around}
end
end Cv

namespace Cv
open PySem PySem.Spec PyProof.Rows L2
/-! ### powers of an axis: whole numbers -/
/-! ### seats of powers: sums -/
/-! ### the point by powers -/
/-! ### sizes -/
/-! ### promises -/
theorem AxV.mono {H : Hp} {v : V} {n m : Nat} {t b : List Int} (h : AxV H v n t b) (hn : n ≤ m) : AxV H v m t b := by
  obtain ⟨a, lt, lb, e, h1, h2, h3, h4, r⟩ := h
  exact ⟨a, lt, lb, e, h1, h2, h3, fun x hx => (h4 x hx).mono hn, r⟩
end Cv

namespace Cv
open PySem PySem.Spec PyProof.Rows L2
/-! ### range that goes down by one -/
section
variable {X : Cx} {tg : Expr}
end
/-! ### raising -/
noncomputable def ptAt (ps : List Pt) (j : Nat) : Pt := (gX ps j, gY ps j)
/-- the k-th raised number -/
noncomputable def rr (N : Nat) (g : Nat → Rat) (k : Nat) : Rat := ((((N : Int) : Rat) - ((k : Int) : Rat)) * g k + ((k : Int) : Rat) * g (k - 1)) / ((N : Int) : Rat)
/-! promises -/
end Cv

namespace Cv
open PySem PySem.Spec PyProof.Rows L2
/-! ### joins: powers behind the end -/
/-! ### speeds by whole numbers -/
/-- how often they are alike -/
structure Cnt (E : Nat → Prop) (most : Nat) (r : Int) : Prop where
  lo : -1 ≤ r
  hi : r ≤ most
  all : ∀ j : Nat, (j : Int) ≤ r → E j
  stop : r = most ∨ ¬ E (r + 1).toNat
theorem Cnt.one {E : Nat → Prop} {most : Nat} {r s : Int} (h1 : Cnt E most r) (h2 : Cnt E most s) : r = s := by
  have key : ∀ {r s : Int}, Cnt E most r → Cnt E most s → ¬ r < s := fun {r s} h1 h2 hlt => by
    have := h1.lo
    have := h2.hi
    rcases h1.stop with q | q
    · omega
    · exact q (h2.all _ (by omega))
  have a := key h1 h2
  have b := key h2 h1
  omega
/-! ### differences of places -/
theorem PlsV.nil (H : Hp) : PlsV H [] [] := ⟨rfl, fun i v p e => by simp at e⟩
/-! ### promises -/
section
variable {X : Cx}
end
theorem PlsV.drop {H : Hp} {vs : List V} {p : List Pl} (h : PlsV H vs p) (n : Nat) : PlsV H (vs.drop n) (p.drop n) := by
  have hl := h.len
  refine ⟨by rw [List.length_drop, List.length_drop, hl], fun i v r e1 e2 => ?_⟩
  rw [List.getElem?_drop] at e1 e2
  exact h.get _ v r e1 e2
theorem cut_dropV (xs : List V) (k : Int) (n : Nat) (e : k = (n : Int)) (h : n ≤ xs.length) : cutV xs (some k) none = xs.drop n := by
  have := cut_fromI (fun v : V => v) xs k n e h
  simpa using this
end Cv

namespace Cv
open PySem PySem.Spec PyProof.Rows L2
/-! ### lists of shares, the module's among them -/
structure ShLK (K : PySem.W.Frag) (H : Hp) (vs : List V) (qs : List Rat) : Prop where
  len : vs.length = qs.length
  get : ∀ (i : Nat) v q, vs[i]? = some v → qs[i]? = some q → ShK K H v q
section
variable {K : PySem.W.Frag} {H H' : Hp} {vs : List V} {qs : List Rat}
theorem ShLK.tup (h : ShLK K H vs qs) (t : Tup H H') : ShLK K H' vs qs := ⟨h.len, fun i v q e1 e2 => (h.get i v q e1 e2).tup t⟩
theorem ShLK.same (h : ShLK K H vs qs) (t : Same H H') : ShLK K H' vs qs := h.tup t.tup
theorem ShL.k (h : ShL H vs qs) : ShLK K H vs qs := ⟨h.len, fun i v q e1 e2 => (h.get i v q e1 e2).k⟩
theorem ShLK.map {ps : List Pt} {f : Pt → Rat} {ys : List V} (hl : ys.length = ps.length) (h : ∀ (i : Nat) v, ys[i]? = some v → ∀ p, ps[i]? = some p → ShK K H v (f p)) : ShLK K H ys (ps.map f) := by
  refine ⟨by rw [hl, List.length_map], fun i v q e1 e2 => ?_⟩
  rw [List.getElem?_map] at e2
  cases e3 : ps[i]? with
  | none => rw [e3] at e2; cases e2
  | some p =>
    rw [e3] at e2
    cases e2
    exact h i v e1 p e3
end
/-! ### onward -/
/-! ### promises -/
end Cv

namespace Cv
open PySem PySem.Spec PyProof.Rows L2
/-! ### reversed(range(n)), walked -/
section
variable {prog : Program} {w : World} {A : Around} {E : Value → Shared → Prop} {s : Shared}
end
section
variable {X : Cx} {tg : Expr}
end
/-! ### e[:0:-1], a list -/
section
variable {X : Cx}
end
end Cv

namespace Cv
open PySem PySem.Spec PyProof.Rows L2
/-! ### through points: the steps beside them, by whole numbers -/
end Cv
namespace Cv
open PySem PySem.Spec PyProof.Rows L2
/-! ### the lists of steps_beside -/
end Cv
namespace Cv
open PySem PySem.Spec PyProof.Rows L2
end Cv
namespace Cv
open PySem PySem.Spec PyProof.Rows L2
end Cv
namespace Cv
open PySem PySem.Spec PyProof.Rows L2
end Cv

namespace Cv
open PySem PySem.Spec PyProof.Rows L2
/-! ### lists of new lists -/
structure LsV (H1 H2 : Hp) (D : Addr) (ys : List V) (R : Nat → List V → Hp → Prop) : Prop where
  get : ∀ (i : Nat) (v : V), ys[i]? = some v → ∃ (l : Addr) (xs : List V), v = V.ref l ∧ H1 l = none ∧ l ≠ D ∧ H2 l = some (HO.lst xs) ∧ R i xs H2
  one : ∀ (i j : Nat) (v : V), ys[i]? = some v → ys[j]? = some v → i = j
section
variable {K : PySem.W.Frag} {J : It} {H1 : Hp} {te : TE} {cs : L2.St} {Q : VK} {n : Nat}
theorem compL {f : Nat → V} (hJ : Plain1 J H1 n f) (hn : n ≤ 100000) (R : Nat → List V → Hp → Prop) (hR : ∀ i v H H', Tup H H' → R i v H → R i v H')
    (he : ∀ i H2 (k : VK), i < n → Same H1 H2 → (∀ l xs H3, Same H2 H3 → H2 l = none → H3 l = some (.lst xs) → R i xs H3 → k (.ref l) H3) → te (some (f i) :: cs) H2 k)
    (hq : ∀ D ys H2, H1 D = none → Same H1 H2 → H2 D = some (.lst ys) → ys.length = n → LsV H1 H2 D ys R → Q (.ref D) H2) :
    CompGoal 1 J H1 (gName 0) te cs Q := by
  intro D hD
  refine ⟨fun i m ys H2 => m = n - i ∧ i ≤ n ∧ ys.length = i ∧ Same H1 H2 ∧ H2 D = some (.lst ys) ∧ LsV H1 H2 D ys R, ⟨n, by simp, Nat.zero_le _, rfl, Same.new hD, upd_same, ⟨fun j v e => by simp at e, fun i j v e => by simp at e⟩⟩, ?_⟩
  rintro i m ys H2 ⟨rfl, hi, hl, s2, d2, r2⟩
  by_cases hlt : i < n
  · refine .inr ⟨((hJ H2 s2 i).1 hlt).1, fun x H' y own ho => ?_⟩
    obtain ⟨rfl, rfl⟩ := ((hJ H2 s2 i).1 hlt).2 x H' y
    cases own with
    | nil => cases ho
    | cons o1 r =>
      cases r with
      | cons _ _ => cases ho
      | nil =>
        refine ⟨⟨[some (f i)], rfl, rfl⟩, he i _ _ hlt s2 fun l xs H3 s3 hl0 hl3 r3 => ⟨s3 _ _ d2, small_line (by omega), n - (i + 1), by omega, rfl, hlt, by rw [List.length_append, hl]; rfl, fun b o e => ?_, upd_same, ?_⟩⟩
        · rw [upd_ne (ne_of_none e hD)]; exact s3 _ _ (s2 _ _ e)
        · have t3 : Tup H3 (upd H3 D (.lst (ys ++ [V.ref l]))) := Tup.lst (s3 _ _ d2)
          have nD : l ≠ D := fun e => by rw [e, d2] at hl0; cases hl0
          have snocc : ∀ j w, (ys ++ [V.ref l])[j]? = some w → (ys[j]? = some w ∧ j < i) ∨ (j = i ∧ w = V.ref l) := fun j w e => by
            by_cases hj : j < ys.length
            · rw [List.getElem?_append_left hj] at e
              exact .inl ⟨e, by omega⟩
            · rw [List.getElem?_append_right (by omega)] at e
              have hj0 : j - ys.length = 0 := by
                cases q : j - ys.length with
                | zero => rfl
                | succ k => rw [q] at e; simp at e
              rw [hj0] at e
              exact .inr ⟨by omega, by simpa using e.symm⟩
          refine ⟨fun j w e => ?_, fun j1 j2 w e1 e2 => ?_⟩
          · rcases snocc j w e with ⟨e, _⟩ | ⟨rfl, rfl⟩
            · obtain ⟨l', xs', rfl, a1, a2, a3, a4⟩ := r2.get j w e
              exact ⟨l', xs', rfl, a1, a2, by rw [upd_ne a2]; exact s3 _ _ a3, hR _ _ _ _ (s3.tup.trans t3) a4⟩
            · exact ⟨l, xs, rfl, s2.free hl0, nD, by rw [upd_ne nD]; exact hl3, hR _ _ _ _ t3 r3⟩
          · rcases snocc j1 w e1 with ⟨f1, g1⟩ | ⟨rfl, rfl⟩
            · rcases snocc j2 w e2 with ⟨f2, g2⟩ | ⟨rfl, rfl⟩
              · exact r2.one j1 j2 w f1 f2
              · obtain ⟨l', xs', e', a1, a2, a3, a4⟩ := r2.get j1 _ f1
                cases e'
                rw [a3] at hl0; cases hl0
            · rcases snocc j2 _ e2 with ⟨f2, g2⟩ | ⟨rfl, _⟩
              · obtain ⟨l', xs', e', a1, a2, a3, a4⟩ := r2.get j2 _ f2
                cases e'
                rw [a3] at hl0; cases hl0
              · rfl
  · have e : i = n := by omega
    subst e
    exact .inl ⟨(hJ H2 s2 i).2 rfl, hq D ys H2 hD s2 d2 hl r2⟩
end
theorem LsV.base {H0 H1 H2 : Hp} {D : Addr} {ys : List V} {R : Nat → List V → Hp → Prop} (h : LsV H1 H2 D ys R) (s : Same H0 H1) : LsV H0 H2 D ys R :=
  ⟨fun i v e => by obtain ⟨l, xs, e1, e2, e3⟩ := h.get i v e; exact ⟨l, xs, e1, s.free e2, e3⟩, h.one⟩
end Cv

namespace Cv
open PySem PySem.Spec PyProof.Rows L2
/-! ### the curves through points -/
end Cv
namespace Cv
open PySem PySem.Spec PyProof.Rows L2
noncomputable def cvP (ps : List Pt) (d e : Nat → Rat) (k : Nat) : List Pt := [ptAt ps k, (gX ps k + d k, gY ps k + e k), (gX ps (k + 1) - d (k + 1), gY ps (k + 1) - e (k + 1)), ptAt ps (k + 1)]
end Cv
namespace Cv
open PySem PySem.Spec PyProof.Rows L2
end Cv

namespace Cv
open PySem PySem.Spec PyProof.Rows L2
end Cv

namespace Cv
open PySem PySem.Spec PyProof.Rows L2
end Cv
namespace Cv
open PySem PySem.Spec PyProof.Rows L2
noncomputable def CvsV (H : Hp) (us : List V) (ps : List Pt) (d e : Nat → Rat) : Prop := ∀ (i : Nat) (v : V), us[i]? = some v → ∃ (l : Addr) (xs : List V), v = V.ref l ∧ H l = some (HO.lst xs) ∧ PtsV H xs (cvP ps d e i)
theorem CvsV.same {H H' : Hp} {us : List V} {ps : List Pt} {d e : Nat → Rat} (h : CvsV H us ps d e) (s : Same H H') : CvsV H' us ps d e := fun i v ev => by
  obtain ⟨l, xs, e1, e2, e3⟩ := h i v ev
  exact ⟨l, xs, e1, s _ _ e2, e3.same s⟩
end Cv
namespace Cv
open PySem PySem.Spec PyProof.Rows L2
theorem pwq {c : Bool} {t : TT} {σ : L2.St} {H : Hp} {K : Bool → Hp → Prop} (hR : ∀ H', Same H H' → K false H') (h1 : (∀ H', Same H H' → K false H') → c = true → t σ H K) : if c = true then t σ H K else K false H := by
  cases c with
  | true => rw [if_pos rfl]; exact h1 hR rfl
  | false => rw [if_neg Bool.false_ne_true]; exact hR H (L2.Same.refl _)
end Cv
namespace Cv
open PySem PySem.Spec PyProof.Rows L2
end Cv

namespace Cv
open PySem PySem.Spec PyProof.Rows L2
section
variable {X : Cx}
end
section
variable {K : PySem.W.Frag} {J : It} {H1 : Hp} {te : TE} {cs : L2.St} {Q : VK} {n : Nat}
end
end Cv

namespace Cv
open PySem PySem.Spec PyProof.Rows L2
/-! ### a list comprehension of two clauses -/
section
variable {prog : Program} {w : World} {A : Around} {R : Result → Shared → Prop} {s : Shared}
end
section
variable {X : Cx}
end
end Cv

namespace Cv
open PySem PySem.Spec PyProof.Rows L2
section
variable {X : Cx}
theorem call_list_ofK (K : PySem.W.Frag) (h : X.K = K := by rfl) : CallR X (.type "list") (fun xs H Q => ∃ p ys, xs = [.ref p] ∧ (SqL K H p ys ∨ SqT K H p ys) ∧ ∀ l, H l = none → Q (.ref l) (upd H l (.lst ys))) := by subst h; exact call_list_of
end
end Cv

namespace Cv
/-! ### stretches by halving whole numbers -/
noncomputable def Dvs (k : Nat) (c : List Pl) : Prop := ∀ p ∈ c, (2 : Int) ^ k ∣ p.1 ∧ (2 : Int) ^ k ∣ p.2
noncomputable def SzQ (n : Nat) (c : List Pl) : Prop := ∀ p ∈ c, Sz n p.1 ∧ Sz n p.2
theorem two_dvd {j k : Nat} (h : j ≤ k) : (2 : Int) ^ j ∣ 2 ^ k := ⟨2 ^ (k - j), by rw [← Int.pow_add]; congr 1; omega⟩
theorem Dvs.mono {k j : Nat} {c : List Pl} (h : Dvs k c) (hj : j ≤ k) : Dvs j c := fun p hp =>
  ⟨Int.dvd_trans (two_dvd hj) (h p hp).1, Int.dvd_trans (two_dvd hj) (h p hp).2⟩
noncomputable def hp : Nat → Rat
  | 0 => 1
  | d + 1 => hp d * (1 / 2)
end Cv

namespace Cv
open PySem PySem.Spec PyProof.Rows L2
/-! ### promises of the stretches -/
/-- a list of lists of places -/
structure CsV (H : Hp) (D : Option Addr) (ys : List V) (css : List (List Pl)) : Prop where
  len : ys.length = css.length
  get : ∀ (i : Nat) (v : V) (c : List Pl), ys[i]? = some v → css[i]? = some c → ∃ (l : Addr) (us : List V), v = .ref l ∧ some l ≠ D ∧ H l = some (.lst us) ∧ PlsV H us c
theorem CsV.same {H H' : Hp} {D : Option Addr} {ys : List V} {css : List (List Pl)} (h : CsV H D ys css) (s : Same H H') : CsV H' D ys css :=
  ⟨h.len, fun i v c e1 e2 => by obtain ⟨l, us, r1, r2, r3, r4⟩ := h.get i v c e1 e2; exact ⟨l, us, r1, r2, s _ _ r3, r4.same s⟩⟩
theorem CsV.at {H : Hp} {D : Option Addr} {ys : List V} {css : List (List Pl)} (h : CsV H D ys css) {i : Nat} {c : List Pl} (hc : css[i]? = some c) : ∃ (l : Addr) (us : List V), ys[i]? = some (.ref l) ∧ H l = some (.lst us) ∧ PlsV H us c := by
  have hi : i < css.length := (List.getElem?_eq_some_iff.mp hc).1
  have e : ys[i]? = some (ys[i]'(by rw [h.len]; exact hi)) := List.getElem?_eq_getElem _
  obtain ⟨l, us, r1, r2, r3, r4⟩ := h.get i _ c e hc
  exact ⟨l, us, by rw [e, r1], r3, r4⟩
/-! ### the halves of each of a list of curves -/
theorem snoc_get {α : Type} {ys : List α} {v w : α} {j : Nat} (e : (ys ++ [v])[j]? = some w) : (j < ys.length ∧ ys[j]? = some w) ∨ (j = ys.length ∧ w = v) := by
  by_cases hj : j < ys.length
  · rw [List.getElem?_append_left hj] at e
    exact .inl ⟨hj, e⟩
  · rw [List.getElem?_append_right (by omega)] at e
    have hj0 : j - ys.length = 0 := by
      cases q : j - ys.length with
      | zero => rfl
      | succ k => rw [q] at e; simp at e
    rw [hj0] at e
    exact .inr ⟨by omega, by simpa using e.symm⟩
theorem CsV.snoc {H : Hp} {D : Option Addr} {ys : List V} {css : List (List Pl)} {l : Addr} {us : List V} {c : List Pl} (h : CsV H D ys css) (hl : some l ≠ D) (h1 : H l = some (.lst us)) (h2 : PlsV H us c) : CsV H D (ys ++ [.ref l]) (css ++ [c]) := by
  refine ⟨by rw [List.length_append, List.length_append, h.len]; rfl, fun i v c' e1 e2 => ?_⟩
  rcases snoc_get e1 with ⟨q1, q2⟩ | ⟨q1, rfl⟩
  · rcases snoc_get e2 with ⟨p1, p2⟩ | ⟨p1, _⟩
    · exact h.get i v c' q2 p2
    · have := h.len; omega
  · rcases snoc_get e2 with ⟨p1, p2⟩ | ⟨p1, rfl⟩
    · have := h.len; omega
    · exact ⟨l, us, rfl, hl, h1, h2⟩
theorem CsV.upd {H : Hp} {D : Addr} {ys zs ws : List V} {css : List (List Pl)} (h : CsV H (some D) ys css) (hD : H D = some (.lst zs)) : CsV (upd H D (.lst ws)) (some D) ys css := by
  refine ⟨h.len, fun i v c e1 e2 => ?_⟩
  obtain ⟨l, us, r1, r2, r3, r4⟩ := h.get i v c e1 e2
  have n : l ≠ D := fun z => r2 (by rw [z])
  exact ⟨l, us, r1, r2, by rw [upd_ne n]; exact r3, r4.tup (Tup.lst hD)⟩
end Cv
namespace Cv
open PySem PySem.Spec PyProof.Rows L2
theorem Plain2.congr {K : PySem.W.Frag} {J : It} {H1 : Hp} {n m : Nat} {f g f' g' : Nat → V} (h : Plain2 K J H1 n f g) (hn : n = m) (hf : ∀ i, i < n → f i = f' i) (hg : ∀ i, i < n → g i = g' i) : Plain2 K J H1 m f' g' := fun H2 s i => by
  subst hn
  refine ⟨fun hi => ⟨((h H2 s i).1 hi).1, fun x H' y => ?_⟩, (h H2 s i).2⟩
  have q := ((h H2 s i).1 hi).2 x H' y
  rw [hf i hi, hg i hi] at q
  exact q
end Cv
namespace Cv
open PySem PySem.Spec PyProof.Rows L2
end Cv
namespace Cv
open PySem PySem.Spec PyProof.Rows L2
theorem LsV.mono {H1 H2 : Hp} {D : Addr} {ys : List V} {R R' : Nat → List V → Hp → Prop} (h : LsV H1 H2 D ys R) (f : ∀ i xs, i < ys.length → R i xs H2 → R' i xs H2) : LsV H1 H2 D ys R' :=
  ⟨fun i v e => by obtain ⟨l, xs, e1, e2, e3, e4, e5⟩ := h.get i v e; exact ⟨l, xs, e1, e2, e3, e4, f i xs (List.getElem?_eq_some_iff.mp e).1 e5⟩, h.one⟩
end Cv
namespace Cv
open PySem PySem.Spec PyProof.Rows L2
/-! ### the law's two curves -/
structure CvB (H : Hp) (v : V) (l : Addr) (ws : List V) (ps : List Pt) (B : Int) (mo : Nat) : Prop where
  ref : v = .ref l
  lst : H l = some (.lst ws)
  pts : PtsV H ws ps
  l1 : 1 ≤ ps.length
  l2 : ps.length ≤ mo
  ov : ∀ p ∈ ps, OvP B 110 p
theorem CvB.same {H H' : Hp} {v : V} {l : Addr} {ws : List V} {ps : List Pt} {B : Int} {mo : Nat} (h : CvB H v l ws ps B mo) (s : Same H H') : CvB H' v l ws ps B mo := ⟨h.ref, s _ _ h.lst, h.pts.same s, h.l1, h.l2, h.ov⟩
end Cv
namespace Cv
open PySem PySem.Spec PyProof.Rows L2
/-! ### lists of curves, compared -/
noncomputable def PssV (H : Hp) (us : List V) (n : Nat) (qs : Nat → List Pt) : Prop := us.length = n ∧ ∀ (i : Nat) (v : V), us[i]? = some v → ∃ (l : Addr) (xs : List V), v = .ref l ∧ H l = some (.lst xs) ∧ PtsV H xs (qs i)
theorem PssV.same {H H' : Hp} {us : List V} {n : Nat} {qs : Nat → List Pt} (h : PssV H us n qs) (s : Same H H') : PssV H' us n qs :=
  ⟨h.1, fun i v e => by obtain ⟨l, xs, e1, e2, e3⟩ := h.2 i v e; exact ⟨l, xs, e1, s _ _ e2, e3.same s⟩⟩
theorem PssV.at {H : Hp} {us : List V} {n : Nat} {qs : Nat → List Pt} (h : PssV H us n qs) {i : Nat} (hi : i < n) : ∃ (l : Addr) (xs : List V), us[i]? = some (.ref l) ∧ H l = some (.lst xs) ∧ PtsV H xs (qs i) := by
  have e : us[i]? = some (us[i]'(by rw [h.1]; exact hi)) := List.getElem?_eq_getElem _
  obtain ⟨l, xs, e1, e2, e3⟩ := h.2 i _ e
  exact ⟨l, xs, by rw [e, e1], e2, e3⟩
noncomputable def datCs (qs : List (List Pt)) : PySem.W.Dat := .list (qs.map datPts)
theorem datCs_ok (qs : List (List Pt)) (n : Nat) : PySem.W.kqdOk (n + 4) (datCs qs) = true := by
  have h : ∀ p : List Pt, PySem.W.kqdOk (n + 3) (datPts p) = true := fun p => datPts_ok p n
  simp [datCs, PySem.W.kqdOk, h]
theorem dnAll_cs {K : PySem.W.Frag} {H : Hp} : ∀ {n : Nat} {qs : Nat → List Pt} {vs : List V}, PssV H vs n qs → DnAll K H (((List.range n).map qs).map datPts) vs
  | 0, qs, vs, h => by
    have : vs = [] := List.length_eq_zero_iff.mp h.1
    subst this
    simp [DnAll]
  | n + 1, qs, vs, h => by
    cases vs with
    | nil => have := h.1; simp at this
    | cons v vs =>
      rw [List.range_succ_eq_map, List.map_cons, List.map_cons, List.map_map (g := qs)]
      simp only [DnAll]
      obtain ⟨l, xs, rfl, hl, hP⟩ := h.2 0 v rfl
      exact ⟨_, vs, rfl, dnP hl hP, dnAll_cs (n := n) (qs := qs ∘ Nat.succ) ⟨by have := h.1; simpa using this, fun i w e => h.2 (i + 1) w (by simpa using e)⟩⟩
theorem dnCs {K : PySem.W.Frag} {H : Hp} {a : Addr} {n : Nat} {qs : Nat → List Pt} {vs : List V} (hs : H a = some (.lst vs)) (h : PssV H vs n qs) : Dn K H (datCs ((List.range n).map qs)) (.ref a) := by
  unfold datCs
  simp only [Dn]
  exact ⟨a, vs, rfl, SqL.of hs, dnAll_cs h⟩
theorem PssV.drop {H : Hp} {us : List V} {n k : Nat} {qs : Nat → List Pt} (h : PssV H us n qs) (hk : k ≤ n) : PssV H (us.drop k) (n - k) (fun i => qs (k + i)) :=
  ⟨by rw [List.length_drop, h.1], fun i v e => by rw [List.getElem?_drop] at e; exact h.2 (k + i) v e⟩
end Cv
namespace Cv
open PySem PySem.Spec PyProof.Rows L2
/-- all but the first i of the told lists stays -/
structure But (us : List V) (i : Nat) (H H' : Hp) : Prop where
  keep : ∀ b o, H b = some o → (∀ j, j < i → us[j]? ≠ some (.ref b)) → H' b = some o
theorem But.refl (us : List V) (H : Hp) : But us 0 H H := ⟨fun _ _ e _ => e⟩
theorem But.same {us : List V} {i : Nat} {H H1 H2 : Hp} (h : But us i H H1) (s : Same H1 H2) : But us i H H2 := ⟨fun b o e n => s _ _ (h.keep b o e n)⟩
theorem But.step {us : List V} {i : Nat} {H H1 : Hp} {l : Addr} {o : HO} (h : But us i H H1) (e : us[i]? = some (.ref l)) : But us (i + 1) H (upd H1 l o) := ⟨fun b q eb n => by
  have nb : b ≠ l := fun z => n i (by omega) (by rw [z]; exact e)
  rw [upd_ne nb]
  exact h.keep b q eb fun j hj => n j (by omega)⟩
theorem But.tup {us : List V} {i : Nat} {H H' : Hp} (h : But us i H H') (hl : ∀ (j : Nat) (l : Addr), us[j]? = some (.ref l) → ∃ xs, H l = some (.lst xs)) : Tup H H' := fun b xs e => h.keep b _ e fun j hj z => by
  obtain ⟨ys, hy⟩ := hl j b z
  rw [e] at hy; cases hy
theorem But.first {us : List V} {i : Nat} {H0 H H' : Hp} {f : Addr} {qs : Nat → List Pt} (h : But us i H H') (hL : LsV H0 H f us fun i xs H => PtsV H xs (qs i)) {n : Nat} (hn : us.length = n) (hi : i ≤ n) : PssV H' (us.drop i) (n - i) (fun j => qs (i + j)) := by
  have tp := h.tup fun j l e => by obtain ⟨l', xs, e1, _, _, e4, _⟩ := hL.get j _ e; cases e1; exact ⟨xs, e4⟩
  refine ⟨by rw [List.length_drop, hn], fun j v e => ?_⟩
  rw [List.getElem?_drop] at e
  obtain ⟨l, xs, rfl, e2, e3, e4, e5⟩ := hL.get (i + j) v e
  refine ⟨l, xs, rfl, h.keep l _ e4 fun j' hj' z => ?_, e5.tup tp⟩
  have := hL.one _ _ _ e z
  omega
theorem LsV.pss {H0 H : Hp} {f : Addr} {us : List V} {qs : Nat → List Pt} (hL : LsV H0 H f us fun i xs H => PtsV H xs (qs i)) {n : Nat} (hn : us.length = n) : PssV H us n qs :=
  ⟨hn, fun j v e => by obtain ⟨l, xs, e1, e2, e3, e4, e5⟩ := hL.get j v e; exact ⟨l, xs, e1, e4, e5⟩⟩
end Cv

namespace Cv
open PySem PySem.Spec PyProof.Rows L2
/-! ### a class of the module and its methods -/
structure ClsK (K : PySem.W.Frag) (mg : Str → Option Value) (x : Str) (C : Addr) : Prop where
  cl : Cls K C
  makes : PySem.W.makesIn K C = true
  kp : PySem.W.keepIn K (.ref C) = true
  at_ : mg x = some (.ref C)
structure MthAt (K : PySem.W.Frag) (C : Addr) (m q : Str) (st : Stmt) (ps : List Str) : Prop where
  ex : ∃ (f : Addr) (fd : FuncData), Fun K m q st f fd ∧ Meth K C m f ∧ Binds K fd ps []
structure MthOk (P : Program) (w : World) (K : PySem.W.Frag) (mg : Str → Option Value) (base : Heap) (CX : CXT) (k : Nat) (C : Addr) (m : Str) (ps : List Str) (sp : Sp) : Prop where
  ex : ∃ (f : Addr) (fd : FuncData), FnOk P w K mg base CX k f fd ps sp ∧ Meth K C m f ∧ Binds K fd ps []
section
variable {P : Program} {w : World} {K : PySem.W.Frag} {mg : Str → Option Value} {base : Heap}
theorem MthAt.mk' {C : Addr} {m q : Str} {st : Stmt} {ps : List Str} {f : Addr} {oc : Value} {od an : Option Addr} {osl : Array (Option Value)} {kV doc pm cdv ct : Value} (hm : PySem.W.findIn K (.ref C) m = some (some (.ref f))) (hi : PySem.W.isFn K (.ref f) = true)
    (l : K.lookup f = some ⟨oc, od, .func (PySem.W.fnOf m q (defArgs st) (defBody st) (defScope st) .none kV doc pm an cdv ct), osl⟩)
    (c : PySem.W.codeIn K cdv q = true) (k : PySem.W.keepIn K (.ref f) = true)
    (h : ∀ (kV doc pm : Value) (an : Option Addr) (cdv ct : Value) (us : List Value), us.length = ps.length → bindArgs (PySem.W.fnOf m q (defArgs st) (defBody st) (defScope st) .none kV doc pm an cdv ct) ⟨us, []⟩ = pure (ps.zip us)) : MthAt K C m q st ps := by
  have F := fun_mk (st := st) l c k
  exact ⟨_, _, F, ⟨hm, hi, k⟩, F.binds h⟩
theorem mth_ok {C : Addr} {m q : Str} {st : Stmt} {N ps : List Str} {k : Nat} {sp : Sp} (F : MthAt K C m q st ps) (S : FnScope N ps (defScope st)) (len : ∀ vs H Q E, sp vs H Q E → vs.length = ps.length)
    (hbody : ∀ (f : Addr) (cdv : Value) (A : Around) (outer : List Env) (s : Shared) (H : Hp) (vs : List V) (Q : VK) (E : XK), Room k (A.deeper (envOfC q (defScope st) s.heap.objs.size f cdv)) → sp vs H Q E →
      ∃ t, PSsi (cxOf CX0 P w K mg base N q (defScope st) f cdv A outer s H E).nox (defBody st) t ∧ t { nx := fun _ H' => Q .non H', rt := Q } (start N vs) H) : MthOk P w K mg base CX0 (k + 1) C m ps sp := by
  obtain ⟨f, fd, F, hm, hb⟩ := F.ex
  refine ⟨f, fd, F.ok S len fun cdv A outer s H vs Q E hr h => ?_, hm, hb⟩
  obtain ⟨t, h1, h2⟩ := hbody f cdv A outer s H vs Q E hr h
  exact ⟨t, by unfold PSsi at h1; exact h1, h2⟩
theorem mth_okX {C : Addr} {m q : Str} {st : Stmt} {N ps : List Str} {k : Nat} {sp : Sp} (F : MthAt K C m q st ps) (S : FnScope N ps (defScope st)) (len : ∀ vs H Q E, sp vs H Q E → vs.length = ps.length)
    (hbody : ∀ (f : Addr) (cdv : Value) (A : Around) (outer : List Env) (s : Shared) (H : Hp) (vs : List V) (Q : VK) (E : XK), Room k (A.deeper (envOfC q (defScope st) s.heap.objs.size f cdv)) → sp vs H Q E →
      ∃ t, PSsi (cxOf (CXx P w) P w K mg base N q (defScope st) f cdv A outer s H E) (defBody st) t ∧ t { nx := fun _ H' => Q .non H', rt := Q } (start N vs) H) : MthOk P w K mg base (CXx P w) (k + 1) C m ps sp := by
  obtain ⟨f, fd, F, hm, hb⟩ := F.ex
  obtain ⟨oc, od, kV, doc, pm, an, cdv, ct, osl, rfl, lk, hcd⟩ := F.ex
  refine ⟨f, _, fn_of lk hcd S len fun A outer s H vs Q E hr h => ?_, hm, hb⟩
  obtain ⟨t, h1, h2⟩ := hbody f cdv A outer s H vs Q E hr h
  exact ⟨t, by unfold PSsi at h1; exact h1, h2⟩
end
section
variable {X : Cx} {CX : CXT} {k j : Nat} {ps : List Str} {sp : Sp} {E : XK} {x m : Str} {p pos apos : Pos} {o e : Expr} {es : List Expr} {t : TA} {ta : TE} {C : Addr}
noncomputable def tMk (C : Addr) (sp : Sp) (E : XK) (t : TA) : TE := fun σ H Q => t σ H fun vs H1 => ∀ x dx, H1 x = none → H1 dx = none → dx ≠ x →
  sp (.ref x :: vs) (upd (upd H1 dx (.own x)) x (.ins C dx [])) (fun v H2 => v = .non ∧ Q (.ref x) H2) E
theorem pe_mk (T : ClsK X.K X.mg x C) (D : MthOk X.prog X.w X.K X.mg X.base CX k C "__init__" ps sp) (hr : Room j X.A) (hx : Passes CX X E) (ha : PA X (e :: es) t) (hk : k + 1 ≤ j := by decide) (hg : Gl X x := by rfl)
    (hdb : (x == ("__debug__" : Str)) = false := by decide) (he : starEach (e :: es) X.env = (false, eval e X.env) :: starEach es X.env := by rfl) (hpl : (backTo pos (starEach es X.env)).any (·.1) = false := by rfl) :
    PE X (.Call (.Name x p) (e :: es) [] pos) (tMk C sp E t) := by
  obtain ⟨f, fd, F, hm, hb⟩ := D.ex
  intro pins s σ H Q I h
  have q := pe_make (X := X) (p := p) (pos := pos) ⟨T.makes, hm.at_, hm.fn, T.kp⟩ F (hr.mono hk) hg T.at_ hb .nil hx ha hdb he hpl
  refine q pins s σ H Q I ?_
  unfold tMk at h
  have e : (fun (vs : List V) (H1 : Hp) => ∀ x dx, H1 x = none → H1 dx = none → dx ≠ x → sp (.ref x :: (vs ++ [])) (upd (upd H1 dx (.own x)) x (.ins C dx [])) (fun v H2 => v = .non ∧ Q (.ref x) H2) E) = fun vs H1 => ∀ x dx, H1 x = none → H1 dx = none → dx ≠ x → sp (.ref x :: vs) (upd (upd H1 dx (.own x)) x (.ins C dx [])) (fun v H2 => v = .non ∧ Q (.ref x) H2) E := by
    funext vs H1
    rw [List.append_nil]
  unfold tMake
  rw [e]
  exact h
noncomputable def tMth (C : Addr) (m : Str) (sp : Sp) (E : XK) (ta : TE) (t : TA) : TE := fun σ H Q => ta σ H fun x H1 => ∃ a dx fs, x = .ref a ∧ H1 a = some (.ins C dx fs) ∧ fs.lookup m = none ∧ t σ H1 fun vs H2 => sp (x :: vs) H2 Q E
theorem pe_mth0 {pl : Sem Bool} (T : ClsK X.K X.mg x C) (D : MthOk X.prog X.w X.K X.mg X.base CX k C m ps sp) (he : PE X o ta) (hr : Room j X.A) (hx : Passes CX X E) (hk : k ≤ j := by decide)
    (ht : eval (.Call (.Attribute o m apos) [] [] pos) X.env = (do
      let ov ← eval o X.env
      standAt apos.atName
      let (f, first) ← holding [ov] (getMethod ov m pl)
      callWith pos f first (backTo pos (starEach [] X.env)) (backToKw pos (keywordEach [] X.env))) := by rfl) :
    PE X (.Call (.Attribute o m apos) [] [] pos) (tMth C m sp E ta tNil) := by
  obtain ⟨f, fd, F, hm, hb⟩ := D.ex
  intro pins s σ H Q I h
  refine pe_meth0 (X := X) (pos := pos) (apos := apos) (pl := pl) he T.cl hm F (hr.mono hk) hb .nil hx ht pins s σ H Q I ?_
  unfold tMth at h
  unfold tMeth
  simp only [List.append_nil]
  exact h
theorem pe_mkI (T : ClsK X.K X.mg x C) (D : MthOk X.prog X.w X.K X.mg X.base CX k C "__init__" ps sp) (hr : Room j X.A) (hx : Passes CX X E) (ha : PAi X (e :: es) t) (hk : k + 1 ≤ j := by decide) (hg : Gl X x := by rfl)
    (hdb : (x == ("__debug__" : Str)) = false := by decide) (he : starEach (e :: es) X.env = (false, eval e X.env) :: starEach es X.env := by rfl) (hpl : (backTo pos (starEach es X.env)).any (·.1) = false := by rfl) :
    PEi X (.Call (.Name x p) (e :: es) [] pos) (tMk C sp E t) := by with_unfolding_all exact pe_mk T D hr hx ha hk hg hdb he hpl
theorem pe_mth0I {pl : Sem Bool} (T : ClsK X.K X.mg x C) (D : MthOk X.prog X.w X.K X.mg X.base CX k C m ps sp) (he : PEi X o ta) (hr : Room j X.A) (hx : Passes CX X E) (hk : k ≤ j := by decide)
    (ht : eval (.Call (.Attribute o m apos) [] [] pos) X.env = (do
      let ov ← eval o X.env
      standAt apos.atName
      let (f, first) ← holding [ov] (getMethod ov m pl)
      callWith pos f first (backTo pos (starEach [] X.env)) (backToKw pos (keywordEach [] X.env))) := by rfl) :
    PEi X (.Call (.Attribute o m apos) [] [] pos) (tMth C m sp E ta tNil) := by with_unfolding_all exact pe_mth0 (pl := pl) T D he hr hx hk ht
theorem pe_fldI {f : Str} (he : PEi X e ta) (hb : attributeBase e f X.env (eval e X.env) = eval e X.env := by rfl) : PEi X (.Attribute e f pos) (tFld X.K ta f) := by with_unfolding_all exact pe_fld he hb
theorem ps_fldI {f : Str} {pos' : Pos} {value : Expr} {tv : TE} (ha : PEi X o ta) (hv : PEi X value tv) (hs : swapsWith value (some (.Attribute o f pos')) pos.line X.env = pure false := by rfl) : PSi X (.Assign [.Attribute o f pos'] value pos) (sFld X.K ta tv f) := by with_unfolding_all exact ps_fld ha hv hs
end
/-! ### isinstance of an exception and a tuple of classes -/
section
variable {X : Cx}
theorem kitAny_false {K : PySem.W.Frag} {t : Value} : ∀ {cs : List Value}, (∀ c ∈ cs, PySem.W.kitOne K t c = some false) → PySem.W.kitAny K t cs = some false
  | [], _ => rfl
  | c :: r, h => by
    unfold PySem.W.kitAny
    rw [h c (.head _)]
    exact kitAny_false fun c' hc => h c' (.tail _ hc)
theorem vals_refs : ∀ {as : List Addr} {us : List Value}, Vals (as.map V.ref) us → us = as.map Value.ref
  | [], us, h => by cases h; rfl
  | a :: as, us, h => by
    cases h with
    | cons r t => cases r; rw [vals_refs t]; rfl
theorem call_isxT : CallR X (.builtin "isinstance") (fun xs H Q => ∃ (x C p : Addr) (as : List Addr), xs = [.ref x, .ref p] ∧ H x = some (ExcO x (.ref C)) ∧ H p = some (.tup (as.map V.ref)) ∧ XNot X.K C ∧ (∀ c ∈ as, PySem.W.kitOne X.K (.ref C) (.ref c) = some false) ∧ Q (.bl false) H) := by
  intro pins s σ H xs us Q I r h
  obtain ⟨x, C, p, as, rfl, hx, hp, n, e, q⟩ := h
  obtain ⟨u, v, rfl, ru, rv⟩ := vals_two r
  cases ru
  cases rv
  have hO : XAt x C s.heap := (I.hok x _ hx).1
  obtain ⟨_, its, vz, ht⟩ := I.hok p _ hp
  obtain ⟨⟨oc, od, odt, osl⟩, eo, c1, n', c2⟩ := ht
  have ei : its = as.map Value.ref := vals_refs vz
  subst ei
  cases c1
  cases c2
  refine PySem.W.kia_tup (kitx_exc n) I.kIn hO eo (kitAny_false fun c hc => ?_) (fun z => nomatch z) fun tk => ⟨.bl false, H, I.tok tk, rfl, q⟩
  obtain ⟨a, ha, rfl⟩ := List.mem_map.mp hc
  exact e a ha
end
end Cv

namespace Cv
open PySem PySem.Spec PyProof.Rows L2
/-! ### paths -/
noncomputable def headQ (q : List Pt) : Option Pt := q[0]?
noncomputable def lastQ (q : List Pt) : Option Pt := q[q.length - 1]?
noncomputable def Joined (n : Nat) (qs : Nat → List Pt) : Prop := ∀ i, i + 1 < n → lastQ (qs i) = headQ (qs (i + 1))
noncomputable def partsF (lp : Addr) : List (Str × V) := putF "parts" (.ref lp) []
noncomputable def spCopied (K : PySem.W.Frag) : Sp := fun vs H Q _ => ∃ (a : Addr) (us : List V) (n : Nat) (qs : Nat → List Pt), vs = [.ref a] ∧ H a = some (.lst us) ∧ PssV H us n qs ∧ n ≤ 1000 ∧
  ∀ (l : Addr) (ks : List V) (H' : Hp), Same H H' → H l = none → H' l = some (.lst ks) → ks.length = n → LsV H H' l ks (fun i xs H => PtsV H xs (qs i)) → Q (.ref l) H'
noncomputable def spInit (K : PySem.W.Frag) (C CN : Addr) : Sp := fun vs H Q E => ∃ (x a dx : Addr) (us : List V) (n : Nat) (qs : Nat → List Pt), vs = [.ref x, .ref a] ∧ H x = some (.ins C dx []) ∧ H a = some (.lst us) ∧ PssV H us n qs ∧ n ≤ 1000 ∧ (∀ i, i < n → 1 ≤ (qs i).length) ∧
  ((1 ≤ n ∧ n ≤ 12 ∧ Joined n qs ∧ ∀ (lp : Addr) (ks : List V) (H1 : Hp), Same H H1 → H lp = none → H1 lp = some (.lst ks) → ks.length = n → LsV H H1 lp ks (fun i xs H => PtsV H xs (qs i)) → Q .non (upd H1 x (.ins C dx (partsF lp)))) ∨
    (¬ (1 ≤ n ∧ n ≤ 12 ∧ Joined n qs) ∧ ∀ H', Same H H' → E (.ref CN) none H'))
structure PathAt (C : Addr) (H : Hp) (p lp : Addr) (ks : List V) (n : Nat) (qs : Nat → List Pt) : Prop where
  ob : ∃ dx, H p = some (.ins C dx (partsF lp))
  ls : H lp = some (.lst ks)
  pt : PssV H ks n qs
theorem PathAt.same {C : Addr} {H H' : Hp} {p lp : Addr} {ks : List V} {n : Nat} {qs : Nat → List Pt} (h : PathAt C H p lp ks n qs) (s : Same H H') : PathAt C H' p lp ks n qs := by
  obtain ⟨⟨dx, h1⟩, h2, h3⟩ := h
  exact ⟨⟨dx, s _ _ h1⟩, s _ _ h2, h3.same s⟩
noncomputable def spCurves (K : PySem.W.Frag) (C : Addr) : Sp := fun vs H Q _ => ∃ (p lp : Addr) (ks : List V) (n : Nat) (qs : Nat → List Pt), vs = [.ref p] ∧ PathAt C H p lp ks n qs ∧ n ≤ 1000 ∧
  ∀ (l : Addr) (us : List V) (H' : Hp), Same H H' → H l = none → H' l = some (.lst us) → us.length = n → LsV H H' l us (fun i xs H => PtsV H xs (qs i)) → Q (.ref l) H'
theorem parts_get (lp : Addr) : (partsF lp).lookup ("parts" : Str) = some (.ref lp) := by
  unfold partsF
  rw [lookup_putF, if_pos rfl]
theorem parts_no (lp : Addr) {m : Str} (h : ¬ m = "parts") : (partsF lp).lookup m = none := by
  unfold partsF
  rw [lookup_putF, if_neg h]
  rfl
theorem getQ {q : List Pt} {i : Nat} (h : i < q.length) : q[i]? = some (q[i]'h) := List.getElem?_eq_getElem _
theorem joined_all {n : Nat} {qs : Nat → List Pt} (h : Joined n qs) : ((List.range (n - 1)).map fun i => decide (lastQ (qs i) = headQ (qs (i + 1)))).all id = true := by
  rw [List.all_eq_true]
  intro b hb
  obtain ⟨i, hi, rfl⟩ := List.mem_map.mp hb
  exact decide_eq_true (h i (by have := List.mem_range.mp hi; omega))
theorem all_joined {n : Nat} {qs : Nat → List Pt} (h : ((List.range (n - 1)).map fun i => decide (lastQ (qs i) = headQ (qs (i + 1)))).all id = true) : Joined n qs := fun i hi => by
  rw [List.all_eq_true] at h
  exact of_decide_eq_true (h _ (List.mem_map.mpr ⟨i, List.mem_range.mpr (by omega), rfl⟩))
theorem bls_ext {us : List V} {n : Nat} {f : Nat → Bool} (hl : us.length = n) (h : ∀ (i : Nat) v, us[i]? = some v → v = V.bl (f i)) : us = ((List.range n).map f).map V.bl := by
  refine List.ext_getElem? fun i => ?_
  by_cases hi : i < n
  · have e : us[i]? = some (us[i]'(by omega)) := List.getElem?_eq_getElem _
    rw [e, h i _ e, List.getElem?_map, List.getElem?_map, List.getElem?_range hi]; rfl
  · rw [List.getElem?_eq_none (by omega), List.getElem?_eq_none (by rw [List.length_map, List.length_map, List.length_range]; omega)]
end Cv
namespace Cv
open PySem PySem.Spec PyProof.Rows L2
/-! ### the law's own path -/
noncomputable def spPSeats (K : PySem.W.Frag) : Sp := fun vs H Q _ => ∃ (c : Int) (m : Nat) (w : V) (B kd : Int), vs = [.int c, .int (m : Int), w] ∧ m ≤ 100 ∧ WayV H w B kd ∧
  ∀ (l : Addr) (us : List V) (pl : List Pl) (H' : Hp), Same H H' → H l = none → H' l = some (.lst us) → PlsV H' us pl → pl.length = m → SzQ 110 pl → Q (.ref l) H'
structure JoinedI (css : List (List Pl)) : Prop where
  ne : ∀ c ∈ css, 1 ≤ c.length ∧ c.length ≤ 10
  sz : ∀ c ∈ css, SzQ 110 c
  jn : ∀ (i : Nat) (a b : List Pl), css[i]? = some a → css[i + 1]? = some b → a[a.length - 1]? = b[0]?
noncomputable def spPath (K : PySem.W.Frag) : Sp := fun vs H Q _ => ∃ (a : Addr) (ns : List Int), vs = [.ref a] ∧ SqL K H a (ns.map V.int) ∧
  ∀ (c lc : Addr) (ys : List V) (css : List (List Pl)) (B : Int) (H' : Hp), Same H H' → H' c = some (.tup [.int B, .ref lc]) → H' lc = some (.lst ys) → CsV H' none ys css → JoinedI css → 1 ≤ css.length → css.length ≤ 12 → 1 ≤ B → B ≤ 1000000007 → Q (.ref c) H'
noncomputable def qsOf (B : Int) (css : List (List Pl)) (i : Nat) : List Pt := ptsOf B ((css[i]?).getD [])
noncomputable def spAllH (K : PySem.W.Frag) : Sp := fun vs H Q _ => ∃ (lc : Addr) (ys : List V) (css : List (List Pl)) (B : Int), vs = [.ref lc, .int B] ∧ H lc = some (.lst ys) ∧ CsV H none ys css ∧ 1 ≤ B ∧ Sz 9000 B ∧ css.length ≤ 100 ∧ (∀ c ∈ css, c.length ≤ 1000) ∧
  ∀ (l : Addr) (us : List V) (H' : Hp), Same H H' → H l = none → H' l = some (.lst us) → us.length = css.length → LsV H H' l us (fun i xs H => PtsV H xs (qsOf B css i)) → Q (.ref l) H'
noncomputable def spRefP (K : PySem.W.Frag) : Sp := fun vs H Q _ => ∃ (a : Addr) (us : List V) (n : Nat) (qs : Nat → List Pt), vs = [.ref a] ∧ H a = some (.lst us) ∧ PssV H us n qs ∧ n ≤ 1000 ∧ (∀ i, i < n → 1 ≤ (qs i).length) ∧ ¬ (1 ≤ n ∧ n ≤ 12 ∧ Joined n qs) ∧ ∀ H', Same H H' → Q (.bl true) H'
noncomputable def Apart (css : List (List Pl)) : Prop := ∃ (i : Nat) (a b : List Pl), css[i]? = some a ∧ css[i + 1]? = some b ∧ a[a.length - 1]? ≠ b[0]?
noncomputable def spAside (K : PySem.W.Frag) : Sp := fun vs H Q _ => ∃ (lc : Addr) (ys : List V) (css : List (List Pl)) (c : Int), vs = [.ref lc, .int c] ∧ H lc = some (.lst ys) ∧ CsV H none ys css ∧ JoinedI css ∧ 2 ≤ css.length ∧ css.length ≤ 12 ∧
  ∀ (l : Addr) (us : List V) (css' : List (List Pl)) (H' : Hp), Same H H' → H l = none → H' l = some (.lst us) → CsV H' none us css' → css'.length = css.length → (∀ c ∈ css', 1 ≤ c.length ∧ c.length ≤ 10) → Apart css' → Q (.ref l) H'
theorem ptsOf_len' (B : Int) (pl : List Pl) : (ptsOf B pl).length = pl.length := by unfold ptsOf; rw [List.length_map]
theorem ptsOf_get (B : Int) (pl : List Pl) (i : Nat) : (ptsOf B pl)[i]? = (pl[i]?).map fun p => (Rat.divInt p.1 B, Rat.divInt p.2 B) := by unfold ptsOf; rw [List.getElem?_map]
theorem divInt_inj {x y B : Int} (hB : B ≠ 0) (h : Rat.divInt x B = Rat.divInt y B) : x = y := by
  rw [divInt_cast, divInt_cast] at h
  have b0 : (B : Rat) ≠ 0 := fun z => hB (Rat.intCast_inj.mp (z.trans (Rat.intCast_zero).symm))
  have : (x : Rat) = (y : Rat) := by grind
  exact Rat.intCast_inj.mp this
theorem ends_of {B : Int} {a b : List Pl} (h : a[a.length - 1]? = b[0]?) : lastQ (ptsOf B a) = headQ (ptsOf B b) := by
  unfold lastQ headQ
  rw [ptsOf_len', ptsOf_get, ptsOf_get, h]
theorem of_ends {B : Int} (hB : B ≠ 0) {a b : List Pl} (h : lastQ (ptsOf B a) = headQ (ptsOf B b)) : a[a.length - 1]? = b[0]? := by
  unfold lastQ headQ at h
  rw [ptsOf_len', ptsOf_get, ptsOf_get] at h
  cases e1 : a[a.length - 1]? with
  | none =>
    rw [e1] at h
    cases e2 : b[0]? with
    | none => rfl
    | some q => rw [e2] at h; cases h
  | some p =>
    rw [e1] at h
    cases e2 : b[0]? with
    | none => rw [e2] at h; cases h
    | some q =>
      rw [e2] at h
      have h' := Option.some.inj h
      rw [Prod.mk.injEq] at h'
      rw [Prod.ext (divInt_inj hB h'.1) (divInt_inj hB h'.2)]
theorem qsOf_some {B : Int} {css : List (List Pl)} {i : Nat} {c : List Pl} (h : css[i]? = some c) : qsOf B css i = ptsOf B c := by unfold qsOf; rw [h]; rfl
theorem JoinedI.joined {css : List (List Pl)} (h : JoinedI css) (B : Int) : Joined css.length (qsOf B css) := fun i hi => by
  have e1 : css[i]? = some (css[i]'(by omega)) := List.getElem?_eq_getElem _
  have e2 : css[i + 1]? = some (css[i + 1]'hi) := List.getElem?_eq_getElem _
  rw [qsOf_some e1, qsOf_some e2]
  exact ends_of (h.jn i _ _ e1 e2)
theorem Apart.not {css : List (List Pl)} (h : Apart css) {B : Int} (hB : B ≠ 0) : ¬ Joined css.length (qsOf B css) := fun hj => by
  obtain ⟨i, a, b, e1, e2, n⟩ := h
  have hi : i + 1 < css.length := (List.getElem?_eq_some_iff.mp e2).1
  have := hj i hi
  rw [qsOf_some e1, qsOf_some e2] at this
  exact n (of_ends hB this)
theorem qsOf_len {B : Int} {css : List (List Pl)} (h : ∀ c ∈ css, 1 ≤ c.length ∧ c.length ≤ 10) {i : Nat} (hi : i < css.length) : 1 ≤ (qsOf B css i).length := by
  have e1 : css[i]? = some (css[i]'hi) := List.getElem?_eq_getElem _
  rw [qsOf_some e1, ptsOf_len']
  exact (h _ (List.mem_of_getElem? e1)).1
theorem JoinedI.nil : JoinedI [] := ⟨fun _ h => (nomatch h), fun _ h => (nomatch h), fun i a b e => by simp at e⟩
theorem JoinedI.snoc {css : List (List Pl)} {c : List Pl} (h : JoinedI css) (h1 : 1 ≤ c.length) (h2 : c.length ≤ 10) (hz : SzQ 110 c) (hj : ∀ a, css[css.length - 1]? = some a → 1 ≤ css.length → a[a.length - 1]? = c[0]?) : JoinedI (css ++ [c]) := by
  refine ⟨fun d hd => ?_, fun d hd => ?_, fun i a b e1 e2 => ?_⟩
  · rcases List.mem_append.mp hd with hd | hd
    · exact h.ne d hd
    · rw [List.mem_singleton.mp hd]; exact ⟨h1, h2⟩
  · rcases List.mem_append.mp hd with hd | hd
    · exact h.sz d hd
    · rw [List.mem_singleton.mp hd]; exact hz
  · rcases snoc_get e2 with ⟨p1, p2⟩ | ⟨p1, rfl⟩
    · rcases snoc_get e1 with ⟨q1, q2⟩ | ⟨q1, _⟩
      · exact h.jn i a b q2 p2
      · omega
    · rcases snoc_get e1 with ⟨q1, q2⟩ | ⟨q1, _⟩
      · exact hj a (by rw [show css.length - 1 = i by omega]; exact q2) (by omega)
      · omega
end Cv
namespace Cv
open PySem PySem.Spec PyProof.Rows L2
theorem WayV.tup {H H' : Hp} {v : V} {B kd : Int} (h : WayV H v B kd) (t : Tup H H') : WayV H' v B kd := by
  obtain ⟨a, s, b, sx, sy, bx, by_, rfl, h1, h2, h3, r⟩ := h
  exact ⟨a, s, b, sx, sy, bx, by_, rfl, t _ _ h1, t _ _ h2, t _ _ h3, r⟩
theorem WayV.at0 {H : Hp} {v : V} {B kd : Int} (h : WayV H v B kd) : ∃ (a : Addr) (p q : V), v = .ref a ∧ H a = some (.tup [.int B, .int kd, p, q]) ∧ 1 ≤ B ∧ B ≤ 1000000007 := by
  obtain ⟨a, s, b, sx, sy, bx, by_, rfl, h1, h2, h3, r1, r2, r⟩ := h
  exact ⟨a, _, _, rfl, h1, r1, r2⟩
theorem PlsV.cons {H : Hp} {us : List V} {pl : List Pl} {v : V} {x y : Int} (hv : RwV H v x y) (h : PlsV H us pl) : PlsV H (v :: us) ((x, y) :: pl) := by
  refine ⟨by rw [List.length_cons, List.length_cons, h.len], fun i w q e1 e2 => ?_⟩
  cases i with
  | zero => cases e1; cases e2; exact hv
  | succ i => exact h.get i w q (by simpa using e1) (by simpa using e2)
theorem CsV.drop {H : Hp} {D : Option Addr} {ys : List V} {css : List (List Pl)} (h : CsV H D ys css) : CsV H none ys css :=
  ⟨h.len, fun i v c e1 e2 => by obtain ⟨l, us, q1, q2, q3, q4⟩ := h.get i v c e1 e2; exact ⟨l, us, q1, (fun z => by cases z), q3, q4⟩⟩
end Cv
namespace Cv
open PySem PySem.Spec PyProof.Rows L2
theorem CsV.append {H : Hp} {D : Option Addr} {ys ys' : List V} {css css' : List (List Pl)} (h : CsV H D ys css) (h' : CsV H D ys' css') : CsV H D (ys ++ ys') (css ++ css') := by
  have hl := h.len
  refine ⟨by rw [List.length_append, List.length_append, hl, h'.len], fun i v c e1 e2 => ?_⟩
  by_cases hi : i < ys.length
  · rw [List.getElem?_append_left hi] at e1
    rw [List.getElem?_append_left (by omega)] at e2
    exact h.get i v c e1 e2
  · rw [List.getElem?_append_right (by omega)] at e1
    rw [List.getElem?_append_right (by omega), ← hl] at e2
    exact h'.get _ v c e1 e2
theorem CsV.take {H : Hp} {D : Option Addr} {ys : List V} {css : List (List Pl)} (h : CsV H D ys css) (k : Nat) : CsV H D (ys.take k) (css.take k) := by
  refine ⟨by rw [List.length_take, List.length_take, h.len], fun i v c e1 e2 => ?_⟩
  rw [List.getElem?_take] at e1 e2
  split at e1
  · rename_i hi
    rw [if_pos hi] at e2
    exact h.get i v c e1 e2
  · cases e1
theorem CsV.dropK {H : Hp} {D : Option Addr} {ys : List V} {css : List (List Pl)} (h : CsV H D ys css) (k : Nat) : CsV H D (ys.drop k) (css.drop k) := by
  refine ⟨by rw [List.length_drop, List.length_drop, h.len], fun i v c e1 e2 => ?_⟩
  rw [List.getElem?_drop] at e1 e2
  exact h.get _ v c e1 e2
theorem CsV.single {H : Hp} {l : Addr} {us : List V} {c : List Pl} (h1 : H l = some (.lst us)) (h2 : PlsV H us c) : CsV H none [.ref l] [c] :=
  ⟨rfl, fun i v c' e1 e2 => by
    cases i with
    | zero => cases e1; cases e2; exact ⟨l, us, rfl, (fun z => by cases z), h1, h2⟩
    | succ i => simp at e1⟩
noncomputable def mvI (bx by_ : Int) (c : List Pl) : List Pl := c.map fun p => (p.1 + bx, p.2 + by_)
theorem mvI_len (bx by_ : Int) (c : List Pl) : (mvI bx by_ c).length = c.length := by unfold mvI; rw [List.length_map]
theorem mv_ne {bx by_ : Int} {c : List Pl} {i : Nat} (hb : bx ≠ 0 ∨ by_ ≠ 0) (hi : i < c.length) : (mvI bx by_ c)[i]? ≠ c[i]? := fun h => by
  unfold mvI at h
  rw [List.getElem?_map, List.getElem?_eq_getElem hi] at h
  have h' := Option.some.inj h
  have h1 := congrArg Prod.fst h'
  have h2 := congrArg Prod.snd h'
  simp only at h1 h2
  omega
theorem aside_get (css : List (List Pl)) (m : List Pl) {k i : Nat} (hk : k < css.length) : (css.take k ++ [m] ++ css.drop (k + 1))[i]? = if i = k then some m else css[i]? := by
  have hl : (css.take k ++ [m]).length = k + 1 := by rw [List.length_append, List.length_take, List.length_singleton]; omega
  by_cases h1 : i < k
  · rw [if_neg (by omega), List.getElem?_append_left (by omega), List.getElem?_append_left (by rw [List.length_take]; omega), List.getElem?_take, if_pos h1]
  · by_cases h2 : i = k
    · subst h2
      rw [if_pos rfl, List.getElem?_append_left (by omega), List.getElem?_append_right (by rw [List.length_take]; omega), List.length_take, show i - min i css.length = 0 by omega]; rfl
    · rw [if_neg h2, List.getElem?_append_right (by omega), hl, List.getElem?_drop, show k + 1 + (i - (k + 1)) = i by omega]
theorem aside_apart {css : List (List Pl)} (hJ : JoinedI css) (h2 : 2 ≤ css.length) {k : Nat} {c : List Pl} (hc : css[k]? = some c) {bx by_ : Int} (hb : bx ≠ 0 ∨ by_ ≠ 0) : Apart (css.take k ++ [mvI bx by_ c] ++ css.drop (k + 1)) := by
  have hk : k < css.length := (List.getElem?_eq_some_iff.mp hc).1
  have c1 := hJ.ne c (List.mem_of_getElem? hc)
  cases k with
  | zero =>
    have e1 : css[1]? = some (css[1]'(by omega)) := List.getElem?_eq_getElem _
    refine ⟨0, mvI bx by_ c, css[1]'(by omega), by rw [aside_get css _ hk, if_pos rfl], by rw [aside_get css _ hk, if_neg (by omega)]; exact e1, fun h => ?_⟩
    rw [mvI_len, ← hJ.jn 0 c _ hc e1] at h
    exact mv_ne hb (by omega) h
  | succ k =>
    have e1 : css[k]? = some (css[k]'(by omega)) := List.getElem?_eq_getElem _
    refine ⟨k, css[k]'(by omega), mvI bx by_ c, by rw [aside_get css _ hk, if_neg (by omega)]; exact e1, by rw [aside_get css _ hk, if_pos rfl], fun h => ?_⟩
    rw [hJ.jn k _ c e1 hc] at h
    exact mv_ne hb (by omega) h.symm
theorem aside_len (css : List (List Pl)) (m : List Pl) {k : Nat} (hk : k < css.length) : (css.take k ++ [m] ++ css.drop (k + 1)).length = css.length := by
  rw [List.length_append, List.length_append, List.length_take, List.length_drop, List.length_singleton]; omega
end Cv
namespace Cv
open PySem PySem.Spec PyProof.Rows L2
theorem cut_firstV (xs : List V) (k : Int) (n : Nat) (e : k = (n : Int)) (h : n ≤ xs.length) : cutV xs none (some k) = xs.take n := by
  subst e
  unfold cutV
  rw [HT.sIx_nat, show min n xs.length = n by omega]
  show (xs.drop 0).take _ = _
  rfl
end Cv
namespace Cv
open PySem PySem.Spec PyProof.Rows L2
theorem But.base {us : List V} {i : Nat} {H0 H H' : Hp} (h : But us i H H') (s : Same H0 H) (hn : ∀ (j : Nat) (l : Addr), us[j]? = some (.ref l) → H0 l = none) : Same H0 H' := fun b o e => h.keep b o (s _ _ e) fun j hj z => by
  rw [hn j b z] at e; cases e
theorem LsV.new {H1 H2 : Hp} {D : Addr} {ys : List V} {R : Nat → List V → Hp → Prop} (h : LsV H1 H2 D ys R) (j : Nat) (l : Addr) (e : ys[j]? = some (.ref l)) : H1 l = none := by
  obtain ⟨l', xs, e1, e2, _⟩ := h.get j _ e
  cases e1; exact e2
theorem LsV.there {H1 H2 : Hp} {D : Addr} {ys : List V} {R : Nat → List V → Hp → Prop} (h : LsV H1 H2 D ys R) (j : Nat) (l : Addr) (e : ys[j]? = some (.ref l)) : ∃ xs, H2 l = some (.lst xs) := by
  obtain ⟨l', xs, e1, _, _, e4, _⟩ := h.get j _ e
  cases e1; exact ⟨xs, e4⟩
theorem LsV.neD {H1 H2 : Hp} {D : Addr} {ys : List V} {R : Nat → List V → Hp → Prop} (h : LsV H1 H2 D ys R) (j : Nat) : ys[j]? ≠ some (.ref D) := fun e => by
  obtain ⟨l', xs, e1, _, e3, _⟩ := h.get j _ e
  cases e1; exact e3 rfl
theorem LsV.to {H1 H2 H3 : Hp} {D : Addr} {ys : List V} {qs : Nat → List Pt} (h : LsV H1 H2 D ys fun i xs H => PtsV H xs (qs i)) (s : Same H2 H3) : LsV H1 H3 D ys fun i xs H => PtsV H xs (qs i) :=
  ⟨fun j v e => by obtain ⟨l', xs, e1, e2, e3, e4, e5⟩ := h.get j v e; exact ⟨l', xs, e1, e2, e3, s _ _ e4, e5.same s⟩, h.one⟩
/-- an instance's fields are told: the lists stay -/
theorem LsV.ins {H1 H2 : Hp} {D x : Addr} {ys : List V} {qs : Nat → List Pt} {o o' : HO} (h : LsV H1 H2 D ys fun i xs H => PtsV H xs (qs i)) (hx : H1 x = some o) (hx2 : H2 x = some o) (ho : ∀ xs, o ≠ .tup xs) : LsV H1 (upd H2 x o') D ys fun i xs H => PtsV H xs (qs i) :=
  ⟨fun j v e => by
    obtain ⟨l', xs, e1, e2, e3, e4, e5⟩ := h.get j v e
    have n : l' ≠ x := fun z => by rw [z, hx] at e2; cases e2
    refine ⟨l', xs, e1, e2, e3, by rw [upd_ne n]; exact e4, e5.tup fun b zs ez => ?_⟩
    rw [upd_ne (fun z => by rw [z, hx2] at ez; exact ho zs (Option.some.inj ez))]; exact ez, h.one⟩
theorem PssV.nil (H : Hp) : PssV H [] 0 (fun _ => []) := ⟨rfl, fun i v e => nomatch (show (none : Option V) = some v from e)⟩
theorem But.other2 {us ks : List V} {i : Nat} {H1 H2 H' : Hp} {k : Addr} {qs : Nat → List Pt} (h : But us i H2 H') (hu : ∀ (j : Nat) (l : Addr), us[j]? = some (.ref l) → ∃ xs, H1 l = some (.lst xs)) (hu2 : ∀ (j : Nat) (l : Addr), us[j]? = some (.ref l) → ∃ xs, H2 l = some (.lst xs)) (hL : LsV H1 H2 k ks fun i xs H => PtsV H xs (qs i)) {n : Nat} (hn : ks.length = n) : PssV H' ks n qs := by
  have tp := h.tup hu2
  refine ⟨hn, fun j v e => ?_⟩
  obtain ⟨l, xs, rfl, e2, e3, e4, e5⟩ := hL.get j v e
  refine ⟨l, xs, rfl, h.keep l _ e4 fun j' hj' z => ?_, e5.tup tp⟩
  obtain ⟨ys, hy⟩ := hu j' l z
  rw [e2] at hy; cases hy
/-- the path stays where lists that are not its own are changed -/
theorem PathAt.but {C : Addr} {H4 H H' : Hp} {x lp : Addr} {us ks : List V} {i n : Nat} {qs : Nat → List Pt} (hb : But us i H H') (ho : ∃ dx, H x = some (.ins C dx (partsF lp))) (hp : H lp = some (.lst ks)) (hL : LsV H4 H lp ks fun i xs H => PtsV H xs (qs i)) (hn : ks.length = n) (hlp : H4 lp = none)
    (hx : ∀ j : Nat, us[j]? ≠ some (.ref x)) (hu : ∀ (j : Nat) (l : Addr), us[j]? = some (.ref l) → ∃ xs, H4 l = some (.lst xs)) (hu2 : ∀ (j : Nat) (l : Addr), us[j]? = some (.ref l) → ∃ xs, H l = some (.lst xs)) : PathAt C H' x lp ks n qs := by
  obtain ⟨dx, ho⟩ := ho
  refine ⟨⟨dx, hb.keep _ _ ho fun j _ => hx j⟩, hb.keep _ _ hp fun j _ z => ?_, hb.other2 hu hu2 hL hn⟩
  obtain ⟨xs, h⟩ := hu j _ z
  rw [hlp] at h; cases h
theorem PathAt.upd {C : Addr} {H : Hp} {x lp l : Addr} {ks ls : List V} {n : Nat} {qs : Nat → List Pt} {o : HO} (h : PathAt C H x lp ks n qs) (hl : H l = some (.lst ls)) (h1 : l ≠ lp) (h2 : ∀ j : Nat, ks[j]? ≠ some (.ref l)) : PathAt C (L2.upd H l o) x lp ks n qs := by
  obtain ⟨⟨dx, q1⟩, q2, q3⟩ := h
  refine ⟨⟨dx, by rw [upd_ne (fun z => by rw [z, hl] at q1; cases q1)]; exact q1⟩, by rw [upd_ne (fun z => h1 z.symm)]; exact q2, q3.1, fun j v e => ?_⟩
  obtain ⟨l', xs, rfl, e2, e3⟩ := q3.2 j v e
  exact ⟨l', xs, rfl, by rw [upd_ne (fun z => h2 j (by rw [← z]; exact e))]; exact e2, e3.tup (Tup.lst hl)⟩
theorem cs_rep {H1 H2 : Hp} {D : Addr} {us : List V} {n : Nat} {c : List Pl} (h : LsV H1 H2 D us fun _ xs H => PlsV H xs c) (hn : us.length = n) : CsV H2 none us (List.replicate n c) :=
  ⟨by rw [List.length_replicate, hn], fun i v d e1 e2 => by
    obtain ⟨l', xs, q1, q2, q3, q4, q5⟩ := h.get i v e1
    rw [List.getElem?_replicate] at e2
    split at e2
    · cases e2; exact ⟨l', xs, q1, (fun z => by cases z), q4, q5⟩
    · cases e2⟩
end Cv
namespace Cv
open PySem PySem.Spec PyProof.Rows L2
theorem PlsV.takeK {H : Hp} {us : List V} {pl : List Pl} (h : PlsV H us pl) (k : Nat) : PlsV H (us.take k) (pl.take k) := by
  refine ⟨by rw [List.length_take, List.length_take, h.len], fun i v c e1 e2 => ?_⟩
  rw [List.getElem?_take] at e1 e2
  split at e1
  · rename_i hi
    rw [if_pos hi] at e2
    exact h.get i v c e1 e2
  · cases e1
end Cv
namespace Cv
open PySem PySem.Spec PyProof.Rows L2
end Cv

set_option maxHeartbeats 4000000
namespace Cv
open PySem L2
local macro_rules | `(tactic| walk_at "hf") => `(tactic| first
  | assumption
  | exact upd_same
  | (refine upd_keep (by assumption) ?_; walk_at "hf")
  | (refine (by assumption : L2.Same _ _) _ _ ?_; walk_at "hf")
  | fail)
local macro_rules | `(tactic| walk_at "sm") => `(tactic| first
  | assumption
  | exact L2.Same.refl _
  | (refine L2.Same.trans ?_ (by assumption : L2.Same _ _); walk_at "sm")
  | (refine L2.Same.trans ?_ (Same.new (by assumption)); walk_at "sm")
  | fail)
local macro_rules | `(tactic| walk_at "mv") => `(tactic| first
  | assumption
  | (refine ShV.same ?_ (by assumption : L2.Same _ _); walk_at "mv")
  | (refine ShV.same ?_ (Same.new (by assumption)); walk_at "mv")
  | (refine PtV.same ?_ (by assumption : L2.Same _ _); walk_at "mv")
  | (refine PtV.same ?_ (Same.new (by assumption)); walk_at "mv")
  | (refine RwV.same ?_ (by assumption : L2.Same _ _); walk_at "mv")
  | (refine RwV.same ?_ (Same.new (by assumption)); walk_at "mv")
  | (refine RwQ.same ?_ (by assumption : L2.Same _ _); walk_at "mv")
  | (refine RwQ.same ?_ (Same.new (by assumption)); walk_at "mv")
  | (refine MpV.same ?_ (by assumption : L2.Same _ _); walk_at "mv")
  | (refine MpV.same ?_ (Same.new (by assumption)); walk_at "mv")
  | (refine PtsV.same ?_ (by assumption : L2.Same _ _); walk_at "mv")
  | (refine PtsV.same ?_ (Same.new (by assumption)); walk_at "mv")
  | (refine AxV.same ?_ (by assumption : L2.Same _ _); walk_at "mv")
  | (refine AxV.same ?_ (Same.new (by assumption)); walk_at "mv")
  | (refine ShL.same ?_ (by assumption : L2.Same _ _); walk_at "mv")
  | (refine ShL.same ?_ (Same.new (by assumption)); walk_at "mv")
  | (refine SqL.same' ?_ (by assumption : L2.Same _ _); walk_at "mv")
  | (refine SqL.same' ?_ (Same.new (by assumption)); walk_at "mv")
  | fail)
local macro_rules | `(tactic| walk_at "sq") => `(tactic| first
  | exact SqT.of (by walk_at "hf")
  | exact SqL.of (by walk_at "hf")
  | walk_at "mv"
  | fail)
local macro_rules | `(tactic| walk_at "at") => `(tactic| first
  | rfl
  | assumption
  | exact at_mapZ _ _ (by omega) (by omega)
  | fail)
local macro_rules | `(tactic| walk_at "sz") => `(tactic| first
  | assumption
  | exact Bd.num (by assumption)
  | exact Bd.den (by assumption)
  | exact Sz.one
  | exact Sz.mul (by walk_at "sz") (by walk_at "sz")
  | exact Sz.add (by walk_at "sz") (by walk_at "sz")
  | exact Sz.sub (by walk_at "sz") (by walk_at "sz")
  | exact Sz.neg (by walk_at "sz")
  | fail)
local macro_rules | `(tactic| walk_at "bdx") => `(tactic| first
  | assumption
  | exact Bd.zero'
  | exact Bd.one'
  | exact Bd.add (by walk_at "bdx") (by walk_at "bdx")
  | exact Bd.sub (by walk_at "bdx") (by walk_at "bdx")
  | exact Bd.mul (by walk_at "bdx") (by walk_at "bdx")
  | fail)
local macro_rules | `(tactic| walk_at "bd") => `(tactic| exact Bd.mono (by walk_at "bdx") (by decide))
local macro_rules | `(tactic| walk_at "szm") => `(tactic| exact Sz.mono (by walk_at "sz") (by decide))
local macro_rules | `(tactic| walk_at "arith") => `(tactic| first
  | exact pos30
  | exact pl
  | exact ⟨by decide, by decide⟩
  | exact ⟨by decide, by decide, by decide⟩
  | exact mulL (by decide) (by decide)
  | exact mulR (by decide) (by decide)
  | exact mulR (by omega) (by omega)
  | exact mulL (by omega) (by omega)
  | exact mulB (by walk_at "sz") (by walk_at "sz")
  | fail)
local macro_rules | `(tactic| walk_at "len") => `(tactic| first
  | (show 2 ≤ sizeLine; decide)
  | (show 0 ≤ sizeLine; decide)
  | (show 1 ≤ sizeLine; decide)
  | (show 3 ≤ sizeLine; decide)
  | (show 4 ≤ sizeLine; decide)
  | (show 5 ≤ sizeLine; decide)
  | (show 6 ≤ sizeLine; decide)
  | (show 8 ≤ sizeLine; decide)
  | fail)
local macro_rules | `(tactic| walk_at "r1") => `(tactic| first
  | refine ⟨_, _, rfl, rfl, by walk_at "arith", ?_⟩
  | refine ⟨_, _, rfl, rfl, ?_⟩
  | refine ⟨_, _, _, _, rfl, rfl, by walk_at "sq", by walk_at "at", ?_⟩
  | refine ⟨_, rfl, ?_⟩
  | refine ⟨rfl, ?_⟩
  | refine ⟨_, _, rfl, .inr (SqT.of (by walk_at "hf")), ?_⟩
  | refine ⟨_, _, rfl, .inl (SqL.of (by walk_at "hf")), ?_⟩
  | refine ⟨_, "tuple", _, _, rfl, TyOf.tup (by walk_at "hf"), kit_tt _, ?_⟩
  | refine ⟨_, "list", _, _, rfl, TyOf.lst (by walk_at "hf"), kit_ll _, ?_⟩
  | refine ⟨_, "int", _, _, rfl, TyOf.int _, kit_ii _, ?_⟩
  | refine ⟨_, "bool", _, _, rfl, TyOf.int _, kit_ib _, ?_⟩
  | refine ⟨_, "bool", _, _, rfl, TyOf.bl _, kit_bb _, ?_⟩
  | refine ⟨by walk_at "len", ?_⟩
  | refine ⟨by decide, ?_⟩
  | fail)
local macro_rules | `(tactic| walk_at "rd") => `(tactic| repeat walk_at "r1")
local macro_rules | `(tactic| walk_at "fr") => `(tactic| first
  | assumption
  | (refine L2.Same.free (by assumption : L2.Same _ _) ?_; walk_at "fr")
  | (refine L2.Same.free (Same.new (by assumption)) ?_; walk_at "fr")
  | fail)
local macro_rules | `(tactic| walk_at "tk") => `(tactic| first
  | assumption
  | fail)
local macro_rules | `(tactic| walk_at "mv") => `(tactic| first
  | assumption
  | (refine ShK.same ?_ (by assumption : L2.Same _ _); walk_at "mv")
  | (refine ShK.same ?_ (Same.new (by assumption)); walk_at "mv")
  | (refine PtK.same ?_ (by assumption : L2.Same _ _); walk_at "mv")
  | (refine PtK.same ?_ (Same.new (by assumption)); walk_at "mv")
  | (refine PtsK.same ?_ (by assumption : L2.Same _ _); walk_at "mv")
  | (refine PtsK.same ?_ (Same.new (by assumption)); walk_at "mv")
  | (refine ShV.k ?_; walk_at "mv")
  | (refine PtV.k ?_; walk_at "mv")
  | (refine PtsV.k ?_; walk_at "mv")
  | fail)
local macro_rules | `(tactic| walk_at "sq") => `(tactic| first
  | exact TK.sq (by walk_at "tk")
  | fail)
local macro_rules | `(tactic| walk_at "rk1") => `(tactic| first
  | refine ⟨_, "tuple", _, _, rfl, .inr ⟨rfl, _, _, rfl, by walk_at "sq"⟩, kit_tt _, ?_⟩
  | refine ⟨_, "list", _, _, rfl, .inl (TyOf.lst (by walk_at "hf")), kit_ll _, ?_⟩
  | refine ⟨_, "int", _, _, rfl, .inl (TyOf.int _), kit_ii _, ?_⟩
  | refine ⟨_, "bool", _, _, rfl, .inl (TyOf.int _), kit_ib _, ?_⟩
  | refine ⟨_, "bool", _, _, rfl, .inl (TyOf.bl _), kit_bb _, ?_⟩
  | refine ⟨_, _, rfl, .inr (by walk_at "sq"), ?_⟩
  | walk_at "r1"
  | fail)
local macro_rules | `(tactic| walk_at "rk") => `(tactic| repeat walk_at "rk1")

structure Cst (K : PySem.W.Frag) (mg : Str → Option Value) (t_MOST_CURVES : Tok) : Prop where
  MOST_CURVES : mg "MOST_CURVES" = some (.int 12 t_MOST_CURVES)
structure Exc (K : PySem.W.Frag) (mg : Str → Option Value) (C_SeatError C_NoJoin C_NoShare C_NoLower C_NoMap C_NoPlace C_TooMany C_NoText C_NoName : Addr) : Prop where
  SeatError : mg "SeatError" = some (.ref C_SeatError)
  NoJoin : mg "NoJoin" = some (.ref C_NoJoin)
  NoShare : mg "NoShare" = some (.ref C_NoShare)
  NoLower : mg "NoLower" = some (.ref C_NoLower)
  NoMap : mg "NoMap" = some (.ref C_NoMap)
  NoPlace : mg "NoPlace" = some (.ref C_NoPlace)
  TooMany : mg "TooMany" = some (.ref C_TooMany)
  NoText : mg "NoText" = some (.ref C_NoText)
  NoName : mg "NoName" = some (.ref C_NoName)
  xNoJoin : XCls K mg "NoJoin" C_NoJoin
  mNoJoin : PySem.W.exmOne K (.ref C_NoJoin) (.ref C_SeatError) = some true
  vNoJoin : PySem.W.kitOne K (.ref C_NoJoin) (.type "ValueError") = some true
  nNoJoin : XNot K C_NoJoin
  fNoJoin_NoShare : PySem.W.kitOne K (.ref C_NoJoin) (.ref C_NoShare) = some false
  fNoJoin_NoLower : PySem.W.kitOne K (.ref C_NoJoin) (.ref C_NoLower) = some false
  fNoJoin_NoMap : PySem.W.kitOne K (.ref C_NoJoin) (.ref C_NoMap) = some false
  fNoJoin_NoPlace : PySem.W.kitOne K (.ref C_NoJoin) (.ref C_NoPlace) = some false
  fNoJoin_TooMany : PySem.W.kitOne K (.ref C_NoJoin) (.ref C_TooMany) = some false
  fNoJoin_NoText : PySem.W.kitOne K (.ref C_NoJoin) (.ref C_NoText) = some false
  fNoJoin_NoName : PySem.W.kitOne K (.ref C_NoJoin) (.ref C_NoName) = some false
noncomputable def top (i : Nat) : Stmt := PySem.Challenge.pw_curveseat_k73_paths_joined.main.body.getD i (.Pass ⟨0, 0, 0, 0⟩)
noncomputable abbrev s_copied : Stmt := top 13
theorem sc_copied : FnScope ["curves"] ["curves"] (defScope s_copied) := ⟨rfl, rfl, rfl, by decide +kernel, rfl, by decide +kernel, by decide +kernel⟩
noncomputable abbrev s_Path___init__ : Stmt := inClass (top 14) 0
theorem sc_Path___init__ : FnScope ["self", "curves"] ["self", "curves"] (defScope s_Path___init__) := ⟨rfl, rfl, rfl, by decide +kernel, rfl, by decide +kernel, by decide +kernel⟩
noncomputable abbrev s_Path_curves : Stmt := inClass (top 14) 1
theorem sc_Path_curves : FnScope ["self"] ["self"] (defScope s_Path_curves) := ⟨rfl, rfl, rfl, by decide +kernel, rfl, by decide +kernel, by decide +kernel⟩
noncomputable abbrev s_l_cell_at : Stmt := top 16
theorem sc_l_cell_at : FnScope ["_law_script", "_law_k"] ["_law_script", "_law_k"] (defScope s_l_cell_at) := ⟨rfl, rfl, rfl, by decide +kernel, rfl, by decide +kernel, by decide +kernel⟩
noncomputable abbrev s_l_stream : Stmt := top 17
theorem sc_l_stream : FnScope ["_law_cell", "_law_many", "_law_number", "_law_found", "_law_k"] ["_law_cell", "_law_many"] (defScope s_l_stream) := ⟨rfl, rfl, rfl, by decide +kernel, rfl, by decide +kernel, by decide +kernel⟩
noncomputable abbrev s_l_share : Stmt := top 18
theorem sc_l_share : FnScope ["_law_top", "_law_bottom", "_law_one", "_law_other", "_law_rest"] ["_law_top", "_law_bottom"] (defScope s_l_share) := ⟨rfl, rfl, rfl, by decide +kernel, rfl, by decide +kernel, by decide +kernel⟩
noncomputable abbrev s_l_way : Stmt := top 19
theorem sc_l_way : FnScope ["_law_cell", "_law_way_here", "_law_bottom", "_law_start"] ["_law_cell"] (defScope s_l_way) := ⟨rfl, rfl, rfl, by decide +kernel, rfl, by decide +kernel, by decide +kernel⟩
noncomputable abbrev s_l_place : Stmt := top 20
theorem sc_l_place : FnScope ["_law_cell", "_law_way_here", "_law_bottom", "_law_kind", "_law_start", "_law_by", "_law_row"] ["_law_cell", "_law_way_here"] (defScope s_l_place) := ⟨rfl, rfl, rfl, by decide +kernel, rfl, by decide +kernel, by decide +kernel⟩
noncomputable abbrev s_l_handed : Stmt := top 21
theorem sc_l_handed : FnScope ["_law_places", "_law_bottom"] ["_law_places", "_law_bottom"] (defScope s_l_handed) := ⟨rfl, rfl, rfl, by decide +kernel, rfl, by decide +kernel, by decide +kernel⟩
noncomputable abbrev s_l_seats : Stmt := top 22
theorem sc_l_seats : FnScope ["_law_cell", "_law_many", "_law_way_here"] ["_law_cell", "_law_many", "_law_way_here"] (defScope s_l_seats) := ⟨rfl, rfl, rfl, by decide +kernel, rfl, by decide +kernel, by decide +kernel⟩
noncomputable abbrev s_l_path : Stmt := top 23
theorem sc_l_path : FnScope ["_law_script", "_law_row", "_law_way_here", "_law_many", "_law_last", "_law_curves", "_law_k", "_law_some", "_law_curve"] ["_law_script"] (defScope s_l_path) := ⟨rfl, rfl, rfl, by decide +kernel, rfl, by decide +kernel, by decide +kernel⟩
noncomputable abbrev s_l_all_handed : Stmt := top 24
theorem sc_l_all_handed : FnScope ["_law_curves", "_law_bottom"] ["_law_curves", "_law_bottom"] (defScope s_l_all_handed) := ⟨rfl, rfl, rfl, by decide +kernel, rfl, by decide +kernel, by decide +kernel⟩
noncomputable abbrev s_l_refused : Stmt := top 25
theorem sc_l_refused : FnScope ["_law_curves", "e"] ["_law_curves"] (defScope s_l_refused) := ⟨rfl, rfl, rfl, by decide +kernel, rfl, by decide +kernel, by decide +kernel⟩
noncomputable abbrev s_l_aside : Stmt := top 26
theorem sc_l_aside : FnScope ["_law_curves", "_law_cell", "_law_at", "_law_row", "_law_by", "_law_other"] ["_law_curves", "_law_cell"] (defScope s_l_aside) := ⟨rfl, rfl, rfl, by decide +kernel, rfl, by decide +kernel, by decide +kernel⟩
noncomputable abbrev s_law : Stmt := top 27
theorem sc_law : FnScope ["_law_script", "_law_bottom", "_law_curves", "_law_due", "_law_handed_here", "_law_path_here", "_law_curve", "_law_k", "_law_told", "_law_many"] ["_law_script"] (defScope s_law) := ⟨rfl, rfl, rfl, by decide +kernel, rfl, by decide +kernel, by decide +kernel⟩
section
variable {P : Program} {w : World} {K : PySem.W.Frag} {mg : Str → Option Value} {base : Heap}
theorem ok_copied {C_Path : Addr} (T_Path : ClsK K mg "Path" C_Path) (N_Path_parts : NoAttr K C_Path "parts") (F : FunAt K mg "copied" s_copied ["curves"]) (B : Blt mg) {C_SeatError C_NoJoin C_NoShare C_NoLower C_NoMap C_NoPlace C_TooMany C_NoText C_NoName : Addr} (X : Exc K mg C_SeatError C_NoJoin C_NoShare C_NoLower C_NoMap C_NoPlace C_TooMany C_NoText C_NoName) {t_MOST_CURVES : Tok} (G : Cst K mg t_MOST_CURVES) : DefOk P w K mg base CX0 1 "copied" ["curves"] (spCopied K) := by
  refine def_okI F sc_copied (fun vs H Q E h => ?_) (fun f cdv A outer s H vs Q E hr h => ?_)
  · obtain ⟨a, us, n, qs, rfl, _⟩ := h; rfl
  · obtain ⟨a, us, n, qs, rfl, ha, hU, hn, k⟩ := h
    have hu := hr.units
    refine ⟨_, (pss_oneI (ps_retI (pe_compSI (os := ["curve"]) (caps := []) ["curves"] (defScope s_copied) (pi_listI (pvI 0)) (fun _ _ _ _ _ => (pg_nameI (i := 0) (show List.Nodup (["curve"] : List Str) from by decide +kernel) rfl (by first | exact Or.inl rfl | exact Or.inr rfl))) (fun _ _ _ _ _ => (pe_callTyI (call_list_ofK K) rfl B.list PyProof.Rows.boot_list (pa_consI (pvI 0) pa_nilI))) (by decide +kernel)))), ?_⟩
    walk_at "rd"
    refine ⟨⟨_, SqL.of ha⟩, compL (plain_list (SqL.of ha)) (by have := hU.1; omega) (fun i xs H => PtsV H xs (qs i)) (fun _ _ _ _ tt h => h.tup tt) (fun j H8 kk hj s8 hk => ?_) (fun lk ks H8 hk0 s8 hk8 hkl hKs => ?_)⟩
    · obtain ⟨lj, xj, ej, hj8, hPj⟩ := (hU.same s8).at (show j < n by have := hU.1; omega)
      rw [ej]
      walk_at "rd"
      intro l9 hl9
      exact hk l9 xj _ (Same.new hl9) hl9 upd_same (hPj.same (Same.new hl9))
    exact k lk ks H8 s8 hk0 hk8 (by have := hU.1; omega) hKs
theorem ok_Path___init__ {C_Path : Addr} (T_Path : ClsK K mg "Path" C_Path) (N_Path_parts : NoAttr K C_Path "parts") (F : MthAt K C_Path "__init__" "Path.__init__" s_Path___init__ ["self", "curves"]) (B : Blt mg) {C_SeatError C_NoJoin C_NoShare C_NoLower C_NoMap C_NoPlace C_TooMany C_NoText C_NoName : Addr} (X : Exc K mg C_SeatError C_NoJoin C_NoShare C_NoLower C_NoMap C_NoPlace C_TooMany C_NoText C_NoName) {t_MOST_CURVES : Tok} (G : Cst K mg t_MOST_CURVES) (D_copied : DefOk P w K mg base CX0 1 "copied" ["curves"] (spCopied K)) : MthOk P w K mg base (CXx P w) 2 C_Path "__init__" ["self", "curves"] (spInit K C_Path C_NoJoin) := by
  refine mth_okX F sc_Path___init__ (fun vs H Q E h => ?_) (fun f cdv A outer s H vs Q E hr h => ?_)
  · obtain ⟨x, a, dx, us, n, qs, rfl, _⟩ := h; rfl
  · obtain ⟨x, a, dx, us, n, qs, rfl, hx, ha, hU, hn, h1, k⟩ := h
    have hu := hr.units
    refine ⟨_, (pss_consI (ps_ifI (pt_notI (pt_chainI op_le op_le pe_intI (pe_callBI (call_lenK K) (by rfl) B.len PySem.boot_len (pa_consI (pvI 1) pa_nilI)) (pe_globI (v := .int 12) rfl G.MOST_CURVES ⟨_, rfl⟩) (by with_unfolding_all rfl))) (pss_oneI (ps_raiseI throws_cx X.xNoJoin (pa_consI pe_strI pa_nilI))) pss_nilI)
      (pss_consI (ps_ifI (pt_notI (pt_valI (pe_callBI (call_allB rfl) (by rfl) B.all PyProof.Rows.boot_all (pa_consI (pe_compSI (os := ["one", "other"]) (caps := []) ["self", "curves"] (defScope s_Path___init__) (pi_zipI rfl B.zip (pa_consI (pvI 1) (pa_consI (pe_sliceI (sl_listK K) (pvI 1) (po_someI pe_intI) po_noneI) pa_nilI))) (fun _ _ _ _ _ => (pg_tupKI (n := 2) K rfl (pgs_consI (pg_nameI (i := 0) (show List.Nodup (["one", "other"] : List Str) from by decide +kernel) rfl (by first | exact Or.inl rfl | exact Or.inr rfl)) (pgs_consI (pg_nameI (i := 1) (show List.Nodup (["one", "other"] : List Str) from by decide +kernel) rfl (by first | exact Or.inl rfl | exact Or.inr rfl)) pgs_nilI)))) (fun _ _ _ _ _ => (pe_cmpRI (op_eqDK K hu) (pe_ixI (ix_listK K) (pvI 0) (pe_unI un_neg pe_intI) (fun _ _ => rfl)) (pe_ixI (ix_listK K) (pvI 1) pe_intI (fun _ _ => rfl)) (nomark _))) (by decide +kernel)) pa_nilI)))) (pss_oneI (ps_raiseI throws_cx X.xNoJoin (pa_consI pe_strI pa_nilI))) pss_nilI)
      (pss_oneI (ps_fldI (pvI 0) (pe_fnI D_copied hr pass0 (pa_consI (pvI 1) pa_nilI)))))), ?_⟩
    have hul := hU.1
    walk_at "rd"
    refine ite_dec (fun g1 => ?_) (fun g1 => ?_)
    rotate_left
    · rcases k with ⟨k1, _⟩ | ⟨_, k⟩
      · omega
      · exact ⟨_, rfl, ifT rfl ⟨by show 1 ≤ sizeLine; decide, k H (L2.Same.refl _)⟩⟩
    walk_at "rd"
    by_cases g2 : (us.length : Int) ≤ 12
    rotate_left
    · refine ifT (by simpa using g2) ?_
      rcases k with ⟨_, k1, _⟩ | ⟨_, k⟩
      · omega
      · exact ⟨by show 1 ≤ sizeLine; decide, k H (L2.Same.refl _)⟩
    refine ifF (by simpa using g2) ?_
    walk_at "rd"
    refine ⟨a, us, rfl, SqL.of ha, fun l1 hl1 => ?_⟩
    rw [cut_rest us (by omega)]
    have s1 := Same.new (o := .lst (us.drop 1)) hl1
    have hv1 : (upd H l1 (.lst (us.drop 1))) l1 = some (.lst (us.drop 1)) := upd_same
    replace ha := s1 _ _ ha
    replace hU := hU.same s1
    replace hx := s1 _ _ hx
    clear hl1
    generalize upd H l1 (.lst (us.drop 1)) = H1 at *
    refine ⟨_, _, rfl, ⟨_, SqL.of ha⟩, ⟨_, SqL.of hv1⟩, comp2 (plain_zip (SqL.of ha) (SqL.of hv1)) (by rw [List.length_drop]; omega) (fun i v _ => v = .bl (decide (lastQ (qs i) = headQ (qs (i + 1))))) (fun _ _ _ _ _ h => h) (fun i H2 kk hi s2 hk => ?_) (fun D bs H2 hD s2 hd hbl hr => ?_)⟩
    · rw [List.length_drop] at hi
      obtain ⟨la, xa, ea, ha2, hPa⟩ := (hU.same s2).at (show i < n by omega)
      obtain ⟨lb, xb, eb, hb2, hPb⟩ := (hU.same s2).at (show i + 1 < n by omega)
      have qa := h1 i (by omega)
      have qb := h1 (i + 1) (by omega)
      obtain ⟨va, wa, pa⟩ := hPa.at (getQ (show (qs i).length - 1 < (qs i).length by omega))
      obtain ⟨vb, wb, pb⟩ := hPb.at (getQ (show 0 < (qs (i + 1)).length by omega))
      rw [List.getElem?_drop, Nat.add_comm 1 i, ea, eb]
      walk_at "rd"
      refine ⟨la, _, _, _, rfl, rfl, SqL.of ha2, atI_last' xa va (by rw [hPa.len]; exact wa) (by rw [hPa.len]; omega), ?_⟩
      walk_at "rd"
      refine ⟨lb, _, _, _, rfl, rfl, SqL.of hb2, atI_nat' (j := 0) rfl wb, ?_⟩
      refine ⟨datPt _, datPt _, PtV.dn pa, PtV.dn pb, datPt_ok _ 6, datPt_ok _ 6, fun b hb => ?_⟩
      refine hk _ _ (L2.Same.refl _) ?_
      have e1 : lastQ (qs i) = some _ := getQ (show (qs i).length - 1 < (qs i).length by omega)
      have e2 : headQ (qs (i + 1)) = some _ := getQ (show 0 < (qs (i + 1)).length by omega)
      rw [datPt_inj] at hb
      rw [e1, e2]
      congr 1
      rw [Bool.eq_iff_iff, hb, decide_eq_true_eq, Option.some.injEq]
    rw [List.length_drop] at hbl
    obtain rfl := bls_ext (f := fun i => decide (lastQ (qs i) = headQ (qs (i + 1)))) (show bs.length = n - 1 by omega) hr
    refine ⟨D, _, rfl, SqL.of hd, ?_⟩
    have s12 := s1.trans s2
    replace ha := s2 _ _ ha
    replace hU := hU.same s2
    replace hx := s2 _ _ hx
    by_cases hj : Joined n qs
    rotate_left
    · refine ⟨_, rfl, ifT (by rw [Bool.not_eq_true']; cases hz : ((List.range (n - 1)).map fun i => decide (lastQ (qs i) = headQ (qs (i + 1)))).all id with | false => rfl | true => exact absurd (all_joined hz) hj) ?_⟩
      rcases k with ⟨_, _, k1, _⟩ | ⟨_, k⟩
      · exact absurd k1 hj
      · exact ⟨by show 1 ≤ sizeLine; decide, k H2 s12⟩
    refine ⟨_, rfl, ifF (by rw [joined_all hj]; rfl) ?_⟩
    rcases k with ⟨_, _, _, k⟩ | ⟨k1, _⟩
    rotate_left
    · exact absurd ⟨by omega, by omega, hj⟩ k1
    refine ⟨_, rfl, a, us, n, qs, rfl, ha, hU, hn, fun lp ks H3 s3 hlp hp hkl hLs => ?_⟩
    refine ⟨_, rfl, x, C_Path, dx, [], rfl, s3 _ _ hx, T_Path.cl, N_Path_parts, by show 0 < 1000; decide, ?_⟩
    exact k lp ks H3 (s12.trans s3) (s12.free hlp) hp hkl (hLs.base s12)
theorem ok_Path_curves {C_Path : Addr} (T_Path : ClsK K mg "Path" C_Path) (N_Path_parts : NoAttr K C_Path "parts") (F : MthAt K C_Path "curves" "Path.curves" s_Path_curves ["self"]) (B : Blt mg) {C_SeatError C_NoJoin C_NoShare C_NoLower C_NoMap C_NoPlace C_TooMany C_NoText C_NoName : Addr} (X : Exc K mg C_SeatError C_NoJoin C_NoShare C_NoLower C_NoMap C_NoPlace C_TooMany C_NoText C_NoName) {t_MOST_CURVES : Tok} (G : Cst K mg t_MOST_CURVES) (D_copied : DefOk P w K mg base CX0 1 "copied" ["curves"] (spCopied K)) : MthOk P w K mg base CX0 2 C_Path "curves" ["self"] (spCurves K C_Path) := by
  refine mth_ok F sc_Path_curves (fun vs H Q E h => ?_) (fun f cdv A outer s H vs Q E hr h => ?_)
  · obtain ⟨p, lp, ks, n, qs, rfl, _⟩ := h; rfl
  · obtain ⟨p, lp, ks, n, qs, rfl, ⟨⟨dx, ho⟩, hl, hK⟩, hn, k⟩ := h
    have hu := hr.units
    refine ⟨_, (pss_oneI (ps_retI (pe_fnI D_copied hr pass0 (pa_consI (pe_fldI (pvI 0)) pa_nilI)))), ?_⟩
    refine ⟨_, rfl, p, C_Path, dx, _, _, rfl, ho, T_Path.cl, N_Path_parts, parts_get lp, ?_⟩
    exact ⟨lp, ks, n, qs, rfl, hl, hK, hn, k⟩
theorem ok_l_share {C_Path : Addr} (T_Path : ClsK K mg "Path" C_Path) (N_Path_parts : NoAttr K C_Path "parts") (F : FunAt K mg "_law_share" s_l_share ["_law_top", "_law_bottom"]) (B : Blt mg) {C_SeatError C_NoJoin C_NoShare C_NoLower C_NoMap C_NoPlace C_TooMany C_NoText C_NoName : Addr} (X : Exc K mg C_SeatError C_NoJoin C_NoShare C_NoLower C_NoMap C_NoPlace C_TooMany C_NoText C_NoName) {t_MOST_CURVES : Tok} (G : Cst K mg t_MOST_CURVES) : DefOk P w K mg base CX0 1 "_law_share" ["_law_top", "_law_bottom"] spLShare := by
  refine def_okI F sc_l_share (fun vs H Q E h => ?_) (fun f cdv A outer s H vs Q E hr h => ?_)
  · obtain ⟨a, b, rfl, _⟩ := h; rfl
  · obtain ⟨t, b, rfl, hb, hz, k⟩ := h
    have hu := hr.units
    refine ⟨_, (pss_consI (ps_setI (i := 2) sc_l_share.nd rfl (by first | exact Or.inl rfl | exact Or.inr rfl) (pe_callBI call_abs (by rfl) B.abs PyProof.Rows.boot_abs (pa_consI (pvI 0) pa_nilI)))
      (pss_consI (ps_setI (i := 3) sc_l_share.nd rfl (by first | exact Or.inl rfl | exact Or.inr rfl) (pvI 1))
      (pss_consI (ps_whileI PassesOwn.never (pt_cmpRI op_gt (pvI 3) pe_intI (nomark _)) (pss_consI (ps_setI (i := 4) sc_l_share.nd rfl (by first | exact Or.inl rfl | exact Or.inr rfl) (pe_opI op_mod (pvI 2) (pvI 3)))
      (pss_consI (ps_setI (i := 2) sc_l_share.nd rfl (by first | exact Or.inl rfl | exact Or.inr rfl) (pvI 3))
      (pss_oneI (ps_setI (i := 3) sc_l_share.nd rfl (by first | exact Or.inl rfl | exact Or.inr rfl) (pvI 4))))))
      (pss_oneI (ps_retI (pe_tupI (pa_consI (pe_opI op_fdivB (pvI 0) (pvI 2)) (pa_consI (pe_opI op_fdivB (pvI 1) (pvI 2)) pa_nilI)))))))), ?_⟩
    have g0 : (Int.gcd t b : Int) ≠ 0 := gcd_pos' t b (by omega)
    have gz : Sz 9000 (Int.gcd t b : Int) := hz.le (by
      rw [Int.natAbs_natCast]
      exact Nat.le_of_dvd (by omega) (Int.gcd_dvd_natAbs_right t b))
    walk_at "rd"
    refine while_by (fun σ H' => ∃ (x y : Int) (z : Option V), σ = [some (.int t), some (.int b), some (.int x), some (.int y), z] ∧ H' = H ∧ 0 ≤ x ∧ 0 ≤ y ∧ Int.gcd x y = Int.gcd t b) (fun σ _ => match σ with | [_, _, _, some (.int y), _] => y.natAbs | _ => 0) ⟨_, b, none, rfl, rfl, by split <;> omega, by omega, gcd_abs t b⟩ ?_ ?_
    · rintro σ H' ⟨x, y, z, rfl, rfl, hx, hy, e⟩
      refine ⟨_, rfl, _, _, rfl, rfl, _, rfl, ite_dec (fun h0 => ?_) (fun h0 => ?_)⟩
      · refine ⟨_, rfl, _, rfl, _, _, rfl, rfl, h0, ?_⟩
        walk_at "rd"
        refine ⟨⟨_, _, _, rfl, rfl, hy, Int.emod_nonneg x (by omega), ?_⟩, ?_⟩
        · rw [emod_gcd x y h0]; exact e
        · show (x % y).natAbs < y.natAbs
          have := Int.emod_lt_of_pos x h0
          have := Int.emod_nonneg x (b := y) (by omega)
          omega
      · have h0' : y = 0 := by omega
        subst h0'
        have hg := low_gcd hx e
        subst hg
        refine ⟨_, rfl, _, rfl, _, _, rfl, rfl, ⟨g0, gz⟩, _, rfl, _, rfl, _, _, rfl, rfl, ⟨g0, gz⟩, (by show 2 ≤ sizeLine; decide), fun p hp => ?_⟩
        have e := share_pos t b hb
        refine k _ _ (Same.new hp) ⟨p, rfl, ?_⟩
        rw [upd_same, ← e.1, ← e.2]
    · rintro σ H' Q Q' hq ⟨v, h1, i, j, h2, h3, c, h4, h5⟩
      exact ⟨v, h1, i, j, h2, h3, c, h4, hq _ _ h5⟩
theorem ok_l_handed {C_Path : Addr} (T_Path : ClsK K mg "Path" C_Path) (N_Path_parts : NoAttr K C_Path "parts") (F : FunAt K mg "_law_handed" s_l_handed ["_law_places", "_law_bottom"]) (B : Blt mg) {C_SeatError C_NoJoin C_NoShare C_NoLower C_NoMap C_NoPlace C_TooMany C_NoText C_NoName : Addr} (X : Exc K mg C_SeatError C_NoJoin C_NoShare C_NoLower C_NoMap C_NoPlace C_TooMany C_NoText C_NoName) {t_MOST_CURVES : Tok} (G : Cst K mg t_MOST_CURVES) (D_l_share : DefOk P w K mg base CX0 1 "_law_share" ["_law_top", "_law_bottom"] spLShare) : DefOk P w K mg base CX0 2 "_law_handed" ["_law_places", "_law_bottom"] (spHanded K) := by
  refine def_okI F sc_l_handed (fun vs H Q E h => ?_) (fun f cdv A outer s H vs Q E hr h => ?_)
  · obtain ⟨a, ws, pl, B, rfl, _⟩ := h; rfl
  · obtain ⟨a, ws, pl, B, rfl, hS, hP, B1, zB, h1000, k⟩ := h
    have hu := hr.units
    refine ⟨_, (pss_oneI (ps_retI (pe_compSI (os := ["_law_x", "_law_y"]) (caps := [(1, "_law_bottom")]) ["_law_places", "_law_bottom"] (defScope s_l_handed) (pi_listI (pvI 0)) (fun _ _ _ _ _ => (pg_tupKI (n := 2) K rfl (pgs_consI (pg_nameI (i := 0) (show List.Nodup (["_law_x", "_law_y", "_law_bottom"] : List Str) from by decide +kernel) rfl (by first | exact Or.inl rfl | exact Or.inr rfl)) (pgs_consI (pg_nameI (i := 1) (show List.Nodup (["_law_x", "_law_y", "_law_bottom"] : List Str) from by decide +kernel) rfl (by first | exact Or.inl rfl | exact Or.inr rfl)) pgs_nilI)))) (fun _ _ _ _ _ => (pe_tupI (pa_consI (pe_fnI D_l_share hr pass0 (pa_consI (pvI 0) (pa_consI (pvI 2) pa_nilI))) (pa_consI (pe_fnI D_l_share hr pass0 (pa_consI (pvI 1) (pa_consI (pvI 2) pa_nilI))) pa_nilI)))) (by decide +kernel)))), ?_⟩
    walk_at "rd"
    refine ⟨⟨_, hS⟩, comp2 (plain_pls hS hP) (by omega) (fun i v H => PtV H v (Rat.divInt ((pl[i]?).getD (0, 0)).1 B) (Rat.divInt ((pl[i]?).getD (0, 0)).2 B)) (fun _ _ _ _ t h => h.tup t) (fun i H2 kk hi s2 hk => ?_) (fun E us H2 hE s2 hE2 hl hr => ?_)⟩
    · walk_at "rd"
      refine ⟨_, _, rfl, by omega, zB, fun v3 H3 s3 w3 => ?_⟩
      walk_at "rd"
      refine ⟨_, _, rfl, by omega, zB, fun v4 H4 s4 w4 => ?_⟩
      walk_at "rd"
      intro p hp
      exact hk _ _ (by walk_at "sm") ⟨p, v3, v4, rfl, upd_same, by walk_at "mv", by walk_at "mv"⟩
    · refine k E us H2 s2 hE hE2 ⟨by rw [hl]; unfold ptsOf; rw [List.length_map], fun i v p e1 e2 => ?_⟩
      unfold ptsOf at e2
      rw [List.getElem?_map] at e2
      have := hr i v e1
      cases e3 : pl[i]? with
      | none => rw [e3] at e2; cases e2
      | some q => rw [e3] at e2 this; cases e2; exact this
theorem ok_l_all_handed {C_Path : Addr} (T_Path : ClsK K mg "Path" C_Path) (N_Path_parts : NoAttr K C_Path "parts") (F : FunAt K mg "_law_all_handed" s_l_all_handed ["_law_curves", "_law_bottom"]) (B : Blt mg) {C_SeatError C_NoJoin C_NoShare C_NoLower C_NoMap C_NoPlace C_TooMany C_NoText C_NoName : Addr} (X : Exc K mg C_SeatError C_NoJoin C_NoShare C_NoLower C_NoMap C_NoPlace C_TooMany C_NoText C_NoName) {t_MOST_CURVES : Tok} (G : Cst K mg t_MOST_CURVES) (D_l_handed : DefOk P w K mg base CX0 2 "_law_handed" ["_law_places", "_law_bottom"] (spHanded K)) : DefOk P w K mg base CX0 3 "_law_all_handed" ["_law_curves", "_law_bottom"] (spAllH K) := by
  refine def_okI F sc_l_all_handed (fun vs H Q E h => ?_) (fun f cdv A outer s H vs Q E hr h => ?_)
  · obtain ⟨lc, ys, css, B, rfl, _⟩ := h; rfl
  · obtain ⟨lc, ys, css, B, rfl, hc, hC, B1, zB, h100, hcl, k⟩ := h
    have hu := hr.units
    refine ⟨_, (pss_oneI (ps_retI (pe_compSI (os := ["_law_curve"]) (caps := [(1, "_law_bottom")]) ["_law_curves", "_law_bottom"] (defScope s_l_all_handed) (pi_listI (pvI 0)) (fun _ _ _ _ _ => (pg_nameI (i := 0) (show List.Nodup (["_law_curve", "_law_bottom"] : List Str) from by decide +kernel) rfl (by first | exact Or.inl rfl | exact Or.inr rfl))) (fun _ _ _ _ _ => (pe_fnI D_l_handed hr pass0 (pa_consI (pvI 0) (pa_consI (pvI 1) pa_nilI)))) (by decide +kernel)))), ?_⟩
    have hyl := hC.len
    walk_at "rd"
    refine ⟨⟨_, SqL.of hc⟩, compL (plain_list (SqL.of hc)) (by omega) (fun i xs H => PtsV H xs (qsOf B css i)) (fun _ _ _ _ tt h => h.tup tt) (fun i H2 kk hi s2 hk => ?_) (fun l us H2 hl0 s2 hl hln hLs => ?_)⟩
    · have e1 : css[i]? = some (css[i]'(by omega)) := List.getElem?_eq_getElem _
      obtain ⟨lj, uj, ej, hj, hPj⟩ := (hC.same s2).at e1
      rw [ej]
      walk_at "rd"
      refine ⟨lj, uj, _, B, rfl, SqL.of hj, hPj, B1, zB, hcl _ (List.mem_of_getElem? e1), fun l9 u9 H9 s9 h90 h9 hP9 => ?_⟩
      refine hk l9 u9 H9 s9 h90 h9 ?_
      show PtsV H9 u9 (qsOf B css i)
      rw [qsOf_some e1]; exact hP9
    exact k l us H2 s2 hl0 hl (by omega) hLs
theorem ok_l_stream {C_Path : Addr} (T_Path : ClsK K mg "Path" C_Path) (N_Path_parts : NoAttr K C_Path "parts") (F : FunAt K mg "_law_stream" s_l_stream ["_law_cell", "_law_many"]) (B : Blt mg) {C_SeatError C_NoJoin C_NoShare C_NoLower C_NoMap C_NoPlace C_TooMany C_NoText C_NoName : Addr} (X : Exc K mg C_SeatError C_NoJoin C_NoShare C_NoLower C_NoMap C_NoPlace C_TooMany C_NoText C_NoName) {t_MOST_CURVES : Tok} (G : Cst K mg t_MOST_CURVES) : DefOk P w K mg base CX0 1 "_law_stream" ["_law_cell", "_law_many"] spStreamC := by
  refine def_okI F sc_l_stream (fun vs H Q E h => ?_) (fun f cdv A outer s H vs Q E hr h => ?_)
  · obtain ⟨c, n, rfl, _⟩ := h; rfl
  · obtain ⟨c, n, rfl, hn, k⟩ := h
    have hu := hr.units
    refine ⟨_, (pss_consI (ps_setI (i := 2) sc_l_stream.nd rfl (by first | exact Or.inl rfl | exact Or.inr rfl) (pe_opI op_add pe_intI (pe_opI op_mod (pvI 0) pe_intI)))
      (pss_consI (ps_setI (i := 3) sc_l_stream.nd rfl (by first | exact Or.inl rfl | exact Or.inr rfl) (pe_lstI pa_nilI))
      (pss_consI (ps_forI PassesOwn.never rfl (pi_range1I rfl B.range (pa_consI (pe_opI op_add (pvI 1) pe_intI) pa_nilI)) (pg_nameI (i := 4) sc_l_stream.nd rfl (by first | exact Or.inl rfl | exact Or.inr rfl))
      (pss_consI (ps_setI (i := 2) sc_l_stream.nd rfl (by first | exact Or.inl rfl | exact Or.inr rfl) (pe_opI op_mod (pe_opI op_mulA (pvI 2) pe_intI) pe_intI))
      (pss_oneI (ps_exprI (pe_bmI PySem.F.plainAttrs_list PySem.F.slot_list_append PySem.F.type_list_append mt_append (pvI 3) (pa_consI (pvI 2) pa_nilI))))))
      (pss_oneI (ps_retI (pe_sliceI (sl_listK K) (pvI 3) (po_someI pe_intI) po_noneI)))))), ?_⟩
    walk_at "rd"
    intro l hl
    walk_at "rd"
    refine ⟨by omega, by omega, for_range (fun i σ H' => ∃ (x : Int) (xs : List Int) (y : Option V), σ = [some (.int c), some (.int (n : Int)), some (.int x), some (.ref l), y] ∧ Same H H' ∧ H' l = some (.lst (xs.map V.int)) ∧ xs.length = i ∧ ∀ z ∈ xs, 0 ≤ z ∧ z ≤ 2147483647) ⟨_, [], none, rfl, Same.new hl, upd_same, rfl, fun _ h => nomatch h⟩ ?_ ?_⟩
    · rintro i σ H2 hi ⟨x, xs, y, rfl, s2, h2, hlen, hx⟩
      walk_at "rd"
      refine ⟨.inl ⟨rfl, _, SqL.of h2⟩, ?_⟩
      walk_at "rd"
      refine ⟨l, _, _, rfl, rfl, h2, ?_, ?_⟩
      · rw [List.length_map, hlen]; exact small_line (by omega)
      · refine ⟨_, xs ++ [x * 48271 % 2147483647], _, rfl, fun b o e => ?_, ?_, ?_, ?_⟩
        · rw [upd_ne (ne_of_none e hl)]; exact s2 b o e
        · rw [upd_same, List.map_append]; rfl
        · rw [List.length_append, hlen]; rfl
        · intro z hz
          rcases List.mem_append.mp hz with hz | hz
          · exact hx z hz
          · cases List.mem_singleton.mp hz
            have := Int.emod_nonneg (x * 48271) (b := 2147483647) (by decide)
            have := Int.emod_lt_of_pos (x * 48271) (b := 2147483647) (by decide)
            omega
    · rintro σ H2 ⟨x, xs, y, rfl, s2, h2, hlen, hx⟩
      refine ⟨_, rfl, 2, rfl, l, _, rfl, SqL.of h2, fun q hq => ?_⟩
      rw [cut_fromI V.int xs 2 2 rfl (by omega)]
      exact k q (xs.drop 2) _ (s2.trans (Same.new hq)) (s2.free hq) upd_same (by rw [List.length_drop, hlen]; omega) fun z hz => hx z (List.mem_of_mem_drop hz)
theorem ok_l_aside {C_Path : Addr} (T_Path : ClsK K mg "Path" C_Path) (N_Path_parts : NoAttr K C_Path "parts") (F : FunAt K mg "_law_aside" s_l_aside ["_law_curves", "_law_cell"]) (B : Blt mg) {C_SeatError C_NoJoin C_NoShare C_NoLower C_NoMap C_NoPlace C_TooMany C_NoText C_NoName : Addr} (X : Exc K mg C_SeatError C_NoJoin C_NoShare C_NoLower C_NoMap C_NoPlace C_TooMany C_NoText C_NoName) {t_MOST_CURVES : Tok} (G : Cst K mg t_MOST_CURVES) (D_l_stream : DefOk P w K mg base CX0 1 "_law_stream" ["_law_cell", "_law_many"] spStreamC) : DefOk P w K mg base CX0 2 "_law_aside" ["_law_curves", "_law_cell"] (spAside K) := by
  refine def_okI F sc_l_aside (fun vs H Q E h => ?_) (fun f cdv A outer s H vs Q E hr h => ?_)
  · obtain ⟨lc, ys, css, c, rfl, _⟩ := h; rfl
  · obtain ⟨lc, ys, css, c, rfl, hc, hC, hJ, h2, h12, k⟩ := h
    have hu := hr.units
    refine ⟨_, (pss_consI (ps_setI (i := 2) sc_l_aside.nd rfl (by first | exact Or.inl rfl | exact Or.inr rfl) (pe_opI op_mod (pvI 1) (pe_callBI (call_lenK K) (by rfl) B.len PySem.boot_len (pa_consI (pvI 0) pa_nilI))))
      (pss_consI (ps_setI (i := 3) sc_l_aside.nd rfl (by first | exact Or.inl rfl | exact Or.inr rfl) (pe_fnI D_l_stream hr pass0 (pa_consI (pvI 1) (pa_consI pe_intI pa_nilI))))
      (pss_consI (ps_setI (i := 4) sc_l_aside.nd rfl (by first | exact Or.inl rfl | exact Or.inr rfl) (pe_ixI (ix_listK K) (pe_lstI (pa_consI (pe_tupI (pa_consI pe_intI (pa_consI pe_intI pa_nilI))) (pa_consI (pe_tupI (pa_consI pe_intI (pa_consI pe_intI pa_nilI))) (pa_consI (pe_tupI (pa_consI pe_intI (pa_consI pe_intI pa_nilI))) (pa_consI (pe_tupI (pa_consI (pe_unI un_neg pe_intI) (pa_consI pe_intI pa_nilI))) (pa_consI (pe_tupI (pa_consI pe_intI (pa_consI (pe_opI op_pow pe_intI pe_intI) pa_nilI))) pa_nilI)))))) (pe_opI op_mod (pe_ixI (ix_listK K) (pvI 3) pe_intI (fun _ _ => rfl)) pe_intI) (fun _ _ => rfl)))
      (pss_consI (ps_compSI (i := 5) (os := ["_law_x", "_law_y"]) (caps := [(4, "_law_by")]) ["_law_curves", "_law_cell", "_law_at", "_law_row", "_law_by", "_law_other"] (defScope s_l_aside) sc_l_aside.nd rfl rfl (pi_listI (pe_ixI (ix_listK K) (pvI 0) (pvI 2) (fun _ _ => rfl))) (fun _ _ _ _ _ => (pg_tupKI (n := 2) K rfl (pgs_consI (pg_nameI (i := 0) (show List.Nodup (["_law_x", "_law_y", "_law_by"] : List Str) from by decide +kernel) rfl (by first | exact Or.inl rfl | exact Or.inr rfl)) (pgs_consI (pg_nameI (i := 1) (show List.Nodup (["_law_x", "_law_y", "_law_by"] : List Str) from by decide +kernel) rfl (by first | exact Or.inl rfl | exact Or.inr rfl)) pgs_nilI)))) (fun _ _ _ _ _ => (pe_tupI (pa_consI (pe_opI op_add (pvI 0) (pe_ixI (ix_tupK K) (pvI 2) pe_intI (fun _ _ => rfl))) (pa_consI (pe_opI op_add (pvI 1) (pe_ixI (ix_tupK K) (pvI 2) pe_intI (fun _ _ => rfl))) pa_nilI)))) (by decide +kernel))
      (pss_oneI (ps_retI (pe_opI op_cat (pe_opI op_cat (pe_sliceI (sl_listK K) (pvI 0) po_noneI (po_someI (pvI 2))) (pe_lstI (pa_consI (pvI 5) pa_nilI))) (pe_sliceI (sl_listK K) (pvI 0) (po_someI (pe_opI op_add (pvI 2) pe_intI)) po_noneI)))))))), ?_⟩
    have hyl := hC.len
    walk_at "rd"
    refine ⟨by omega, ?_⟩
    have r1 := Int.emod_nonneg c (b := (ys.length : Int)) (by omega)
    have r2 := Int.emod_lt_of_pos c (b := (ys.length : Int)) (by omega)
    walk_at "rd"
    refine ⟨c, 2, rfl, by decide, fun lr xs H1 s1 hlr hx hxl hxx => ?_⟩
    have nn : ∀ j : Nat, 0 ≤ xs.getD j 0 := fun j => getD_nn (fun x hx => (hxx x hx).1) j
    have n0 := nn 0
    have hx1 : SqL K H1 lr (xs.map V.int) := SqL.of hx
    walk_at "rd"
    intro t1 ht1
    walk_at "rd"
    intro t2 ht2
    walk_at "rd"
    intro t3 ht3
    walk_at "rd"
    intro t4 ht4
    walk_at "rd"
    intro t5 ht5
    walk_at "rd"
    intro lw hlw
    have q5 := Same.new (o := .tup [V.int 0, V.int ((10 : Int) ^ (30 : Int).toNat)]) ht5
    have q6 := Same.new (o := .lst [V.ref t1, V.ref t2, V.ref t3, V.ref t4, V.ref t5]) hlw
    have f1 := q6 _ _ (q5 _ _ (upd_keep (o := .tup [V.int (-1), V.int 0]) ht4 (upd_keep (o := .tup [V.int 1, V.int 1]) ht3 (upd_keep (o := .tup [V.int 1, V.int 0]) ht2 (upd_same (H := H1) (a := t1) (o := .tup [V.int 0, V.int 1]))))))
    have f2 := q6 _ _ (q5 _ _ (upd_keep (o := .tup [V.int (-1), V.int 0]) ht4 (upd_keep (o := .tup [V.int 1, V.int 1]) ht3 (upd_same (H := upd H1 t1 (.tup [V.int 0, V.int 1])) (a := t2) (o := .tup [V.int 1, V.int 0])))))
    have f3 := q6 _ _ (q5 _ _ (upd_keep (o := .tup [V.int (-1), V.int 0]) ht4 (upd_same (H := upd (upd H1 t1 (.tup [V.int 0, V.int 1])) t2 (.tup [V.int 1, V.int 0])) (a := t3) (o := .tup [V.int 1, V.int 1]))))
    have f4 := q6 _ _ (q5 _ _ (upd_same (H := upd (upd (upd H1 t1 (.tup [V.int 0, V.int 1])) t2 (.tup [V.int 1, V.int 0])) t3 (.tup [V.int 1, V.int 1])) (a := t4) (o := .tup [V.int (-1), V.int 0])))
    have f5 := q6 _ _ (upd_same (H := upd (upd (upd (upd H1 t1 (.tup [V.int 0, V.int 1])) t2 (.tup [V.int 1, V.int 0])) t3 (.tup [V.int 1, V.int 1])) t4 (.tup [V.int (-1), V.int 0])) (a := t5) (o := .tup [V.int 0, V.int ((10 : Int) ^ (30 : Int).toNat)]))
    have sQ : Same H1 _ := ((((Same.new ht1).trans (Same.new ht2)).trans (Same.new ht3)).trans (Same.new ht4)).trans (q5.trans q6)
    have hlw7 : (upd (upd (upd (upd (upd (upd H1 t1 (.tup [V.int 0, V.int 1])) t2 (.tup [V.int 1, V.int 0])) t3 (.tup [V.int 1, V.int 1])) t4 (.tup [V.int (-1), V.int 0])) t5 (.tup [V.int 0, V.int ((10 : Int) ^ (30 : Int).toNat)])) lw (.lst [V.ref t1, V.ref t2, V.ref t3, V.ref t4, V.ref t5])) lw = some (.lst [V.ref t1, V.ref t2, V.ref t3, V.ref t4, V.ref t5]) := upd_same
    clear q5 q6 ht1 ht2 ht3 ht4 ht5 hlw
    generalize upd (upd (upd (upd (upd (upd H1 t1 (.tup [V.int 0, V.int 1])) t2 (.tup [V.int 1, V.int 0])) t3 (.tup [V.int 1, V.int 1])) t4 (.tup [V.int (-1), V.int 0])) t5 (.tup [V.int 0, V.int ((10 : Int) ^ (30 : Int).toNat)])) lw (.lst [V.ref t1, V.ref t2, V.ref t3, V.ref t4, V.ref t5]) = H7 at *
    have hx7 : SqL K H7 lr (xs.map V.int) := SqL.same' hx1 sQ
    walk_at "rd"
    obtain ⟨vb, hvb, hmb⟩ := atI_lt [V.ref t1, V.ref t2, V.ref t3, V.ref t4, V.ref t5] (xs.getD (Int.toNat 0) 0 % 5) (by omega) (by show _ < (5 : Int); omega)
    have hby : ∃ (tb : Addr) (bx by_ : Int), vb = .ref tb ∧ H7 tb = some (.tup [.int bx, .int by_]) ∧ (bx ≠ 0 ∨ by_ ≠ 0) := by
      simp only [List.mem_cons, List.not_mem_nil, or_false] at hmb
      rcases hmb with rfl | rfl | rfl | rfl | rfl
      · exact ⟨_, _, _, rfl, f1, .inr (by decide)⟩
      · exact ⟨_, _, _, rfl, f2, .inl (by decide)⟩
      · exact ⟨_, _, _, rfl, f3, .inl (by decide)⟩
      · exact ⟨_, _, _, rfl, f4, .inl (by decide)⟩
      · exact ⟨_, _, _, rfl, f5, .inr (by rw [p30]; decide)⟩
    obtain ⟨tb, bx, by_, rfl, htb, hb⟩ := hby
    refine ⟨lw, _, _, _, rfl, rfl, SqL.of hlw7, hvb, ?_⟩
    have s7 := s1.trans sQ
    clear f1 f2 f3 f4 f5 hlw7 hvb hmb hx7 hx1 hx hlr sQ s1
    obtain ⟨kk, hkk⟩ : ∃ kk : Nat, c % (ys.length : Int) = (kk : Int) := ⟨(c % (ys.length : Int)).toNat, by rw [Int.toNat_of_nonneg r1]⟩
    have hk1 : kk < css.length := by omega
    have ec : css[kk]? = some (css[kk]'hk1) := List.getElem?_eq_getElem _
    have hc7 := s7 _ _ hc
    have hC7 := hC.same s7
    obtain ⟨lk, uk, elk, hlk, hPk⟩ := hC7.at ec
    have ckn := hJ.ne _ (List.mem_of_getElem? ec)
    generalize css[kk]'hk1 = ck at *
    walk_at "rd"
    refine ⟨lc, _, _, _, rfl, rfl, SqL.of hc7, atI_nat' (j := kk) hkk elk, ?_⟩
    refine ⟨_, rfl, ⟨_, SqL.of hlk⟩, comp2 (plain_pls (SqL.of hlk) hPk) (by omega) (fun i v H => RwV H v (((ck[i]?).getD (0, 0)).1 + bx) (((ck[i]?).getD (0, 0)).2 + by_)) (fun _ _ _ _ t h => h.tup t) (fun i H8 k8 hi s8 hk8 => ?_) (fun D us H8 hD s8 hd hul hr => ?_)⟩
    · have htb8 := s8 _ _ htb
      walk_at "rd"
      intro p hp
      exact hk8 _ _ (Same.new hp) ⟨p, rfl, upd_same⟩
    have hPm : PlsV H8 us (mvI bx by_ ck) := ⟨by rw [mvI_len]; exact hul, fun i v p e1 e2 => by
      unfold mvI at e2
      rw [List.getElem?_map] at e2
      have q := hr i v e1
      cases ei : ck[i]? with
      | none => rw [ei] at e2; cases e2
      | some z => rw [ei] at e2 q; cases e2; exact q⟩
    have hc8 := s8 _ _ hc7
    have hC8 := hC7.same s8
    have s78 := s7.trans s8
    clear hr hul hc7 hC7 hlk hPk htb s7 hD
    walk_at "rd"
    refine ⟨lc, _, rfl, SqL.of hc8, fun m1 hm1 => ?_⟩
    rw [cut_firstV ys _ kk hkk (by omega)]
    have w1 := Same.new (o := .lst (ys.take kk)) hm1
    walk_at "rd"
    intro m2 hm2
    have w2 := Same.new (o := .lst [V.ref D]) hm2
    refine ⟨m1, m2, _, _, rfl, rfl, upd_keep hm2 upd_same, upd_same, Nat.le_of_lt (small_line (by rw [List.length_take, List.length_singleton]; omega)), fun m3 hm3 => ?_⟩
    have w3 := Same.new (o := .lst (ys.take kk ++ [V.ref D])) hm3
    have hc9 := w3 _ _ (w2 _ _ (w1 _ _ hc8))
    walk_at "rd"
    refine ⟨lc, _, rfl, SqL.of hc9, fun m4 hm4 => ?_⟩
    rw [cut_dropV ys _ (kk + 1) (by rw [hkk]; omega) (by omega)]
    have w4 := Same.new (o := .lst (ys.drop (kk + 1))) hm4
    refine ⟨m3, m4, _, _, rfl, rfl, upd_keep hm4 upd_same, upd_same, Nat.le_of_lt (small_line (by rw [List.length_append, List.length_take, List.length_singleton, List.length_drop]; omega)), fun m5 hm5 => ?_⟩
    have w5 := Same.new (o := .lst (ys.take kk ++ [V.ref D] ++ ys.drop (kk + 1))) hm5
    have wA := ((w1.trans w2).trans w3).trans (w4.trans w5)
    refine k m5 _ (css.take kk ++ [mvI bx by_ ck] ++ css.drop (kk + 1)) _ (s78.trans wA) (s78.free (w1.free (w2.free (w3.free (w4.free hm5))))) upd_same (((hC8.take kk).append (CsV.single hd hPm)).append (hC8.dropK (kk + 1)) |>.same wA) (aside_len css _ hk1) (fun d hd' => ?_) (aside_apart hJ h2 ec hb)
    rcases List.mem_append.mp hd' with hd' | hd'
    · rcases List.mem_append.mp hd' with hd' | hd'
      · exact hJ.ne d (List.mem_of_mem_take hd')
      · rw [List.mem_singleton.mp hd', mvI_len]; exact ckn
    · exact hJ.ne d (List.mem_of_mem_drop hd')
theorem ok_l_cell_at {C_Path : Addr} (T_Path : ClsK K mg "Path" C_Path) (N_Path_parts : NoAttr K C_Path "parts") (F : FunAt K mg "_law_cell_at" s_l_cell_at ["_law_script", "_law_k"]) (B : Blt mg) {C_SeatError C_NoJoin C_NoShare C_NoLower C_NoMap C_NoPlace C_TooMany C_NoText C_NoName : Addr} (X : Exc K mg C_SeatError C_NoJoin C_NoShare C_NoLower C_NoMap C_NoPlace C_TooMany C_NoText C_NoName) {t_MOST_CURVES : Tok} (G : Cst K mg t_MOST_CURVES) : DefOk P w K mg base CX0 1 "_law_cell_at" ["_law_script", "_law_k"] (spCell K) := by
  refine def_okI F sc_l_cell_at (fun vs H Q E h => ?_) (fun f cdv A outer s H vs Q E hr h => ?_)
  · obtain ⟨a, ns, i, rfl, _⟩ := h; rfl
  · obtain ⟨a, ns, i, rfl, hS, h0, k⟩ := h
    have hu := hr.units
    refine ⟨_, (pss_consI (ps_ifI (pt_cmpRI op_lt (pvI 1) (pe_callBI (call_lenK K) (by rfl) B.len PySem.boot_len (pa_consI (pvI 0) pa_nilI)) (nomark _)) (pss_oneI (ps_retI (pe_ixI (ix_listK K) (pvI 0) (pvI 1) (fun _ _ => rfl)))) pss_nilI)
      (pss_oneI (ps_retI pe_intI))), ?_⟩
    refine ⟨_, rfl, _, rfl, a, _, rfl, .inl hS, _, _, rfl, rfl, _, rfl, ite_dec (fun hn => ?_) (fun hn => ?_)⟩
    · rw [List.length_map] at hn
      refine ⟨_, rfl, _, rfl, a, _, _, _, rfl, rfl, hS, at_mapZ ns i h0 hn, ?_⟩
      exact k _
    · exact k 0
theorem ok_l_place {C_Path : Addr} (T_Path : ClsK K mg "Path" C_Path) (N_Path_parts : NoAttr K C_Path "parts") (F : FunAt K mg "_law_place" s_l_place ["_law_cell", "_law_way_here"]) (B : Blt mg) {C_SeatError C_NoJoin C_NoShare C_NoLower C_NoMap C_NoPlace C_TooMany C_NoText C_NoName : Addr} (X : Exc K mg C_SeatError C_NoJoin C_NoShare C_NoLower C_NoMap C_NoPlace C_TooMany C_NoText C_NoName) {t_MOST_CURVES : Tok} (G : Cst K mg t_MOST_CURVES) (D_l_stream : DefOk P w K mg base CX0 1 "_law_stream" ["_law_cell", "_law_many"] spStreamC) : DefOk P w K mg base CX0 2 "_law_place" ["_law_cell", "_law_way_here"] spPlace := by
  refine def_okI F sc_l_place (fun vs H Q E h => ?_) (fun f cdv A outer s H vs Q E hr h => ?_)
  · obtain ⟨c, w, B, kd, rfl, _⟩ := h; rfl
  · obtain ⟨c, _, B, kd, rfl, ⟨a, s, b, sx, sy, bx, by_, rfl, ha, hs, hb, B1, B2, z1, z2, z3, z4⟩, k⟩ := h
    have hu := hr.units
    refine ⟨_, (pss_consI (ps_asgI (pvI 1) (pg_tupKI (n := 4) K rfl (pgs_consI (pg_nameI (i := 2) sc_l_place.nd rfl (by first | exact Or.inl rfl | exact Or.inr rfl)) (pgs_consI (pg_nameI (i := 3) sc_l_place.nd rfl (by first | exact Or.inl rfl | exact Or.inr rfl)) (pgs_consI (pg_nameI (i := 4) sc_l_place.nd rfl (by first | exact Or.inl rfl | exact Or.inr rfl)) (pgs_consI (pg_nameI (i := 5) sc_l_place.nd rfl (by first | exact Or.inl rfl | exact Or.inr rfl)) pgs_nilI))))))
      (pss_consI (ps_setI (i := 6) sc_l_place.nd rfl (by first | exact Or.inl rfl | exact Or.inr rfl) (pe_fnI D_l_stream hr pass0 (pa_consI (pvI 0) (pa_consI pe_intI pa_nilI))))
      (pss_consI (ps_ifI (pt_cmpRI op_eq (pvI 3) pe_intI (nomark _)) (pss_oneI (ps_retI (pe_tupI (pa_consI (pe_opI op_sub (pe_opI op_mod (pvI 0) (pe_opI op_pow pe_intI pe_intI)) (pe_opI op_mulA pe_intI (pe_opI op_pow pe_intI pe_intI))) (pa_consI (pe_opI op_sub (pe_opI op_mod (pe_opI op_mulA (pvI 0) (pe_ixI (ix_listK K) (pvI 6) pe_intI (fun _ _ => rfl))) (pe_opI op_pow pe_intI pe_intI)) (pe_opI op_mulA pe_intI (pe_opI op_pow pe_intI pe_intI))) pa_nilI))))) pss_nilI)
      (pss_consI (ps_ifI (pt_cmpRI op_eq (pvI 3) pe_intI (nomark _)) (pss_oneI (ps_retI (pe_tupI (pa_consI (pe_opI op_add (pe_ixI (ix_tupK K) (pvI 4) pe_intI (fun _ _ => rfl)) (pe_opI op_mulA (pe_ixI (ix_tupK K) (pvI 5) pe_intI (fun _ _ => rfl)) (pe_opI op_mod (pe_ixI (ix_listK K) (pvI 6) pe_intI (fun _ _ => rfl)) pe_intI))) (pa_consI (pe_opI op_add (pe_ixI (ix_tupK K) (pvI 4) pe_intI (fun _ _ => rfl)) (pe_opI op_mulA (pe_ixI (ix_tupK K) (pvI 5) pe_intI (fun _ _ => rfl)) (pe_opI op_mod (pe_ixI (ix_listK K) (pvI 6) pe_intI (fun _ _ => rfl)) pe_intI))) pa_nilI))))) pss_nilI)
      (pss_consI (ps_ifI (pt_cmpRI op_eq (pvI 3) pe_intI (nomark _)) (pss_oneI (ps_retI (pe_tupI (pa_consI (pe_opI op_add (pe_ixI (ix_tupK K) (pvI 4) pe_intI (fun _ _ => rfl)) (pe_opI op_mulA (pe_opI op_mod (pe_ixI (ix_listK K) (pvI 6) pe_intI (fun _ _ => rfl)) pe_intI) (pe_ixI (ix_tupK K) (pvI 5) pe_intI (fun _ _ => rfl)))) (pa_consI (pe_ixI (ix_tupK K) (pvI 4) pe_intI (fun _ _ => rfl)) pa_nilI))))) pss_nilI)
      (pss_consI (ps_ifI (pt_cmpRI op_eq (pvI 3) pe_intI (nomark _)) (pss_oneI (ps_retI (pe_tupI (pa_consI (pe_opI op_add (pe_opI op_mulA (pe_ixI (ix_tupK K) (pvI 4) pe_intI (fun _ _ => rfl)) (pe_opI op_pow pe_intI pe_intI)) (pe_opI op_mod (pe_ixI (ix_listK K) (pvI 6) pe_intI (fun _ _ => rfl)) pe_intI)) (pa_consI (pe_opI op_add (pe_opI op_mulA (pe_ixI (ix_tupK K) (pvI 4) pe_intI (fun _ _ => rfl)) (pe_opI op_pow pe_intI pe_intI)) (pe_opI op_mod (pe_ixI (ix_listK K) (pvI 6) pe_intI (fun _ _ => rfl)) pe_intI)) pa_nilI))))) pss_nilI)
      (pss_consI (ps_ifI (pt_cmpRI op_gt (pvI 0) pe_intI (nomark _)) (pss_oneI (ps_retI (pe_tupI (pa_consI (pe_opI op_sub (pe_opI op_mod (pvI 0) pe_intI) pe_intI) (pa_consI (pe_opI op_sub (pe_opI op_mod (pe_opI op_fdiv (pvI 0) pe_intI) pe_intI) pe_intI) pa_nilI))))) pss_nilI)
      (pss_oneI (ps_retI (pe_tupI (pa_consI (pe_opI op_sub (pe_opI op_mod (pe_ixI (ix_listK K) (pvI 6) pe_intI (fun _ _ => rfl)) pe_intI) pe_intI) (pa_consI (pe_opI op_sub (pe_opI op_mod (pe_ixI (ix_listK K) (pvI 6) pe_intI (fun _ _ => rfl)) pe_intI) pe_intI) pa_nilI)))))))))))), ?_⟩
    walk_at "rd"
    refine ⟨a, _, rfl, SqT.of ha, rfl, _, _, rfl, _, _, rfl, _, _, rfl, _, _, rfl, rfl, ?_⟩
    walk_at "rd"
    refine ⟨c, 4, rfl, by decide, fun lx xs H1 s1 hx0 hx hxl hnn => ?_⟩
    have nn : ∀ j : Nat, 0 ≤ xs.getD j 0 := fun j => getD_nn (fun x h => (hnn x h).1) j
    have n0 := nn 0
    have n1 := nn 1
    have m0 : xs.getD 0 0 ≤ 2147483647 := by
      have e : xs[0]? = some (xs[0]'(by omega)) := List.getElem?_eq_getElem _
      rw [List.getD_eq_getElem?_getD, e]; exact (hnn _ (List.getElem_mem _)).2
    have m0' : xs.getD (Int.toNat 0) 0 ≤ 2147483647 := m0
    have n0' : 0 ≤ xs.getD (Int.toNat 0) 0 := n0
    have n1' : 0 ≤ xs.getD (Int.toNat 1) 0 := n1
    have hx1 : SqL K H1 lx (xs.map V.int) := SqL.of hx
    walk_at "rd"
    refine ifB (fun _ => ?_) (fun _ => ?_)
    · walk_at "rd"
      intro g hg
      rw [p29, p30] at *
      have a1 := Int.emod_nonneg c (b := 1000000000000000000000000000000) (by decide)
      have a2 := Int.emod_lt_of_pos c (b := 1000000000000000000000000000000) (by decide)
      have a3 := Int.emod_nonneg (c * xs.getD (Int.toNat 0) 0) (b := 1000000000000000000000000000000) (by decide)
      have a4 := Int.emod_lt_of_pos (c * xs.getD (Int.toNat 0) 0) (b := 1000000000000000000000000000000) (by decide)
      exact k _ _ _ _ (by walk_at "sm") ⟨g, rfl, upd_same⟩ (sz_of (b := 1000000000000000000000000000000) (by omega) (by decide)) (sz_of (b := 1000000000000000000000000000000) (by omega) (by decide))
    have hs1 := s1 _ _ hs
    have hb1 := s1 _ _ hb
    have f9 : ∀ (u v : Int), u.natAbs ≤ 3 → 0 ≤ v → v < 9 → (u * v).natAbs ≤ 27 := fun u v h1 h2 h3 => by
      rw [Int.natAbs_mul]
      exact Nat.le_trans (Nat.mul_le_mul h1 (show v.natAbs ≤ 9 by omega)) (by decide)
    walk_at "rd"
    refine ifB (fun _ => ?_) (fun _ => ?_)
    · walk_at "rd"
      intro g hg
      have q1 := f9 bx (xs.getD (Int.toNat 0) 0 % 9) z3 (by omega) (by omega)
      have q2 := f9 by_ (xs.getD (Int.toNat 0) 0 % 9) z4 (by omega) (by omega)
      exact k _ _ _ _ (by walk_at "sm") ⟨g, rfl, upd_same⟩ (sz_of (b := 1000000000000000000000000000000) (by omega) (by decide)) (sz_of (b := 1000000000000000000000000000000) (by omega) (by decide))
    walk_at "rd"
    refine ifB (fun _ => ?_) (fun _ => ?_)
    · walk_at "rd"
      intro g hg
      have q1 := f9 bx (xs.getD (Int.toNat 0) 0 % 2) z3 (by omega) (by omega)
      rw [Int.mul_comm] at q1
      exact k _ _ _ _ (by walk_at "sm") ⟨g, rfl, upd_same⟩ (sz_of (b := 1000000000000000000000000000000) (by omega) (by decide)) (sz_of (b := 1000000000000000000000000000000) (by omega) (by decide))
    walk_at "rd"
    refine ifB (fun _ => ?_) (fun _ => ?_)
    · walk_at "rd"
      intro g hg
      rw [p25] at *
      exact k _ _ _ _ (by walk_at "sm") ⟨g, rfl, upd_same⟩ (sz_of (b := 1000000000000000000000000000000) (by omega) (by decide)) (sz_of (b := 1000000000000000000000000000000) (by omega) (by decide))
    walk_at "rd"
    refine ite_dec (fun _ => ?_) (fun _ => ?_)
    · walk_at "rd"
      intro g hg
      exact k _ _ _ _ (by walk_at "sm") ⟨g, rfl, upd_same⟩ (sz_of (b := 1000000000000000000000000000000) (by omega) (by decide)) (sz_of (b := 1000000000000000000000000000000) (by omega) (by decide))
    walk_at "rd"
    intro g hg
    exact k _ _ _ _ (by walk_at "sm") ⟨g, rfl, upd_same⟩ (sz_of (b := 1000000000000000000000000000000) (by omega) (by decide)) (sz_of (b := 1000000000000000000000000000000) (by omega) (by decide))
theorem ok_l_seats {C_Path : Addr} (T_Path : ClsK K mg "Path" C_Path) (N_Path_parts : NoAttr K C_Path "parts") (F : FunAt K mg "_law_seats" s_l_seats ["_law_cell", "_law_many", "_law_way_here"]) (B : Blt mg) {C_SeatError C_NoJoin C_NoShare C_NoLower C_NoMap C_NoPlace C_TooMany C_NoText C_NoName : Addr} (X : Exc K mg C_SeatError C_NoJoin C_NoShare C_NoLower C_NoMap C_NoPlace C_TooMany C_NoText C_NoName) {t_MOST_CURVES : Tok} (G : Cst K mg t_MOST_CURVES) (D_l_stream : DefOk P w K mg base CX0 1 "_law_stream" ["_law_cell", "_law_many"] spStreamC) (D_l_place : DefOk P w K mg base CX0 2 "_law_place" ["_law_cell", "_law_way_here"] spPlace) : DefOk P w K mg base CX0 3 "_law_seats" ["_law_cell", "_law_many", "_law_way_here"] (spPSeats K) := by
  refine def_okI F sc_l_seats (fun vs H Q E h => ?_) (fun f cdv A outer s H vs Q E hr h => ?_)
  · obtain ⟨c, m, w, B, kd, rfl, _⟩ := h; rfl
  · obtain ⟨c, m, w, B, kd, rfl, hm, hW, k⟩ := h
    have hu := hr.units
    refine ⟨_, (pss_oneI (ps_retI (pe_compSI (os := ["_law_one"]) (caps := [(2, "_law_way_here"), (0, "_law_cell")]) ["_law_cell", "_law_many", "_law_way_here"] (defScope s_l_seats) (pi_listI (pe_fnI D_l_stream hr pass0 (pa_consI (pvI 0) (pa_consI (pvI 1) pa_nilI)))) (fun _ _ _ _ _ => (pg_nameI (i := 0) (show List.Nodup (["_law_one", "_law_way_here", "_law_cell"] : List Str) from by decide +kernel) rfl (by first | exact Or.inl rfl | exact Or.inr rfl))) (fun _ _ _ _ _ => (pe_fnI D_l_place hr pass0 (pa_consI (pe_opI op_add (pe_opI op_mulA (pvI 0) (pvI 0)) (pvI 2)) (pa_consI (pvI 1) pa_nilI)))) (by decide +kernel)))), ?_⟩
    walk_at "rd"
    refine ⟨c, m, rfl, by omega, fun ls xs H1 s1 hls hx hxl hxx => ?_⟩
    walk_at "rd"
    refine ⟨⟨_, SqL.of hx⟩, comp1 (plain_list (SqL.of hx)) (by rw [List.length_map]; omega) (fun i v H => ∃ x y : Int, RwV H v x y ∧ Sz 110 x ∧ Sz 110 y) (fun _ _ _ _ t h => by obtain ⟨x, y, h1, h2⟩ := h; exact ⟨x, y, h1.tup t, h2⟩) (fun i H2 kk hi s2 hk => ?_) (fun D us H2 hD s2 hd hul hr => ?_)⟩
    · rw [List.length_map] at hi
      have e1 : xs[i]? = some (xs[i]'hi) := List.getElem?_eq_getElem _
      have b1 := hxx _ (List.mem_of_getElem? e1)
      rw [int_at e1]
      walk_at "rd"
      refine ⟨_, w, B, kd, rfl, (hW.same s1).same s2, fun v x y H3 s3 hv zx zy => ?_⟩
      exact hk v H3 s3 ⟨x, y, hv, zx, zy⟩
    obtain ⟨pl, hP, hZ⟩ := pls_exist hr
    rw [List.length_map, hxl] at hul
    exact k D us pl H2 (s1.trans s2) (s1.free hD) hd hP (by rw [← hP.len, hul]) hZ
theorem ok_l_way {C_Path : Addr} (T_Path : ClsK K mg "Path" C_Path) (N_Path_parts : NoAttr K C_Path "parts") (F : FunAt K mg "_law_way" s_l_way ["_law_cell"]) (B : Blt mg) {C_SeatError C_NoJoin C_NoShare C_NoLower C_NoMap C_NoPlace C_TooMany C_NoText C_NoName : Addr} (X : Exc K mg C_SeatError C_NoJoin C_NoShare C_NoLower C_NoMap C_NoPlace C_TooMany C_NoText C_NoName) {t_MOST_CURVES : Tok} (G : Cst K mg t_MOST_CURVES) (D_l_stream : DefOk P w K mg base CX0 1 "_law_stream" ["_law_cell", "_law_many"] spStreamC) : DefOk P w K mg base CX0 2 "_law_way" ["_law_cell"] spWay := by
  refine def_okI F sc_l_way (fun vs H Q E h => ?_) (fun f cdv A outer s H vs Q E hr h => ?_)
  · obtain ⟨c, rfl, _⟩ := h; rfl
  · obtain ⟨c, rfl, k⟩ := h
    have hu := hr.units
    refine ⟨_, (pss_consI (ps_setI (i := 1) sc_l_way.nd rfl (by first | exact Or.inl rfl | exact Or.inr rfl) (pe_fnI D_l_stream hr pass0 (pa_consI (pvI 0) (pa_consI pe_intI pa_nilI))))
      (pss_consI (ps_setI (i := 2) sc_l_way.nd rfl (by first | exact Or.inl rfl | exact Or.inr rfl) (pe_ixI (ix_listK K) (pe_lstI (pa_consI pe_intI (pa_consI pe_intI (pa_consI pe_intI (pa_consI pe_intI (pa_consI pe_intI (pa_consI pe_intI (pa_consI pe_intI (pa_consI (pe_opI op_add (pe_opI op_pow pe_intI pe_intI) pe_intI) pa_nilI))))))))) (pe_opI op_mod (pe_ixI (ix_listK K) (pvI 1) pe_intI (fun _ _ => rfl)) pe_intI) (fun _ _ => rfl)))
      (pss_consI (ps_setI (i := 3) sc_l_way.nd rfl (by first | exact Or.inl rfl | exact Or.inr rfl) (pe_tupI (pa_consI (pe_opI op_sub (pe_opI op_mod (pe_ixI (ix_listK K) (pvI 1) pe_intI (fun _ _ => rfl)) pe_intI) pe_intI) (pa_consI (pe_opI op_sub (pe_opI op_mod (pe_ixI (ix_listK K) (pvI 1) pe_intI (fun _ _ => rfl)) pe_intI) pe_intI) pa_nilI))))
      (pss_oneI (ps_retI (pe_tupI (pa_consI (pvI 2) (pa_consI (pe_opI op_mod (pe_ixI (ix_listK K) (pvI 1) pe_intI (fun _ _ => rfl)) pe_intI) (pa_consI (pvI 3) (pa_consI (pe_tupI (pa_consI (pe_opI op_sub (pe_opI op_mod (pe_ixI (ix_listK K) (pvI 1) pe_intI (fun _ _ => rfl)) pe_intI) pe_intI) (pa_consI (pe_opI op_sub (pe_opI op_mod (pe_ixI (ix_listK K) (pvI 1) pe_intI (fun _ _ => rfl)) pe_intI) pe_intI) pa_nilI))) pa_nilI)))))))))), ?_⟩
    walk_at "rd"
    refine ⟨c, 6, rfl, by decide, fun lx xs H1 s1 hx0 hx hxl hnn => ?_⟩
    have nn : ∀ j : Nat, 0 ≤ xs.getD j 0 := fun j => getD_nn (fun x h => (hnn x h).1) j
    have n0 := nn 0
    have n1 := nn 1
    have n2 := nn 2
    have n3 := nn 3
    have n4 := nn 4
    have n5 := nn 5
    have hx1 : SqL K H1 lx (xs.map V.int) := SqL.of hx
    walk_at "rd"
    intro lb hlb
    walk_at "rd"
    obtain ⟨B, hB, B1, B2⟩ := tab [1, 1, 2, 3, 6, 12, 8, (10 : Int) ^ (9 : Int).toNat + 7] 1 1000000007 (xs.getD (Int.toNat 0) 0 % 8) (by rw [p9]; decide) (by omega) (by show _ < (8 : Int); omega)
    refine ⟨_, _, _, _, rfl, rfl, SqL.of upd_same, hB, ?_⟩
    walk_at "rd"
    intro ls hls
    walk_at "rd"
    intro lz hlz
    walk_at "rd"
    intro la hla
    exact k _ B _ _ (by walk_at "sm") ⟨la, ls, lz, _, _, _, _, rfl, upd_same, by walk_at "hf", by walk_at "hf", by omega, by omega, by omega, by omega, by omega, by omega⟩
theorem ok_l_path {C_Path : Addr} (T_Path : ClsK K mg "Path" C_Path) (N_Path_parts : NoAttr K C_Path "parts") (F : FunAt K mg "_law_path" s_l_path ["_law_script"]) (B : Blt mg) {C_SeatError C_NoJoin C_NoShare C_NoLower C_NoMap C_NoPlace C_TooMany C_NoText C_NoName : Addr} (X : Exc K mg C_SeatError C_NoJoin C_NoShare C_NoLower C_NoMap C_NoPlace C_TooMany C_NoText C_NoName) {t_MOST_CURVES : Tok} (G : Cst K mg t_MOST_CURVES) (D_l_stream : DefOk P w K mg base CX0 1 "_law_stream" ["_law_cell", "_law_many"] spStreamC) (D_l_cell_at : DefOk P w K mg base CX0 1 "_law_cell_at" ["_law_script", "_law_k"] (spCell K)) (D_l_place : DefOk P w K mg base CX0 2 "_law_place" ["_law_cell", "_law_way_here"] spPlace) (D_l_seats : DefOk P w K mg base CX0 3 "_law_seats" ["_law_cell", "_law_many", "_law_way_here"] (spPSeats K)) (D_l_way : DefOk P w K mg base CX0 2 "_law_way" ["_law_cell"] spWay) : DefOk P w K mg base CX0 4 "_law_path" ["_law_script"] (spPath K) := by
  refine def_okI F sc_l_path (fun vs H Q E h => ?_) (fun f cdv A outer s H vs Q E hr h => ?_)
  · obtain ⟨a, ns, rfl, _⟩ := h; rfl
  · obtain ⟨a, ns, rfl, hS, k⟩ := h
    have hu := hr.units
    refine ⟨_, (pss_consI (ps_setI (i := 1) sc_l_path.nd rfl (by first | exact Or.inl rfl | exact Or.inr rfl) (pe_fnI D_l_stream hr pass0 (pa_consI (pe_fnI D_l_cell_at hr pass0 (pa_consI (pvI 0) (pa_consI pe_intI pa_nilI))) (pa_consI pe_intI pa_nilI))))
      (pss_consI (ps_setI (i := 2) sc_l_path.nd rfl (by first | exact Or.inl rfl | exact Or.inr rfl) (pe_fnI D_l_way hr pass0 (pa_consI (pe_fnI D_l_cell_at hr pass0 (pa_consI (pvI 0) (pa_consI pe_intI pa_nilI))) pa_nilI)))
      (pss_consI (ps_setI (i := 3) sc_l_path.nd rfl (by first | exact Or.inl rfl | exact Or.inr rfl) (pe_opI op_add pe_intI (pe_opI op_mod (pe_ixI (ix_listK K) (pvI 1) pe_intI (fun _ _ => rfl)) pe_intI)))
      (pss_consI (ps_ifI (pt_cmpRI op_eq (pe_opI op_mod (pe_ixI (ix_listK K) (pvI 1) pe_intI (fun _ _ => rfl)) pe_intI) pe_intI (nomark _)) (pss_oneI (ps_setI (i := 3) sc_l_path.nd rfl (by first | exact Or.inl rfl | exact Or.inr rfl) (pe_opI op_add pe_intI (pe_opI op_mod (pe_opI op_fdiv (pe_ixI (ix_listK K) (pvI 1) pe_intI (fun _ _ => rfl)) pe_intI) pe_intI)))) pss_nilI)
      (pss_consI (ps_setI (i := 4) sc_l_path.nd rfl (by first | exact Or.inl rfl | exact Or.inr rfl) (pe_fnI D_l_place hr pass0 (pa_consI (pe_fnI D_l_cell_at hr pass0 (pa_consI (pvI 0) (pa_consI pe_intI pa_nilI))) (pa_consI (pvI 2) pa_nilI))))
      (pss_consI (ps_setI (i := 5) sc_l_path.nd rfl (by first | exact Or.inl rfl | exact Or.inr rfl) (pe_lstI pa_nilI))
      (pss_consI (ps_forI PassesOwn.never rfl (pi_range1I rfl B.range (pa_consI (pvI 3) pa_nilI)) (pg_nameI (i := 6) sc_l_path.nd rfl (by first | exact Or.inl rfl | exact Or.inr rfl))
      (pss_consI (ps_setI (i := 7) sc_l_path.nd rfl (by first | exact Or.inl rfl | exact Or.inr rfl) (pe_fnI D_l_stream hr pass0 (pa_consI (pe_opI op_add (pe_fnI D_l_cell_at hr pass0 (pa_consI (pvI 0) (pa_consI (pe_opI op_add pe_intI (pvI 6)) pa_nilI))) (pe_opI op_mulA pe_intI (pvI 6))) (pa_consI pe_intI pa_nilI))))
      (pss_consI (ps_setI (i := 8) sc_l_path.nd rfl (by first | exact Or.inl rfl | exact Or.inr rfl) (pe_opI op_cat (pe_lstI (pa_consI (pvI 4) pa_nilI)) (pe_fnI D_l_seats hr pass0 (pa_consI (pe_ixI (ix_listK K) (pvI 7) pe_intI (fun _ _ => rfl)) (pa_consI (pe_ixI (ix_listK K) (pe_lstI (pa_consI pe_intI (pa_consI pe_intI (pa_consI pe_intI (pa_consI pe_intI (pa_consI pe_intI (pa_consI pe_intI pa_nilI))))))) (pe_opI op_mod (pe_ixI (ix_listK K) (pvI 7) pe_intI (fun _ _ => rfl)) pe_intI) (fun _ _ => rfl)) (pa_consI (pvI 2) pa_nilI))))))
      (pss_consI (ps_exprI (pe_bmI PySem.F.plainAttrs_list PySem.F.slot_list_append PySem.F.type_list_append mt_append (pvI 5) (pa_consI (pvI 8) pa_nilI)))
      (pss_oneI (ps_setI (i := 4) sc_l_path.nd rfl (by first | exact Or.inl rfl | exact Or.inr rfl) (pe_ixI (ix_listK K) (pvI 8) (pe_unI un_neg pe_intI) (fun _ _ => rfl))))))))
      (pss_oneI (ps_retI (pe_tupI (pa_consI (pe_ixI (ix_tupK K) (pvI 2) pe_intI (fun _ _ => rfl)) (pa_consI (pvI 5) pa_nilI)))))))))))), ?_⟩
    walk_at "rd"
    refine ⟨a, ns, 0, rfl, hS, by omega, fun z0 => ?_⟩
    walk_at "rd"
    refine ⟨z0, 6, rfl, by decide, fun lr xs H1 s1 hlr hx hxl hxx => ?_⟩
    have nn : ∀ j : Nat, 0 ≤ xs.getD j 0 := fun j => getD_nn (fun x hx => (hxx x hx).1) j
    have hx1 : SqL K H1 lr (xs.map V.int) := SqL.of hx
    walk_at "rd"
    refine ⟨a, ns, 1, rfl, SqL.same' hS s1, by omega, fun z1 => ?_⟩
    walk_at "rd"
    intro w B kd H2 s2 hW
    have hx2 : SqL K H2 lr (xs.map V.int) := SqL.same' hx1 s2
    have hS2 : SqL K H2 a (ns.map V.int) := SqL.same' (SqL.same' hS s1) s2
    have n0 := nn 0
    have n1 := nn 1
    have s12 := s1.trans s2
    clear hx1 hx s1 s2 hlr
    walk_at "rd"
    refine if_mergeN (fun σ' H' => H' = H2 ∧ ∃ mm : Nat, σ' = [some (.ref a), some (.ref lr), some w, some (.int (mm : Int)), none, none, none, none, none] ∧ 1 ≤ mm ∧ mm ≤ 12) ?_ (fun N hR hb => ?_) (fun hb => ?_)
    rotate_left
    · walk_at "rd"
      exact hR _ _ ⟨rfl, (9 + xs.getD (Int.toNat 1) 0 / 8 % 4).toNat, by rw [Int.toNat_of_nonneg (by omega)]; rfl, by omega, by omega⟩
    · exact ⟨rfl, (1 + xs.getD (Int.toNat 0) 0 % 4).toNat, by rw [Int.toNat_of_nonneg (by omega)]; rfl, by omega, by omega⟩
    rintro σ' H2 ⟨rfl, mm, rfl, m1, m12⟩
    walk_at "rd"
    refine ⟨a, ns, 2, rfl, hS2, by omega, fun z2 => ?_⟩
    walk_at "rd"
    refine ⟨z2, w, B, kd, rfl, hW, fun v0 x0 y0 H3 s3 hv0 zx0 zy0 => ?_⟩
    walk_at "rd"
    intro lc hlc
    have s4 := s3.trans (Same.new (o := .lst []) hlc)
    have hlcH : H lc = none := s12.free (s3.free hlc)
    have hc4 : (upd H3 lc (.lst [])) lc = some (.lst []) := upd_same
    replace hv0 := hv0.same (Same.new (o := .lst []) hlc)
    have hW4 := hW.same s4
    have hS4 := SqL.same' hS2 s4
    replace s4 := s12.trans s4
    clear hlc hx2 hW hS2 s12
    generalize upd H3 lc (.lst []) = H4 at *
    walk_at "rd"
    refine ⟨by omega, by omega, for_range (fun i σ H' => ∃ (y6 y7 y8 : Option V) (v : V) (x y : Int) (ys : List V) (css : List (List Pl)), σ = [some (.ref a), some (.ref lr), some w, some (.int (mm : Int)), some v, some (.ref lc), y6, y7, y8] ∧ Same H H' ∧ SqL K H' a (ns.map V.int) ∧ WayV H' w B kd ∧ RwV H' v x y ∧ Sz 110 x ∧ Sz 110 y ∧ H' lc = some (.lst ys) ∧ CsV H' (some lc) ys css ∧ css.length = i ∧ JoinedI css ∧ ∀ c, css[css.length - 1]? = some c → 1 ≤ css.length → c[c.length - 1]? = some (x, y)) ⟨none, none, none, v0, x0, y0, [], [], rfl, s4, hS4, hW4, hv0, zx0, zy0, hc4, ⟨rfl, fun i v c e => nomatch (show (none : Option V) = some v from e)⟩, rfl, JoinedI.nil, fun c e h => absurd h (by decide)⟩ ?_ ?_⟩
    · rintro i σ H5 hi ⟨y6, y7, y8, v, x, y, ys, css, rfl, s5, hS5, hW5, hv, zx, zy, hc5, hC5, hcl, hJ, hlast⟩
      walk_at "rd"
      refine ⟨a, ns, _, rfl, hS5, by omega, fun z3 => ?_⟩
      walk_at "rd"
      refine ⟨_, 2, rfl, by decide, fun ls us H6 s6 hls hu hul huu => ?_⟩
      have nn : ∀ j : Nat, 0 ≤ us.getD j 0 := fun j => getD_nn (fun x hx => (huu x hx).1) j
      have n0 := nn 0
      have n1 := nn 1
      have hu6 : SqL K H6 ls (us.map V.int) := SqL.of hu
      walk_at "rd"
      intro l1 hl1
      have s7 := s6.trans (Same.new (o := .lst [v]) hl1)
      have hu7 : SqL K (upd H6 l1 (.lst [v])) ls (us.map V.int) := SqL.same' hu6 (Same.new hl1)
      have hv7 := hv.same s7
      have hW7 := hW5.same s7
      have hc7 := s7 _ _ hc5
      have hC7 := hC5.same s7
      have hl7 : (upd H6 l1 (.lst [v])) l1 = some (.lst [v]) := upd_same
      clear hu6 hl1 s6 hv hW5 hu
      generalize upd H6 l1 (.lst [v]) = H7 at *
      walk_at "rd"
      intro l2 hl2
      have s8 := s7.trans (Same.new (o := .lst [.int 1, .int 2, .int 3, .int 0, .int 1, .int 4]) hl2)
      have hu8 : SqL K (upd H7 l2 (.lst [.int 1, .int 2, .int 3, .int 0, .int 1, .int 4])) ls (us.map V.int) := SqL.same' hu7 (Same.new hl2)
      have hl8 : (upd H7 l2 (.lst [.int 1, .int 2, .int 3, .int 0, .int 1, .int 4])) l2 = some (.lst [.int 1, .int 2, .int 3, .int 0, .int 1, .int 4]) := upd_same
      have hv8 := hv7.same (Same.new (o := .lst [.int 1, .int 2, .int 3, .int 0, .int 1, .int 4]) hl2)
      have hW8 := hW7.same (Same.new (o := .lst [.int 1, .int 2, .int 3, .int 0, .int 1, .int 4]) hl2)
      have hc8 := upd_keep (o := .lst [.int 1, .int 2, .int 3, .int 0, .int 1, .int 4]) hl2 hc7
      have hC8 := hC7.same (Same.new (o := .lst [.int 1, .int 2, .int 3, .int 0, .int 1, .int 4]) hl2)
      have h18 := upd_keep (o := .lst [.int 1, .int 2, .int 3, .int 0, .int 1, .int 4]) hl2 hl7
      clear hu7 hl2 hv7 hW7 hc7 hC7 hl7 s7
      generalize upd H7 l2 (.lst [.int 1, .int 2, .int 3, .int 0, .int 1, .int 4]) = H8 at *
      walk_at "rd"
      obtain ⟨vm, hvm, hmm⟩ := atI_lt [V.int 1, V.int 2, V.int 3, V.int 0, V.int 1, V.int 4] (us.getD (Int.toNat 1) 0 % 6) (by omega) (by show _ < (6 : Int); omega)
      have hk0 : ∃ kq : Nat, vm = V.int (kq : Int) ∧ kq ≤ 4 := by
        simp only [List.mem_cons, List.not_mem_nil, or_false] at hmm
        rcases hmm with rfl | rfl | rfl | rfl | rfl | rfl
        · exact ⟨1, rfl, by decide⟩
        · exact ⟨2, rfl, by decide⟩
        · exact ⟨3, rfl, by decide⟩
        · exact ⟨0, rfl, by decide⟩
        · exact ⟨1, rfl, by decide⟩
        · exact ⟨4, rfl, by decide⟩
      obtain ⟨kq, rfl, hkq⟩ := hk0
      refine ⟨l2, _, _, _, rfl, rfl, SqL.of hl8, hvm, ?_⟩
      walk_at "rd"
      refine ⟨_, kq, w, B, kd, rfl, by omega, hW8, fun l9 u9 p9 H9 s9 h90 h9 hP9 hp9 z9 => ?_⟩
      refine ⟨l1, l9, _, _, rfl, rfl, s9 _ _ h18, h9, Nat.le_of_lt (small_line (by have := hP9.len; show [v].length + u9.length ≤ 100000; rw [List.length_singleton]; omega)), fun lq hlq => ?_⟩
      have s10 := s9.trans (Same.new (o := .lst ([v] ++ u9)) hlq)
      have hq10 : (upd H9 lq (.lst ([v] ++ u9))) lq = some (.lst ([v] ++ u9)) := upd_same
      have hPq : PlsV (upd H9 lq (.lst ([v] ++ u9))) ([v] ++ u9) ((x, y) :: p9) := (PlsV.cons (hv8.same s9) hP9).same (Same.new hlq)
      have hc10 := s10 _ _ hc8
      have hC10 := hC8.same s10
      have hW10 := hW8.same s10
      have nlq : lq ≠ lc := fun e => by rw [e, s9 _ _ hc8] at hlq; cases hlq
      have s11 := (s5.trans s8).trans s10
      have zz : SzQ 110 ((x, y) :: p9) := fun p hp => by
        rcases List.mem_cons.mp hp with rfl | hp
        · exact ⟨zx, zy⟩
        · exact z9 p hp
      clear hlq s10 s9 hv8 hW8 hc8 hC8 hu8 hl8 h18 h9 hP9 h90 s8
      generalize upd H9 lq (.lst ([v] ++ u9)) = H10 at *
      walk_at "rd"
      refine ⟨.inl ⟨rfl, _, SqL.of hc10⟩, ?_⟩
      walk_at "rd"
      refine ⟨lc, ys, _, rfl, rfl, hc10, small_line (by have := hC10.len; omega), ?_⟩
      have t12 : Tup H10 (upd H10 lc (.lst (ys ++ [.ref lq]))) := Tup.lst hc10
      have s12 : Same H (upd H10 lc (.lst (ys ++ [.ref lq]))) := same_upd hlcH s11
      have hq12 : (upd H10 lc (.lst (ys ++ [.ref lq]))) lq = some (.lst ([v] ++ u9)) := by rw [upd_ne nlq]; exact hq10
      have hC12 : CsV (upd H10 lc (.lst (ys ++ [.ref lq]))) (some lc) (ys ++ [.ref lq]) (css ++ [(x, y) :: p9]) := (hC10.upd hc10).snoc (fun z => nlq (Option.some.inj z)) hq12 (hPq.tup t12)
      have hP12 := hPq.tup t12
      have hW12 := hW10.tup t12
      have hc12 : (upd H10 lc (.lst (ys ++ [.ref lq]))) lc = some (.lst (ys ++ [.ref lq])) := upd_same
      clear hc10 hC10 hW10 hq10 hPq s11 t12
      generalize upd H10 lc (.lst (ys ++ [.ref lq])) = H12 at *
      have hlq := hP12.len
      rw [List.length_cons] at hlq
      have eL : ((x, y) :: p9)[((x, y) :: p9).length - 1]? = some (((x, y) :: p9)[((x, y) :: p9).length - 1]'(by rw [List.length_cons]; omega)) := List.getElem?_eq_getElem _
      obtain ⟨aL, wL, gL⟩ := hP12.at eL
      have zL := zz _ (List.mem_of_getElem? eL)
      generalize ((x, y) :: p9)[((x, y) :: p9).length - 1]'(by rw [List.length_cons]; omega) = pL at *
      walk_at "rd"
      refine ⟨lq, _, _, _, rfl, rfl, SqL.of hq12, atI_last' _ (.ref aL) (by rw [hlq, ← List.length_cons (a := (x, y))]; exact wL) (by rw [hlq]; omega), ?_⟩
      refine ⟨_, _, _, .ref aL, pL.1, pL.2, _, css ++ [(x, y) :: p9], rfl, s12, SqL.same' hS s12, hW12, ⟨aL, rfl, gL⟩, zL.1, zL.2, hc12, hC12, by rw [List.length_append, hcl]; rfl, hJ.snoc (by rw [List.length_cons]; omega) (by rw [List.length_cons]; omega) zz (fun c e h => by rw [hlast c e h]; rfl), fun c e _ => ?_⟩
      rcases snoc_get e with ⟨q1, _⟩ | ⟨_, rfl⟩
      · rw [List.length_append, List.length_singleton] at q1; omega
      · exact eL
    rintro σ H5 ⟨y6, y7, y8, v, x, y, ys, css, rfl, s5, hS5, hW5, hv, zx, zy, hc5, hC5, hcl, hJ, hlast⟩
    rw [Int.toNat_natCast] at hcl
    obtain ⟨aw, pw, qw, rfl, haw, b1, b2⟩ := hW5.at0
    walk_at "rd"
    intro c hc
    have s6 := Same.new (o := .tup [.int B, .ref lc]) hc
    exact k c lc ys css B _ (s5.trans s6) upd_same (s6 _ _ hc5) (hC5.drop.same s6) hJ (by omega) (by omega) b1 b2
theorem ok_l_refused {C_Path : Addr} (T_Path : ClsK K mg "Path" C_Path) (N_Path_parts : NoAttr K C_Path "parts") (F : FunAt K mg "_law_refused" s_l_refused ["_law_curves"]) (B : Blt mg) {C_SeatError C_NoJoin C_NoShare C_NoLower C_NoMap C_NoPlace C_TooMany C_NoText C_NoName : Addr} (X : Exc K mg C_SeatError C_NoJoin C_NoShare C_NoLower C_NoMap C_NoPlace C_TooMany C_NoText C_NoName) {t_MOST_CURVES : Tok} (G : Cst K mg t_MOST_CURVES) (D_Path___init__ : MthOk P w K mg base (CXx P w) 2 C_Path "__init__" ["self", "curves"] (spInit K C_Path C_NoJoin)) : DefOk P w K mg base CX0 4 "_law_refused" ["_law_curves"] (spRefP K) := by
  refine def_okI F sc_l_refused (fun vs H Q E h => ?_) (fun f cdv A outer s H vs Q E hr h => ?_)
  · obtain ⟨a, us, n, qs, rfl, _⟩ := h; rfl
  · obtain ⟨a, us, n, qs, rfl, ha, hU, hn, h1, hz, k⟩ := h
    have hu := hr.units
    refine ⟨_, (pss_consI (ps_try1I (n := 1) X.SeatError sc_l_refused.nd (fun xe pn Ex hx => (pss_oneI (ps_exprI (pe_mkI T_Path D_Path___init__ hr hx (pa_consI (pvI 0) pa_nilI))))) (fun x => (pss_consI (ps_ifI (pt_valI (pe_callBI call_isxT (by rfl) B.isinstance PyProof.Rows.boot_isinstance (pa_consI (pvI 1) (pa_consI (pe_tupI (pa_consI (pe_globI (v := .ref C_NoLower) rfl X.NoLower rfl) (pa_consI (pe_globI (v := .ref C_NoMap) rfl X.NoMap rfl) (pa_consI (pe_globI (v := .ref C_NoName) rfl X.NoName rfl) (pa_consI (pe_globI (v := .ref C_NoPlace) rfl X.NoPlace rfl) (pa_consI (pe_globI (v := .ref C_NoShare) rfl X.NoShare rfl) (pa_consI (pe_globI (v := .ref C_NoText) rfl X.NoText rfl) (pa_consI (pe_globI (v := .ref C_TooMany) rfl X.TooMany rfl) pa_nilI)))))))) pa_nilI)))) (pss_oneI (ps_retI pe_blI)) pss_nilI)
      (pss_oneI (ps_retI (pe_andI (pe_callBI call_isx (by rfl) B.isinstance PyProof.Rows.boot_isinstance (pa_consI (pvI 1) (pa_consI (pe_globI (v := .ref C_NoJoin) rfl X.NoJoin rfl) pa_nilI))) (pe_oneI (pe_callBI call_isx (by rfl) B.isinstance PyProof.Rows.boot_isinstance (pa_consI (pvI 1) (pa_consI (pe_bltnI (v := .ty "ValueError") rfl B.ValueError PyProof.Rows.Boot.«ValueError» rfl) pa_nilI))))))))))
      (pss_oneI (ps_retI pe_blI))), ?_⟩
    refine ⟨fun cls d H' => cls = .ref C_NoJoin ∧ d = none ∧ Same H H', ⟨_, rfl, ?_⟩, ?_⟩
    · intro x dx hx hdx ne
      have s1 : Same H (upd (upd H dx (.own x)) x (.ins C_Path dx [])) := fun b o e => by rw [upd_ne (ne_of_none e hx), upd_ne (ne_of_none e hdx)]; exact e
      exact ⟨x, a, dx, us, n, qs, rfl, upd_same, s1 _ _ ha, hU.same s1, hn, h1, .inr ⟨hz, fun H' s2 => ⟨rfl, rfl, s1.trans s2⟩⟩⟩
    · rintro cls x H' σ' ⟨rfl, _, hs⟩ hx hl
      obtain ⟨y0, y1, rfl⟩ := st2 hl
      refine ⟨X.mNoJoin, ?_⟩
      have sx : Same H' (upd H' x (ExcO x (.ref C_NoJoin))) := Same.new hx
      have hx1 : (upd H' x (ExcO x (.ref C_NoJoin))) x = some (ExcO x (.ref C_NoJoin)) := upd_same
      generalize upd H' x (ExcO x (.ref C_NoJoin)) = H1 at *
      refine ⟨_, rfl, by show 7 ≤ sizeLine; decide, fun p hp => ?_⟩
      have hx2 := upd_keep (o := .tup [.ref C_NoLower, .ref C_NoMap, .ref C_NoName, .ref C_NoPlace, .ref C_NoShare, .ref C_NoText, .ref C_TooMany]) hp hx1
      have s2 := sx.trans (Same.new (o := .tup [.ref C_NoLower, .ref C_NoMap, .ref C_NoName, .ref C_NoPlace, .ref C_NoShare, .ref C_NoText, .ref C_TooMany]) hp)
      refine ⟨x, C_NoJoin, p, [C_NoLower, C_NoMap, C_NoName, C_NoPlace, C_NoShare, C_NoText, C_TooMany], rfl, hx2, upd_same, X.nNoJoin, fun c hc => ?_, _, rfl, ifF rfl ?_⟩
      · simp only [List.mem_cons, List.not_mem_nil, or_false] at hc
        rcases hc with rfl | rfl | rfl | rfl | rfl | rfl | rfl
        · exact X.fNoJoin_NoLower
        · exact X.fNoJoin_NoMap
        · exact X.fNoJoin_NoName
        · exact X.fNoJoin_NoPlace
        · exact X.fNoJoin_NoShare
        · exact X.fNoJoin_NoText
        · exact X.fNoJoin_TooMany
      refine ⟨_, rfl, x, C_NoJoin, _, _, _, rfl, hx2, rfl, X.nNoJoin, kit_self K _, _, rfl, iteT ?_⟩
      refine ⟨_, rfl, x, C_NoJoin, _, _, _, rfl, hx2, rfl, X.nNoJoin, X.vNoJoin, ?_⟩
      exact k _ (hs.trans s2)
theorem ok_law {C_Path : Addr} (T_Path : ClsK K mg "Path" C_Path) (N_Path_parts : NoAttr K C_Path "parts") (F : FunAt K mg "law" s_law ["_law_script"]) (B : Blt mg) {C_SeatError C_NoJoin C_NoShare C_NoLower C_NoMap C_NoPlace C_TooMany C_NoText C_NoName : Addr} (X : Exc K mg C_SeatError C_NoJoin C_NoShare C_NoLower C_NoMap C_NoPlace C_TooMany C_NoText C_NoName) {t_MOST_CURVES : Tok} (G : Cst K mg t_MOST_CURVES) (D_Path___init__ : MthOk P w K mg base (CXx P w) 2 C_Path "__init__" ["self", "curves"] (spInit K C_Path C_NoJoin)) (D_Path_curves : MthOk P w K mg base CX0 2 C_Path "curves" ["self"] (spCurves K C_Path)) (D_l_all_handed : DefOk P w K mg base CX0 3 "_law_all_handed" ["_law_curves", "_law_bottom"] (spAllH K)) (D_l_aside : DefOk P w K mg base CX0 2 "_law_aside" ["_law_curves", "_law_cell"] (spAside K)) (D_l_cell_at : DefOk P w K mg base CX0 1 "_law_cell_at" ["_law_script", "_law_k"] (spCell K)) (D_l_path : DefOk P w K mg base CX0 4 "_law_path" ["_law_script"] (spPath K)) (D_l_refused : DefOk P w K mg base CX0 4 "_law_refused" ["_law_curves"] (spRefP K)) : DefOk P w K mg base CX0 5 "law" ["_law_script"] (spLaw K) := by
  refine def_okI F sc_law (fun vs H Q E h => ?_) (fun f cdv A outer s H vs Q E hr h => ?_)
  · obtain ⟨a, ns, rfl, _⟩ := h; rfl
  · obtain ⟨a, ns, rfl, hS, hlen, k⟩ := h
    have hu := hr.units
    refine ⟨_, (pss_consI (ps_asgI (pe_fnI D_l_path hr pass0 (pa_consI (pvI 0) pa_nilI)) (pg_tupKI (n := 2) K rfl (pgs_consI (pg_nameI (i := 1) sc_law.nd rfl (by first | exact Or.inl rfl | exact Or.inr rfl)) (pgs_consI (pg_nameI (i := 2) sc_law.nd rfl (by first | exact Or.inl rfl | exact Or.inr rfl)) pgs_nilI))))
      (pss_consI (ps_setI (i := 3) sc_law.nd rfl (by first | exact Or.inl rfl | exact Or.inr rfl) (pe_fnI D_l_all_handed hr pass0 (pa_consI (pvI 2) (pa_consI (pvI 1) pa_nilI))))
      (pss_consI (ps_setI (i := 4) sc_law.nd rfl (by first | exact Or.inl rfl | exact Or.inr rfl) (pe_fnI D_l_all_handed hr pass0 (pa_consI (pvI 2) (pa_consI (pvI 1) pa_nilI))))
      (pss_consI (ps_setI (i := 5) sc_law.nd rfl (by first | exact Or.inl rfl | exact Or.inr rfl) (pe_mkI T_Path D_Path___init__ hr passE0 (pa_consI (pvI 4) pa_nilI)))
      (pss_consI (ps_ifI (pt_cmpRI (op_neDK K hu) (pvI 4) (pvI 3) (nomark _)) (pss_oneI (ps_retI pe_blI)) pss_nilI)
      (pss_consI (ps_forI PassesOwn.never rfl (pi_listI (pvI 4)) (pg_nameI (i := 6) sc_law.nd rfl (by first | exact Or.inl rfl | exact Or.inr rfl))
      (pss_oneI (ps_exprI (pe_bmI PySem.F.plainAttrs_list PySem.F.slot_list_append PySem.F.type_list_append mt_append (pvI 6) (pa_consI (pe_ixI (ix_listK K) (pvI 6) pe_intI (fun _ _ => rfl)) pa_nilI)))))
      (pss_consI (ps_exprI (pe_bm0I PySem.F.plainAttrs_list PySem.F.slot_list_clear PySem.F.type_list_clear mt_clear (pvI 4)))
      (pss_consI (ps_forI PassesOwn.never rfl (pi_range1I rfl B.range (pa_consI pe_intI pa_nilI)) (pg_nameI (i := 7) sc_law.nd rfl (by first | exact Or.inl rfl | exact Or.inr rfl))
      (pss_consI (ps_setI (i := 8) sc_law.nd rfl (by first | exact Or.inl rfl | exact Or.inr rfl) (pe_mth0I T_Path D_Path_curves (pvI 5) hr pass0))
      (pss_consI (ps_ifI (PW_ptI (pw_orI (pt_notI (pt_valI (pe_callBI (call_isiK K) (by rfl) B.isinstance PyProof.Rows.boot_isinstance (pa_consI (pvI 8) (pa_consI (pe_bltnI (v := .ty "list") rfl B.list PyProof.Rows.boot_list rfl) pa_nilI))))) (pw_or1I (pt_cmpRI (op_neDK K hu) (pvI 8) (pvI 3) (nomark _))))) (pss_oneI (ps_retI pe_blI)) pss_nilI)
      (pss_consI (ps_forI PassesOwn.never rfl (pi_listI (pvI 8)) (pg_nameI (i := 6) sc_law.nd rfl (by first | exact Or.inl rfl | exact Or.inr rfl))
      (pss_oneI (ps_exprI (pe_bm0I PySem.F.plainAttrs_list PySem.F.slot_list_clear PySem.F.type_list_clear mt_clear (pvI 6)))))
      (pss_oneI (ps_exprI (pe_bmI PySem.F.plainAttrs_list PySem.F.slot_list_append PySem.F.type_list_append mt_append (pvI 8) (pa_consI (pe_lstI pa_nilI) pa_nilI))))))))
      (pss_consI (ps_ifI (PW_ptI (pw_andI (pt_cmpRI op_gt (pe_callBI (call_lenK K) (by rfl) B.len PySem.boot_len (pa_consI (pvI 2) pa_nilI)) pe_intI (nomark _)) (pw_and1I (pt_notI (pt_valI (pe_fnI D_l_refused hr pass0 (pa_consI (pe_fnI D_l_all_handed hr pass0 (pa_consI (pe_fnI D_l_aside hr pass0 (pa_consI (pvI 2) (pa_consI (pe_fnI D_l_cell_at hr pass0 (pa_consI (pvI 0) (pa_consI pe_intI pa_nilI))) pa_nilI))) (pa_consI (pvI 1) pa_nilI))) pa_nilI))))))) (pss_oneI (ps_retI pe_blI)) pss_nilI)
      (pss_consI (ps_compSI (i := 9) (os := ["_law_k"]) (caps := [(2, "_law_curves")]) ["_law_script", "_law_bottom", "_law_curves", "_law_due", "_law_handed_here", "_law_path_here", "_law_curve", "_law_k", "_law_told", "_law_many"] (defScope s_law) sc_law.nd rfl rfl (pi_range1I rfl B.range (pa_consI pe_intI pa_nilI)) (fun _ _ _ _ _ => (pg_nameI (i := 0) (show List.Nodup (["_law_k", "_law_curves"] : List Str) from by decide +kernel) rfl (by first | exact Or.inl rfl | exact Or.inr rfl))) (fun _ _ _ _ _ => (pe_sliceI (sl_listK K) (pe_ixI (ix_listK K) (pvI 1) pe_intI (fun _ _ => rfl)) po_noneI (po_someI pe_intI))) (by decide +kernel))
      (pss_oneI (ps_retI (pe_andI (pe_fnI D_l_refused hr pass0 (pa_consI (pe_lstI pa_nilI) pa_nilI)) (pe_andI (pe_fnI D_l_refused hr pass0 (pa_consI (pe_fnI D_l_all_handed hr pass0 (pa_consI (pvI 9) (pa_consI (pvI 1) pa_nilI))) pa_nilI)) (pe_oneI (pe_cmpRI (op_eqDK K hu) (pe_mth0I T_Path D_Path_curves (pvI 5) hr pass0) (pvI 3) (nomark _))))))))))))))))), ?_⟩
    walk_at "rd"
    refine ⟨a, ns, rfl, hS, fun c lc ys css B H1 s1 hc hlc hC hJ c1 c12 b1 b2 => ?_⟩
    have zB : Sz 9000 B := Sz.mono (n := 40) ⟨by show B.natAbs < 2 ^ 40; omega⟩ (by decide)
    have hcl10 : ∀ d ∈ css, d.length ≤ 1000 := fun d hd => by have := (hJ.ne d hd).2; omega
    have hS1 := SqL.same' hS s1
    refine ⟨c, _, rfl, SqT.of hc, rfl, _, _, rfl, _, _, rfl, rfl, ?_⟩
    walk_at "rd"
    refine ⟨lc, ys, css, B, rfl, hlc, hC, b1, zB, by omega, hcl10, fun ld ud H2 s2 hld0 hld hudl hD => ?_⟩
    replace hlc := s2 _ _ hlc
    replace hC := hC.same s2
    replace hS1 := SqL.same' hS1 s2
    walk_at "rd"
    refine ⟨lc, ys, css, B, rfl, hlc, hC, b1, zB, by omega, hcl10, fun lh uh H3 s3 hlh0 hlh huhl hHd => ?_⟩
    walk_at "rd"
    intro x dx hx hdx nex
    have s4 : Same H3 (upd (upd H3 dx (.own x)) x (.ins C_Path dx [])) := fun b o e => by rw [upd_ne (ne_of_none e hx), upd_ne (ne_of_none e hdx)]; exact e
    have hx4 : (upd (upd H3 dx (.own x)) x (.ins C_Path dx [])) x = some (.ins C_Path dx []) := upd_same
    generalize upd (upd H3 dx (.own x)) x (.ins C_Path dx []) = H4 at *
    refine ⟨x, lh, dx, uh, css.length, qsOf B css, rfl, hx4, s4 _ _ hlh, (hHd.pss huhl).same s4, by omega, fun i hi => qsOf_len hJ.ne hi, .inl ⟨c1, c12, hJ.joined B, fun lp ks H5 s5 hlp hp hkl hK => ⟨rfl, ?_⟩⟩⟩
    have hK6 := hK.ins (o' := .ins C_Path dx (partsF lp)) hx4 (s5 _ _ hx4) (fun xs z => by cases z)
    have s6 : Same H3 (upd H5 x (.ins C_Path dx (partsF lp))) := same_upd hx (s4.trans s5)
    have hx6 : (upd H5 x (.ins C_Path dx (partsF lp))) x = some (.ins C_Path dx (partsF lp)) := upd_same
    have nlx : lp ≠ x := fun e => by rw [e, hx4] at hlp; cases hlp
    have hp6 : (upd H5 x (.ins C_Path dx (partsF lp))) lp = some (.lst ks) := by rw [upd_ne nlx]; exact hp
    have hu4 : ∀ (j : Nat) (l : Addr), uh[j]? = some (.ref l) → ∃ xs, H4 l = some (.lst xs) := fun j l e => by obtain ⟨xs, h⟩ := hHd.there j l e; exact ⟨xs, s4 _ _ h⟩
    have nux : ∀ j : Nat, uh[j]? ≠ some (.ref x) := fun j e => by obtain ⟨xs, h⟩ := hHd.there j _ e; rw [hx] at h; cases h
    have nhp : lh ≠ lp := fun e => by rw [← e, s4 _ _ hlh] at hlp; cases hlp
    have nkh : ∀ j : Nat, ks[j]? ≠ some (.ref lh) := fun j e => by have := hK.new j _ e; rw [s4 _ _ hlh] at this; cases this
    have hKH : ∀ b o, H4 b = some o → b ≠ x → (upd H5 x (.ins C_Path dx (partsF lp))) b = some o := fun b o e n => by rw [upd_ne n]; exact s5 _ _ e
    clear hx hdx nex hK hp
    generalize hH6 : upd H5 x (.ins C_Path dx (partsF lp)) = H6 at *
    walk_at "rd"
    refine ⟨datCs _, datCs _, dnCs (s6 _ _ hlh) ((hHd.pss huhl).same s6), dnCs (s6 _ _ (s3 _ _ hld)) ((hD.pss hudl).same (s3.trans s6)), datCs_ok _ 4, datCs_ok _ 4, fun b0 hb0 => ?_⟩
    obtain rfl := hb0.mpr rfl
    refine ⟨_, rfl, ifF rfl ?_⟩
    have hHd6 := hHd.to s6
    have hlh6 := s6 _ _ hlh
    walk_at "rd"
    refine ⟨⟨_, SqL.of hlh6⟩, for_list (xs := uh) (fun i σ H' => ∃ (y6 : Option V), σ = [some (.ref a), some (.int B), some (.ref lc), some (.ref ld), some (.ref lh), some (.ref x), y6, none, none, none] ∧ But uh i H6 H') ⟨none, rfl, But.refl _ _⟩ ?_ ?_ ?_⟩
    · rintro i σ H7 hi ⟨y6, rfl, but7⟩
      exact SqL.of (but7.keep _ _ hlh6 fun j _ => hHd6.neD j)
    · rintro i v σ H7 hv ⟨y6, rfl, but7⟩
      have hi : i < uh.length := (List.getElem?_eq_some_iff.mp hv).1
      obtain ⟨lj, xj, rfl, _, _, hj6, hPj⟩ := hHd6.get i v hv
      have hj7 := but7.keep _ _ hj6 fun j' hj2 z => by have := hHd6.one _ _ _ hv z; omega
      have q1 : 1 ≤ (qsOf B css i).length := qsOf_len hJ.ne (by omega)
      have hxl := hPj.len
      have e0 : xj[0]? = some (xj[0]'(by omega)) := List.getElem?_eq_getElem _
      have hln : xj.length ≤ 1000 := by
        rw [hxl, qsOf_some (List.getElem?_eq_getElem (show i < css.length by omega)), ptsOf_len']
        exact hcl10 _ (List.getElem_mem _)
      refine ⟨_, rfl, .inl ⟨rfl, _, SqL.of hj7⟩, ?_⟩
      refine ⟨_, rfl, lj, _, _, _, rfl, rfl, SqL.of hj7, atI_nat' (j := 0) rfl e0, ?_⟩
      refine ⟨lj, xj, _, rfl, rfl, hj7, small_line (by omega), ?_⟩
      exact ⟨_, rfl, but7.step hv⟩
    rintro σ H7 ⟨y6, rfl, but7⟩
    have hlh7 := but7.keep _ _ hlh6 fun j _ => hHd6.neD j
    have P7 := PathAt.but but7 ⟨dx, hx6⟩ hp6 hK6 hkl hlp nux hu4 hHd6.there
    have s27 : Same H2 H7 := but7.base (s3.trans s6) fun j l e => hHd.new j l e
    refine ⟨_, rfl, .inl ⟨rfl, _, SqL.of hlh7⟩, lh, uh, rfl, rfl, hlh7, ?_⟩
    have P8 : PathAt C_Path (upd H7 lh (.lst [])) x lp ks css.length (qsOf B css) := P7.upd hlh7 nhp nkh
    have s28 : Same H2 (upd H7 lh (.lst [])) := same_upd hlh0 s27
    clear P7 s27 hlh7 but7 hK6 hp6 hx6 hKH hHd6 hlh6 hHd hlh hlh0 s6 s3 s4 s5 hu4 nux hH6
    generalize upd H7 lh (.lst []) = H8 at *
    have hlc8 := s28 _ _ hlc
    have hC8 := hC.same s28
    have hS8 := SqL.same' hS1 s28
    have hld8 := s28 _ _ hld
    have hD8 := (hD.pss hudl).same s28
    clear hlc hC hS1 hld hD s28 s2 s1
    walk_at "rd"
    refine for_range (fun i σ H' => ∃ (y6 y7 y8 : Option V), σ = [some (.ref a), some (.int B), some (.ref lc), some (.ref ld), some (.ref lh), some (.ref x), y6, y7, y8, none] ∧ Same H8 H') ⟨y6, none, none, rfl, L2.Same.refl _⟩ ?_ ?_
    · rintro i σ H9 hi ⟨y6, y7, y8, rfl, s9⟩
      obtain ⟨⟨dx9, ho9⟩, _⟩ := P8.same s9
      refine ⟨_, rfl, x, dx9, _, rfl, ho9, parts_no lp (by decide +kernel), ?_⟩
      refine ⟨x, lp, ks, css.length, qsOf B css, rfl, P8.same s9, by omega, fun lt ut H10 s10 hlt0 hlt hutl hT => ?_⟩
      have s9a := s9.trans s10
      walk_at "rd"
      refine ⟨datCs _, datCs _, dnCs hlt (hT.pss hutl), dnCs (s9a _ _ hld8) (hD8.same s9a), datCs_ok _ 4, datCs_ok _ 4, fun b1 hb1 => ?_⟩
      obtain rfl := hb1.mpr rfl
      refine ⟨_, rfl, ifF rfl ?_⟩
      walk_at "rd"
      refine ⟨⟨_, SqL.of hlt⟩, for_list (xs := ut) (fun i' σ H' => ∃ (y6 : Option V), σ = [some (.ref a), some (.int B), some (.ref lc), some (.ref ld), some (.ref lh), some (.ref x), y6, some (.int (0 + (i : Int))), some (.ref lt), none] ∧ But ut i' H10 H') ⟨y6, rfl, But.refl _ _⟩ ?_ ?_ ?_⟩
      · rintro i' σ H11 hi' ⟨y6, rfl, but11⟩
        exact SqL.of (but11.keep _ _ hlt fun j _ => hT.neD j)
      · rintro i' v σ H11 hv ⟨y6, rfl, but11⟩
        obtain ⟨lj, xj, rfl, _, _, hj10, hPj⟩ := hT.get i' v hv
        have hj11 := but11.keep _ _ hj10 fun j' hj2 z => by have := hT.one _ _ _ hv z; omega
        refine ⟨_, rfl, .inl ⟨rfl, _, SqL.of hj11⟩, lj, xj, rfl, rfl, hj11, ?_⟩
        exact ⟨_, rfl, but11.step hv⟩
      rintro σ H11 ⟨y6, rfl, but11⟩
      have hlt11 := but11.keep _ _ hlt fun j _ => hT.neD j
      have s911 : Same H9 H11 := but11.base s10 fun j l e => hT.new j l e
      refine ⟨_, rfl, .inl ⟨rfl, _, SqL.of hlt11⟩, ?_⟩
      walk_at "rd"
      intro n1 hn1
      refine ⟨lt, ut, _, rfl, rfl, upd_keep hn1 hlt11, small_line (by omega), ?_⟩
      exact ⟨_, _, _, rfl, s9.trans (same_upd hlt0 (s911.trans (Same.new hn1)))⟩
    rintro σ H9 ⟨y6, y7, y8, rfl, s9⟩
    have hlc9 := s9 _ _ hlc8
    have hC9 := hC8.same s9
    have hS9 := SqL.same' hS8 s9
    have hld9 := s9 _ _ hld8
    have hD9 := hD8.same s9
    have P9 := P8.same s9
    have hyl := hC9.len
    clear hlc8 hC8 hS8 hld8 hD8 P8 s9
    walk_at "rd"
    refine pwq (fun H10 s10 => ?_) (fun hR h0 => ?_)
    rotate_left
    · have h2 : 2 ≤ css.length := by have := of_decide_eq_true h0; omega
      walk_at "rd"
      refine ⟨a, ns, 15, rfl, hS9, by omega, fun z => ?_⟩
      walk_at "rd"
      refine ⟨lc, ys, css, z, rfl, hlc9, hC9, hJ, h2, c12, fun l10 u10 css' H10 s10 h100 h10 hC10 hcl' hne' hap => ?_⟩
      walk_at "rd"
      refine ⟨l10, u10, css', B, rfl, h10, hC10, b1, zB, by omega, fun d hd => by have := (hne' d hd).2; omega, fun l11 u11 H11 s11 h110 h11 hul11 hL11 => ?_⟩
      walk_at "rd"
      refine ⟨l11, u11, css'.length, qsOf B css', rfl, h11, hL11.pss hul11, by omega, fun i hi => qsOf_len hne' hi, fun h => hap.not (by omega) h.2.2, fun H12 s12 => ?_⟩
      refine ⟨_, rfl, ?_⟩
      exact hR H12 ((s10.trans s11).trans s12)
    refine ifF rfl ?_
    have hlc10 := s10 _ _ hlc9
    have hC10 := hC9.same s10
    have hld10 := s10 _ _ hld9
    have hD10 := hD9.same s10
    have P10 := P9.same s10
    clear hlc9 hC9 hS9 hld9 hD9 P9 s10
    have e0 : css[0]? = some (css[0]'(by omega)) := List.getElem?_eq_getElem _
    obtain ⟨l0, u0, el0, hl0, hP0⟩ := hC10.at e0
    have n0 := hJ.ne _ (List.mem_of_getElem? e0)
    generalize css[0]'(by omega) = k0 at *
    have hul0 := hP0.len
    walk_at "rd"
    refine compL (plain_range 0 13 _) (by decide) (fun _ xs H => PlsV H xs (k0.take 1)) (fun _ _ _ _ tt h => h.tup tt) (fun i H11 kk hi s11 hk => ?_) (fun lm um H11 hlm0 s11 hlm huml hM => ?_)
    · walk_at "rd"
      refine ⟨lc, _, _, _, rfl, rfl, SqL.of (s11 _ _ hlc10), atI_nat' (j := 0) rfl el0, ?_⟩
      walk_at "rd"
      refine ⟨l0, u0, rfl, SqL.of (s11 _ _ hl0), fun l12 hl12 => ?_⟩
      rw [cut_firstV u0 1 1 rfl (by omega)]
      exact hk l12 _ _ (Same.new hl12) hl12 upd_same (((hP0.same s11).takeK 1).same (Same.new hl12))
    have hCm := cs_rep hM huml
    have hld11 := s11 _ _ hld10
    have hD11 := hD10.same s11
    have P11 := P10.same s11
    clear hlc10 hC10 hld10 hD10 P10 s11 hM hl0 hP0
    walk_at "rd"
    intro le hle
    have s12 := Same.new (o := .lst []) hle
    refine ⟨le, [], 0, fun _ => [], rfl, upd_same, PssV.nil _, by decide, fun i hi => absurd hi (by omega), fun h => absurd h.1 (by decide), fun H13 s13 => ?_⟩
    have s1213 := s12.trans s13
    refine ⟨_, rfl, iteT ?_⟩
    walk_at "rd"
    have tk1 : (k0.take 1).length = 1 := by rw [List.length_take]; omega
    refine ⟨lm, um, _, B, rfl, s1213 _ _ hlm, hCm.same s1213, b1, zB, by rw [List.length_replicate]; decide, fun d hd => by rw [(List.mem_replicate.mp hd).2]; omega, fun l14 u14 H14 s14 h140 h14 hul14 hL14 => ?_⟩
    rw [List.length_replicate] at hul14
    walk_at "rd"
    refine ⟨l14, u14, 13, qsOf B (List.replicate 13 (k0.take 1)), rfl, h14, hL14.pss hul14, by decide, fun i hi => qsOf_len (fun d hd => by rw [(List.mem_replicate.mp hd).2]; omega) (by rw [List.length_replicate]; exact hi), fun h => absurd h.2.1 (by decide), fun H15 s15 => ?_⟩
    have sA := (s1213.trans s14).trans s15
    refine ⟨_, rfl, iteT ?_⟩
    obtain ⟨⟨dx15, ho15⟩, _⟩ := P11.same sA
    refine ⟨_, rfl, x, dx15, _, rfl, ho15, parts_no lp (by decide +kernel), ?_⟩
    refine ⟨x, lp, ks, css.length, qsOf B css, rfl, P11.same sA, by omega, fun lt ut H16 s16 hlt0 hlt hutl hT => ?_⟩
    walk_at "rd"
    have sB := sA.trans s16
    refine ⟨datCs _, datCs _, dnCs hlt (hT.pss hutl), dnCs (sB _ _ hld11) (hD11.same sB), datCs_ok _ 4, datCs_ok _ 4, fun b2 hb2 => ?_⟩
    obtain rfl := hb2.mpr rfl
    exact k H16
end
theorem all_mk {w : World} {K : PySem.W.Frag} {h : Heap} {mg : Str → Option Value} {fa : Addr} (KX : K.In h) (GN : h.Ns mainGlobals mg) (hfa : mg "law" = some (.ref fa))
    {f0 : Addr} {od0 an0 : Option Addr} {sl0 : Array (Option Value)} {oc0 kV0 dc0 pm0 cd0 ct0 : Value}
    {f1 : Addr} {od1 an1 : Option Addr} {sl1 : Array (Option Value)} {oc1 kV1 dc1 pm1 cd1 ct1 : Value}
    {f2 : Addr} {od2 an2 : Option Addr} {sl2 : Array (Option Value)} {oc2 kV2 dc2 pm2 cd2 ct2 : Value}
    {f3 : Addr} {od3 an3 : Option Addr} {sl3 : Array (Option Value)} {oc3 kV3 dc3 pm3 cd3 ct3 : Value}
    {f4 : Addr} {od4 an4 : Option Addr} {sl4 : Array (Option Value)} {oc4 kV4 dc4 pm4 cd4 ct4 : Value}
    {f5 : Addr} {od5 an5 : Option Addr} {sl5 : Array (Option Value)} {oc5 kV5 dc5 pm5 cd5 ct5 : Value}
    {f6 : Addr} {od6 an6 : Option Addr} {sl6 : Array (Option Value)} {oc6 kV6 dc6 pm6 cd6 ct6 : Value}
    {f7 : Addr} {od7 an7 : Option Addr} {sl7 : Array (Option Value)} {oc7 kV7 dc7 pm7 cd7 ct7 : Value}
    {f8 : Addr} {od8 an8 : Option Addr} {sl8 : Array (Option Value)} {oc8 kV8 dc8 pm8 cd8 ct8 : Value}
    {f9 : Addr} {od9 an9 : Option Addr} {sl9 : Array (Option Value)} {oc9 kV9 dc9 pm9 cd9 ct9 : Value}
    {f10 : Addr} {od10 an10 : Option Addr} {sl10 : Array (Option Value)} {oc10 kV10 dc10 pm10 cd10 ct10 : Value}
    {f11 : Addr} {od11 an11 : Option Addr} {sl11 : Array (Option Value)} {oc11 kV11 dc11 pm11 cd11 ct11 : Value}
    {f12 : Addr} {od12 an12 : Option Addr} {sl12 : Array (Option Value)} {oc12 kV12 dc12 pm12 cd12 ct12 : Value}
    {f13 : Addr} {od13 an13 : Option Addr} {sl13 : Array (Option Value)} {oc13 kV13 dc13 pm13 cd13 ct13 : Value}
    {f14 : Addr} {od14 an14 : Option Addr} {sl14 : Array (Option Value)} {oc14 kV14 dc14 pm14 cd14 ct14 : Value}
    {C_Path : Addr} (aC_Path : PySem.W.nsIn K mainGlobals "Path" = some (some (.ref C_Path))) (pg_Path : PySem.W.plainGet K C_Path Str.empty = true) (hd_Path : PySem.W.hasDictIn K C_Path = true) (po_Path : PySem.W.plainOver K C_Path = true) (sa_Path : PySem.W.findIn K (.ref C_Path) "__setattr__" = some (some (.builtin "object.__setattr__"))) (mk_Path : PySem.W.makesIn K C_Path = true) (kc_Path : PySem.W.keepIn K (.ref C_Path) = true)
    (nA_Path_parts : PySem.W.findIn K (.ref C_Path) "parts" = some none)
    (a0 : PySem.W.nsIn K mainGlobals "copied" = some (some (.ref f0))) (l0 : K.lookup f0 = some ⟨oc0, od0, .func (PySem.W.fnOf "copied" "copied" (defArgs s_copied) (defBody s_copied) (defScope s_copied) .none kV0 dc0 pm0 an0 cd0 ct0), sl0⟩) (c0 : PySem.W.codeIn K cd0 "copied" = true) (k0 : PySem.W.keepIn K (.ref f0) = true)
    (a1 : PySem.W.findIn K (.ref C_Path) "__init__" = some (some (.ref f1))) (i1 : PySem.W.isFn K (.ref f1) = true) (l1 : K.lookup f1 = some ⟨oc1, od1, .func (PySem.W.fnOf "__init__" "Path.__init__" (defArgs s_Path___init__) (defBody s_Path___init__) (defScope s_Path___init__) .none kV1 dc1 pm1 an1 cd1 ct1), sl1⟩) (c1 : PySem.W.codeIn K cd1 "Path.__init__" = true) (k1 : PySem.W.keepIn K (.ref f1) = true)
    (a2 : PySem.W.findIn K (.ref C_Path) "curves" = some (some (.ref f2))) (i2 : PySem.W.isFn K (.ref f2) = true) (l2 : K.lookup f2 = some ⟨oc2, od2, .func (PySem.W.fnOf "curves" "Path.curves" (defArgs s_Path_curves) (defBody s_Path_curves) (defScope s_Path_curves) .none kV2 dc2 pm2 an2 cd2 ct2), sl2⟩) (c2 : PySem.W.codeIn K cd2 "Path.curves" = true) (k2 : PySem.W.keepIn K (.ref f2) = true)
    (a3 : PySem.W.nsIn K mainGlobals "_law_share" = some (some (.ref f3))) (l3 : K.lookup f3 = some ⟨oc3, od3, .func (PySem.W.fnOf "_law_share" "_law_share" (defArgs s_l_share) (defBody s_l_share) (defScope s_l_share) .none kV3 dc3 pm3 an3 cd3 ct3), sl3⟩) (c3 : PySem.W.codeIn K cd3 "_law_share" = true) (k3 : PySem.W.keepIn K (.ref f3) = true)
    (a4 : PySem.W.nsIn K mainGlobals "_law_handed" = some (some (.ref f4))) (l4 : K.lookup f4 = some ⟨oc4, od4, .func (PySem.W.fnOf "_law_handed" "_law_handed" (defArgs s_l_handed) (defBody s_l_handed) (defScope s_l_handed) .none kV4 dc4 pm4 an4 cd4 ct4), sl4⟩) (c4 : PySem.W.codeIn K cd4 "_law_handed" = true) (k4 : PySem.W.keepIn K (.ref f4) = true)
    (a5 : PySem.W.nsIn K mainGlobals "_law_all_handed" = some (some (.ref f5))) (l5 : K.lookup f5 = some ⟨oc5, od5, .func (PySem.W.fnOf "_law_all_handed" "_law_all_handed" (defArgs s_l_all_handed) (defBody s_l_all_handed) (defScope s_l_all_handed) .none kV5 dc5 pm5 an5 cd5 ct5), sl5⟩) (c5 : PySem.W.codeIn K cd5 "_law_all_handed" = true) (k5 : PySem.W.keepIn K (.ref f5) = true)
    (a6 : PySem.W.nsIn K mainGlobals "_law_stream" = some (some (.ref f6))) (l6 : K.lookup f6 = some ⟨oc6, od6, .func (PySem.W.fnOf "_law_stream" "_law_stream" (defArgs s_l_stream) (defBody s_l_stream) (defScope s_l_stream) .none kV6 dc6 pm6 an6 cd6 ct6), sl6⟩) (c6 : PySem.W.codeIn K cd6 "_law_stream" = true) (k6 : PySem.W.keepIn K (.ref f6) = true)
    (a7 : PySem.W.nsIn K mainGlobals "_law_aside" = some (some (.ref f7))) (l7 : K.lookup f7 = some ⟨oc7, od7, .func (PySem.W.fnOf "_law_aside" "_law_aside" (defArgs s_l_aside) (defBody s_l_aside) (defScope s_l_aside) .none kV7 dc7 pm7 an7 cd7 ct7), sl7⟩) (c7 : PySem.W.codeIn K cd7 "_law_aside" = true) (k7 : PySem.W.keepIn K (.ref f7) = true)
    (a8 : PySem.W.nsIn K mainGlobals "_law_cell_at" = some (some (.ref f8))) (l8 : K.lookup f8 = some ⟨oc8, od8, .func (PySem.W.fnOf "_law_cell_at" "_law_cell_at" (defArgs s_l_cell_at) (defBody s_l_cell_at) (defScope s_l_cell_at) .none kV8 dc8 pm8 an8 cd8 ct8), sl8⟩) (c8 : PySem.W.codeIn K cd8 "_law_cell_at" = true) (k8 : PySem.W.keepIn K (.ref f8) = true)
    (a9 : PySem.W.nsIn K mainGlobals "_law_place" = some (some (.ref f9))) (l9 : K.lookup f9 = some ⟨oc9, od9, .func (PySem.W.fnOf "_law_place" "_law_place" (defArgs s_l_place) (defBody s_l_place) (defScope s_l_place) .none kV9 dc9 pm9 an9 cd9 ct9), sl9⟩) (c9 : PySem.W.codeIn K cd9 "_law_place" = true) (k9 : PySem.W.keepIn K (.ref f9) = true)
    (a10 : PySem.W.nsIn K mainGlobals "_law_seats" = some (some (.ref f10))) (l10 : K.lookup f10 = some ⟨oc10, od10, .func (PySem.W.fnOf "_law_seats" "_law_seats" (defArgs s_l_seats) (defBody s_l_seats) (defScope s_l_seats) .none kV10 dc10 pm10 an10 cd10 ct10), sl10⟩) (c10 : PySem.W.codeIn K cd10 "_law_seats" = true) (k10 : PySem.W.keepIn K (.ref f10) = true)
    (a11 : PySem.W.nsIn K mainGlobals "_law_way" = some (some (.ref f11))) (l11 : K.lookup f11 = some ⟨oc11, od11, .func (PySem.W.fnOf "_law_way" "_law_way" (defArgs s_l_way) (defBody s_l_way) (defScope s_l_way) .none kV11 dc11 pm11 an11 cd11 ct11), sl11⟩) (c11 : PySem.W.codeIn K cd11 "_law_way" = true) (k11 : PySem.W.keepIn K (.ref f11) = true)
    (a12 : PySem.W.nsIn K mainGlobals "_law_path" = some (some (.ref f12))) (l12 : K.lookup f12 = some ⟨oc12, od12, .func (PySem.W.fnOf "_law_path" "_law_path" (defArgs s_l_path) (defBody s_l_path) (defScope s_l_path) .none kV12 dc12 pm12 an12 cd12 ct12), sl12⟩) (c12 : PySem.W.codeIn K cd12 "_law_path" = true) (k12 : PySem.W.keepIn K (.ref f12) = true)
    (a13 : PySem.W.nsIn K mainGlobals "_law_refused" = some (some (.ref f13))) (l13 : K.lookup f13 = some ⟨oc13, od13, .func (PySem.W.fnOf "_law_refused" "_law_refused" (defArgs s_l_refused) (defBody s_l_refused) (defScope s_l_refused) .none kV13 dc13 pm13 an13 cd13 ct13), sl13⟩) (c13 : PySem.W.codeIn K cd13 "_law_refused" = true) (k13 : PySem.W.keepIn K (.ref f13) = true)
    (a14 : PySem.W.nsIn K mainGlobals "law" = some (some (.ref f14))) (l14 : K.lookup f14 = some ⟨oc14, od14, .func (PySem.W.fnOf "law" "law" (defArgs s_law) (defBody s_law) (defScope s_law) .none kV14 dc14 pm14 an14 cd14 ct14), sl14⟩) (c14 : PySem.W.codeIn K cd14 "law" = true) (k14 : PySem.W.keepIn K (.ref f14) = true)
    (z_len : PySem.W.nsIn K mainGlobals "len" = some none)
    (z_abs : PySem.W.nsIn K mainGlobals "abs" = some none)
    (z_range : PySem.W.nsIn K mainGlobals "range" = some none)
    (z_max : PySem.W.nsIn K mainGlobals "max" = some none)
    (z_min : PySem.W.nsIn K mainGlobals "min" = some none)
    (z_any : PySem.W.nsIn K mainGlobals "any" = some none)
    (z_all : PySem.W.nsIn K mainGlobals "all" = some none)
    (z_sum : PySem.W.nsIn K mainGlobals "sum" = some none)
    (z_isinstance : PySem.W.nsIn K mainGlobals "isinstance" = some none)
    (z_int : PySem.W.nsIn K mainGlobals "int" = some none)
    (z_bool : PySem.W.nsIn K mainGlobals "bool" = some none)
    (z_tuple : PySem.W.nsIn K mainGlobals "tuple" = some none)
    (z_list : PySem.W.nsIn K mainGlobals "list" = some none)
    (z_str : PySem.W.nsIn K mainGlobals "str" = some none)
    (z_ValueError : PySem.W.nsIn K mainGlobals "ValueError" = some none)
    (z_zip : PySem.W.nsIn K mainGlobals "zip" = some none)
    (z_reversed : PySem.W.nsIn K mainGlobals "reversed" = some none)
    (z_enumerate : PySem.W.nsIn K mainGlobals "enumerate" = some none)
    (z_sorted : PySem.W.nsIn K mainGlobals "sorted" = some none)
    (z_dict : PySem.W.nsIn K mainGlobals "dict" = some none)
    {C_SeatError C_NoJoin C_NoShare C_NoLower C_NoMap C_NoPlace C_TooMany C_NoText C_NoName : Addr}
    (a_SeatError : PySem.W.nsIn K mainGlobals "SeatError" = some (some (.ref C_SeatError)))
    (a_NoJoin : PySem.W.nsIn K mainGlobals "NoJoin" = some (some (.ref C_NoJoin)))
    (a_NoShare : PySem.W.nsIn K mainGlobals "NoShare" = some (some (.ref C_NoShare)))
    (a_NoLower : PySem.W.nsIn K mainGlobals "NoLower" = some (some (.ref C_NoLower)))
    (a_NoMap : PySem.W.nsIn K mainGlobals "NoMap" = some (some (.ref C_NoMap)))
    (a_NoPlace : PySem.W.nsIn K mainGlobals "NoPlace" = some (some (.ref C_NoPlace)))
    (a_TooMany : PySem.W.nsIn K mainGlobals "TooMany" = some (some (.ref C_TooMany)))
    (a_NoText : PySem.W.nsIn K mainGlobals "NoText" = some (some (.ref C_NoText)))
    (a_NoName : PySem.W.nsIn K mainGlobals "NoName" = some (some (.ref C_NoName)))
    {nm_NoJoin q_NoJoin : Str} {N_NoJoin : Addr} {bs_NoJoin bm_NoJoin : List Value} {hd_NoJoin : Bool} {sn_NoJoin : List Str} {sub_NoJoin : List Value} {ab_NoJoin : Bool} {col_NoJoin : Option Bool} {dd_NoJoin : Option Addr} {k0_NoJoin k1_NoJoin k2_NoJoin k3_NoJoin k5_NoJoin : Option Value}
    (l_NoJoin : K.lookup C_NoJoin = some (excClassObj nm_NoJoin q_NoJoin C_NoJoin N_NoJoin bs_NoJoin bm_NoJoin hd_NoJoin sn_NoJoin sub_NoJoin ab_NoJoin col_NoJoin dd_NoJoin k0_NoJoin k1_NoJoin k2_NoJoin k3_NoJoin k5_NoJoin "ValueError.__new__"))
    (n_NoJoin : PySem.W.nsOkIn K N_NoJoin = true) (i_NoJoin : PySem.W.nsIn K N_NoJoin "__init__" = some none) (t_NoJoin : PySem.W.tailIn K mroV bm_NoJoin = true)
    (m_NoJoin : PySem.W.exmOne K (.ref C_NoJoin) (.ref C_SeatError) = some true) (v_NoJoin : PySem.W.kitOne K (.ref C_NoJoin) (.type "ValueError") = some true)
    (xhg_NoJoin : PySem.W.findIn K (.ref C_NoJoin) "__getattribute__" = some (some (.builtin "BaseException.__getattribute__")))
    (xhk_NoJoin : PySem.W.findIn K (.ref C_NoJoin) "__getattr__" = some none)
    (xhd_NoJoin : (PySem.W.clsIn K C_NoJoin).isSome = true)
    (xha_NoJoin : PySem.W.findIn K (.ref C_NoJoin) "__class__" = some (some (.builtin "object.__class__")))
    (xhn_NoJoin : PySem.W.specialIn K (.builtin "object.__class__") "__get__" = some (some (.builtin "getset_descriptor.__get__")))
    (xht_NoJoin : PySem.W.takesIn K (.builtin "object.__class__") = some true)
    (xhm_NoJoin : PySem.W.mroIn K C_NoJoin (.type "object") = some true)
    (xhb_NoJoin : PySem.W.mroIn K C_NoJoin (.type "BaseException") = some true)
    (v_NoJoin_NoShare : PySem.W.kitOne K (.ref C_NoJoin) (.ref C_NoShare) = some false)
    (v_NoJoin_NoLower : PySem.W.kitOne K (.ref C_NoJoin) (.ref C_NoLower) = some false)
    (v_NoJoin_NoMap : PySem.W.kitOne K (.ref C_NoJoin) (.ref C_NoMap) = some false)
    (v_NoJoin_NoPlace : PySem.W.kitOne K (.ref C_NoJoin) (.ref C_NoPlace) = some false)
    (v_NoJoin_TooMany : PySem.W.kitOne K (.ref C_NoJoin) (.ref C_TooMany) = some false)
    (v_NoJoin_NoText : PySem.W.kitOne K (.ref C_NoJoin) (.ref C_NoText) = some false)
    (v_NoJoin_NoName : PySem.W.kitOne K (.ref C_NoJoin) (.ref C_NoName) = some false)
    {t_MOST_CURVES : Tok} (a_MOST_CURVES : PySem.W.nsIn K mainGlobals "MOST_CURVES" = some (some (.int 12 t_MOST_CURVES)))
    : ∃ fd : FuncData, (∀ (s : Shared) (v : Value), BindsTo s fd ⟨[v], []⟩ [("_law_script", v)]) ∧ ∀ (P : Program) (base : Heap), K.In base → base.Ns mainGlobals mg → FnOk P w K mg base CX0 5 fa fd ["_law_script"] ((spLaw K)) := by
  have e := hfa.symm.trans (PySem.W.mg_of KX GN a14)
  cases e
  have B : Blt mg := ⟨PySem.W.mg_none_of KX GN z_len, PySem.W.mg_none_of KX GN z_abs, PySem.W.mg_none_of KX GN z_range, PySem.W.mg_none_of KX GN z_max, PySem.W.mg_none_of KX GN z_min, PySem.W.mg_none_of KX GN z_any, PySem.W.mg_none_of KX GN z_all, PySem.W.mg_none_of KX GN z_sum, PySem.W.mg_none_of KX GN z_isinstance, PySem.W.mg_none_of KX GN z_int, PySem.W.mg_none_of KX GN z_bool, PySem.W.mg_none_of KX GN z_tuple, PySem.W.mg_none_of KX GN z_list, PySem.W.mg_none_of KX GN z_str, PySem.W.mg_none_of KX GN z_ValueError, PySem.W.mg_none_of KX GN z_zip, PySem.W.mg_none_of KX GN z_reversed, PySem.W.mg_none_of KX GN z_enumerate, PySem.W.mg_none_of KX GN z_sorted, PySem.W.mg_none_of KX GN z_dict⟩
  have X : Exc K mg C_SeatError C_NoJoin C_NoShare C_NoLower C_NoMap C_NoPlace C_TooMany C_NoText C_NoName := ⟨PySem.W.mg_of KX GN a_SeatError, PySem.W.mg_of KX GN a_NoJoin, PySem.W.mg_of KX GN a_NoShare, PySem.W.mg_of KX GN a_NoLower, PySem.W.mg_of KX GN a_NoMap, PySem.W.mg_of KX GN a_NoPlace, PySem.W.mg_of KX GN a_TooMany, PySem.W.mg_of KX GN a_NoText, PySem.W.mg_of KX GN a_NoName, ⟨PySem.W.mg_of KX GN a_NoJoin, _, _, _, _, _, _, _, _, _, _, _, _, _, _, _, _, l_NoJoin, n_NoJoin, i_NoJoin, t_NoJoin⟩, m_NoJoin, v_NoJoin, ⟨xhg_NoJoin, xhk_NoJoin, xhd_NoJoin, xha_NoJoin, xhn_NoJoin, xht_NoJoin, xhm_NoJoin, xhb_NoJoin⟩, v_NoJoin_NoShare, v_NoJoin_NoLower, v_NoJoin_NoMap, v_NoJoin_NoPlace, v_NoJoin_TooMany, v_NoJoin_NoText, v_NoJoin_NoName⟩
  have G : Cst K mg t_MOST_CURVES := ⟨PySem.W.mg_of KX GN a_MOST_CURVES⟩
  have T_Path : ClsK K mg "Path" C_Path := ⟨⟨pg_Path, hd_Path, po_Path, sa_Path⟩, mk_Path, kc_Path, PySem.W.mg_of KX GN aC_Path⟩
  have F0 : FunAt K mg "copied" s_copied ["curves"] := FunAt.mk' (PySem.W.mg_of KX GN a0) l0 c0 k0 fun _ _ _ _ _ _ us hl => uln1 (fun _ => rfl) us hl
  have F1 : MthAt K C_Path "__init__" "Path.__init__" s_Path___init__ ["self", "curves"] := MthAt.mk' a1 i1 l1 c1 k1 fun _ _ _ _ _ _ us hl => uln2 (fun _ _ => rfl) us hl
  have F2 : MthAt K C_Path "curves" "Path.curves" s_Path_curves ["self"] := MthAt.mk' a2 i2 l2 c2 k2 fun _ _ _ _ _ _ us hl => uln1 (fun _ => rfl) us hl
  have F3 : FunAt K mg "_law_share" s_l_share ["_law_top", "_law_bottom"] := FunAt.mk' (PySem.W.mg_of KX GN a3) l3 c3 k3 fun _ _ _ _ _ _ us hl => uln2 (fun _ _ => rfl) us hl
  have F4 : FunAt K mg "_law_handed" s_l_handed ["_law_places", "_law_bottom"] := FunAt.mk' (PySem.W.mg_of KX GN a4) l4 c4 k4 fun _ _ _ _ _ _ us hl => uln2 (fun _ _ => rfl) us hl
  have F5 : FunAt K mg "_law_all_handed" s_l_all_handed ["_law_curves", "_law_bottom"] := FunAt.mk' (PySem.W.mg_of KX GN a5) l5 c5 k5 fun _ _ _ _ _ _ us hl => uln2 (fun _ _ => rfl) us hl
  have F6 : FunAt K mg "_law_stream" s_l_stream ["_law_cell", "_law_many"] := FunAt.mk' (PySem.W.mg_of KX GN a6) l6 c6 k6 fun _ _ _ _ _ _ us hl => uln2 (fun _ _ => rfl) us hl
  have F7 : FunAt K mg "_law_aside" s_l_aside ["_law_curves", "_law_cell"] := FunAt.mk' (PySem.W.mg_of KX GN a7) l7 c7 k7 fun _ _ _ _ _ _ us hl => uln2 (fun _ _ => rfl) us hl
  have F8 : FunAt K mg "_law_cell_at" s_l_cell_at ["_law_script", "_law_k"] := FunAt.mk' (PySem.W.mg_of KX GN a8) l8 c8 k8 fun _ _ _ _ _ _ us hl => uln2 (fun _ _ => rfl) us hl
  have F9 : FunAt K mg "_law_place" s_l_place ["_law_cell", "_law_way_here"] := FunAt.mk' (PySem.W.mg_of KX GN a9) l9 c9 k9 fun _ _ _ _ _ _ us hl => uln2 (fun _ _ => rfl) us hl
  have F10 : FunAt K mg "_law_seats" s_l_seats ["_law_cell", "_law_many", "_law_way_here"] := FunAt.mk' (PySem.W.mg_of KX GN a10) l10 c10 k10 fun _ _ _ _ _ _ us hl => uln3 (fun _ _ _ => rfl) us hl
  have F11 : FunAt K mg "_law_way" s_l_way ["_law_cell"] := FunAt.mk' (PySem.W.mg_of KX GN a11) l11 c11 k11 fun _ _ _ _ _ _ us hl => uln1 (fun _ => rfl) us hl
  have F12 : FunAt K mg "_law_path" s_l_path ["_law_script"] := FunAt.mk' (PySem.W.mg_of KX GN a12) l12 c12 k12 fun _ _ _ _ _ _ us hl => uln1 (fun _ => rfl) us hl
  have F13 : FunAt K mg "_law_refused" s_l_refused ["_law_curves"] := FunAt.mk' (PySem.W.mg_of KX GN a13) l13 c13 k13 fun _ _ _ _ _ _ us hl => uln1 (fun _ => rfl) us hl
  have F14 : FunAt K mg "law" s_law ["_law_script"] := FunAt.mk' (PySem.W.mg_of KX GN a14) l14 c14 k14 fun _ _ _ _ _ _ us hl => uln1 (fun _ => rfl) us hl
  refine ⟨PySem.W.fnOf "law" "law" (defArgs s_law) (defBody s_law) (defScope s_law) .none kV14 dc14 pm14 an14 cd14 ct14, fun s v => .of_eq rfl, fun P base _ _ => ?_⟩
  have D0 : DefOk P w K mg base CX0 1 "copied" ["curves"] (spCopied K) := ok_copied T_Path nA_Path_parts F0 B X G
  have D1 : MthOk P w K mg base (CXx P w) 2 C_Path "__init__" ["self", "curves"] (spInit K C_Path C_NoJoin) := ok_Path___init__ T_Path nA_Path_parts F1 B X G D0
  have D2 : MthOk P w K mg base CX0 2 C_Path "curves" ["self"] (spCurves K C_Path) := ok_Path_curves T_Path nA_Path_parts F2 B X G D0
  have D3 : DefOk P w K mg base CX0 1 "_law_share" ["_law_top", "_law_bottom"] spLShare := ok_l_share T_Path nA_Path_parts F3 B X G
  have D4 : DefOk P w K mg base CX0 2 "_law_handed" ["_law_places", "_law_bottom"] (spHanded K) := ok_l_handed T_Path nA_Path_parts F4 B X G D3
  have D5 : DefOk P w K mg base CX0 3 "_law_all_handed" ["_law_curves", "_law_bottom"] (spAllH K) := ok_l_all_handed T_Path nA_Path_parts F5 B X G D4
  have D6 : DefOk P w K mg base CX0 1 "_law_stream" ["_law_cell", "_law_many"] spStreamC := ok_l_stream T_Path nA_Path_parts F6 B X G
  have D7 : DefOk P w K mg base CX0 2 "_law_aside" ["_law_curves", "_law_cell"] (spAside K) := ok_l_aside T_Path nA_Path_parts F7 B X G D6
  have D8 : DefOk P w K mg base CX0 1 "_law_cell_at" ["_law_script", "_law_k"] (spCell K) := ok_l_cell_at T_Path nA_Path_parts F8 B X G
  have D9 : DefOk P w K mg base CX0 2 "_law_place" ["_law_cell", "_law_way_here"] spPlace := ok_l_place T_Path nA_Path_parts F9 B X G D6
  have D10 : DefOk P w K mg base CX0 3 "_law_seats" ["_law_cell", "_law_many", "_law_way_here"] (spPSeats K) := ok_l_seats T_Path nA_Path_parts F10 B X G D6 D9
  have D11 : DefOk P w K mg base CX0 2 "_law_way" ["_law_cell"] spWay := ok_l_way T_Path nA_Path_parts F11 B X G D6
  have D12 : DefOk P w K mg base CX0 4 "_law_path" ["_law_script"] (spPath K) := ok_l_path T_Path nA_Path_parts F12 B X G D6 D8 D9 D10 D11
  have D13 : DefOk P w K mg base CX0 4 "_law_refused" ["_law_curves"] (spRefP K) := ok_l_refused T_Path nA_Path_parts F13 B X G D1
  have D14 : DefOk P w K mg base CX0 5 "law" ["_law_script"] (spLaw K) := ok_law T_Path nA_Path_parts F14 B X G D1 D2 D5 D7 D8 D12 D13
  exact D14.law l14 (PySem.W.mg_of KX GN a14)
end Cv
open PySem PySem.W PyProof.Rows
set_option maxHeartbeats 0 in
theorem PySem.Challenge.cw_curveseat_k73_paths_joined_holds : PySem.Challenge.rw_curveseat_k73_paths_joined.Holds := by
  w_on; o_law; k_head; (case hw => w_witness2)
  k_fill
  refine Cv.walk (l := PySem.Challenge.rw_curveseat_k73_paths_joined) (k := 5) (x := "_law_script") (CX := L2.CX0) (sp := fun K => (Cv.spLaw K)) rfl rfl ⟨rfl, by decide, by decide⟩ (fun w h Y => PySem.W.kIn_of Y) ?F (fun K H a ns h1 h2 h3 => ⟨a, ns, rfl, h3, h1, fun _ => rfl⟩) (fun _ _ _ _ z => z)
  case F =>
    intro w mg fa h KX G hmg
    refine' Cv.all_mk KX G hmg ?aC_Path ?pg_Path ?hd_Path ?po_Path ?sa_Path ?mk_Path ?kc_Path ?nA_Path_parts ?a0 ?l0 ?c0 ?k0 ?a1 ?i1 ?l1 ?c1 ?k1 ?a2 ?i2 ?l2 ?c2 ?k2 ?a3 ?l3 ?c3 ?k3 ?a4 ?l4 ?c4 ?k4 ?a5 ?l5 ?c5 ?k5 ?a6 ?l6 ?c6 ?k6 ?a7 ?l7 ?c7 ?k7 ?a8 ?l8 ?c8 ?k8 ?a9 ?l9 ?c9 ?k9 ?a10 ?l10 ?c10 ?k10 ?a11 ?l11 ?c11 ?k11 ?a12 ?l12 ?c12 ?k12 ?a13 ?l13 ?c13 ?k13 ?a14 ?l14 ?c14 ?k14 ?z_len ?z_abs ?z_range ?z_max ?z_min ?z_any ?z_all ?z_sum ?z_isinstance ?z_int ?z_bool ?z_tuple ?z_list ?z_str ?z_ValueError ?z_zip ?z_reversed ?z_enumerate ?z_sorted ?z_dict ?a_SeatError ?a_NoJoin ?a_NoShare ?a_NoLower ?a_NoMap ?a_NoPlace ?a_TooMany ?a_NoText ?a_NoName ?l_NoJoin ?n_NoJoin ?i_NoJoin ?t_NoJoin ?m_NoJoin ?v_NoJoin ?xhg_NoJoin ?xhk_NoJoin ?xhd_NoJoin ?xha_NoJoin ?xhn_NoJoin ?xht_NoJoin ?xhm_NoJoin ?xhb_NoJoin ?v_NoJoin_NoShare ?v_NoJoin_NoLower ?v_NoJoin_NoMap ?v_NoJoin_NoPlace ?v_NoJoin_TooMany ?v_NoJoin_NoText ?v_NoJoin_NoName ?a_MOST_CURVES
    (case aC_Path => k_is)
    (case pg_Path => k_is)
    (case hd_Path => k_is)
    (case po_Path => k_is)
    (case sa_Path => k_is)
    (case mk_Path => k_is)
    (case kc_Path => k_is)
    (case nA_Path_parts => k_is)
    (case a0 => k_is)
    (case l0 => k_is)
    (case c0 => k_is)
    (case k0 => k_is)
    (case a1 => k_is)
    (case i1 => k_is)
    (case l1 => k_is)
    (case c1 => k_is)
    (case k1 => k_is)
    (case a2 => k_is)
    (case i2 => k_is)
    (case l2 => k_is)
    (case c2 => k_is)
    (case k2 => k_is)
    (case a3 => k_is)
    (case l3 => k_is)
    (case c3 => k_is)
    (case k3 => k_is)
    (case a4 => k_is)
    (case l4 => k_is)
    (case c4 => k_is)
    (case k4 => k_is)
    (case a5 => k_is)
    (case l5 => k_is)
    (case c5 => k_is)
    (case k5 => k_is)
    (case a6 => k_is)
    (case l6 => k_is)
    (case c6 => k_is)
    (case k6 => k_is)
    (case a7 => k_is)
    (case l7 => k_is)
    (case c7 => k_is)
    (case k7 => k_is)
    (case a8 => k_is)
    (case l8 => k_is)
    (case c8 => k_is)
    (case k8 => k_is)
    (case a9 => k_is)
    (case l9 => k_is)
    (case c9 => k_is)
    (case k9 => k_is)
    (case a10 => k_is)
    (case l10 => k_is)
    (case c10 => k_is)
    (case k10 => k_is)
    (case a11 => k_is)
    (case l11 => k_is)
    (case c11 => k_is)
    (case k11 => k_is)
    (case a12 => k_is)
    (case l12 => k_is)
    (case c12 => k_is)
    (case k12 => k_is)
    (case a13 => k_is)
    (case l13 => k_is)
    (case c13 => k_is)
    (case k13 => k_is)
    (case a14 => k_is)
    (case l14 => k_is)
    (case c14 => k_is)
    (case k14 => k_is)
    (case z_len => k_is)
    (case z_abs => k_is)
    (case z_range => k_is)
    (case z_max => k_is)
    (case z_min => k_is)
    (case z_any => k_is)
    (case z_all => k_is)
    (case z_sum => k_is)
    (case z_isinstance => k_is)
    (case z_int => k_is)
    (case z_bool => k_is)
    (case z_tuple => k_is)
    (case z_list => k_is)
    (case z_str => k_is)
    (case z_ValueError => k_is)
    (case z_zip => k_is)
    (case z_reversed => k_is)
    (case z_enumerate => k_is)
    (case z_sorted => k_is)
    (case z_dict => k_is)
    (case a_SeatError => k_is)
    (case a_NoJoin => k_is)
    (case a_NoShare => k_is)
    (case a_NoLower => k_is)
    (case a_NoMap => k_is)
    (case a_NoPlace => k_is)
    (case a_TooMany => k_is)
    (case a_NoText => k_is)
    (case a_NoName => k_is)
    (case l_NoJoin => k_is)
    (case n_NoJoin => kernel_rfl)
    (case i_NoJoin => k_is)
    (case t_NoJoin => kernel_rfl)
    (case m_NoJoin => kts_exm)
    (case v_NoJoin => kit_is)
    (case xhg_NoJoin => k_is)
    (case xhk_NoJoin => k_is)
    (case xhd_NoJoin => kernel_rfl)
    (case xha_NoJoin => k_is)
    (case xhn_NoJoin => k_is)
    (case xht_NoJoin => k_is)
    (case xhm_NoJoin => k_is)
    (case xhb_NoJoin => k_is)
    (case v_NoJoin_NoShare => kit_is)
    (case v_NoJoin_NoLower => kit_is)
    (case v_NoJoin_NoMap => kit_is)
    (case v_NoJoin_NoPlace => kit_is)
    (case v_NoJoin_TooMany => kit_is)
    (case v_NoJoin_NoText => kit_is)
    (case v_NoJoin_NoName => kit_is)
    (case a_MOST_CURVES => k_is)
#print axioms PySem.Challenge.cw_curveseat_k73_paths_joined_holds
