import PyProof.Rows.All
import Wide.All
import OpenK.AllK
import Wide.FinOn
import Lean
import PyProof.EqAt
import PyProof.EqKinds
import PyProof.TupleCall
import PySem.Challenge.RW_curveseat_k72_through
set_option Elab.async false
set_option linter.all false
set_option maxRecDepth 100000
/-! THE HAND LAYER, for ints, bools, texts, own classes, LISTS and tuples (index, slices, in, append, pop ..), calls, loops. Paste it whole ahead of your own text; what your proof does not reach may be deleted. -/
namespace L2
open PySem PySem.Spec PyProof.Rows

/-- a key: an int or a str -/
noncomputable abbrev Key := Sum Int Str
noncomputable def keyIs : Key → Value → Bool
  | .inl k, v => Value.isInt k v
  | .inr x, v => Value.isStrOf x v
noncomputable def keyH (w : World) : Key → Int
  | .inl k => hashInt k
  | .inr x => hashStr w x
theorem keyIs_shape : ∀ {k : Key} {v : Value}, keyIs k v = true → (∃ i t, k = Sum.inl i ∧ v = Value.int i t) ∨ (∃ x t, k = Sum.inr x ∧ v = Value.str x t)
  | .inl i, v, h => by
    obtain ⟨t, e⟩ := Value.isInt_shape (k := i) (v := v) h
    exact .inl ⟨i, t, rfl, e⟩
  | .inr x, v, h => by
    obtain ⟨t, e⟩ := Value.isStrOf_shape (x := x) (v := v) h
    exact .inr ⟨x, t, rfl, e⟩
theorem key_ll (a b : Int) : decide ((Sum.inl a : Key) = Sum.inl b) = (a == b) := by
  by_cases e : a = b
  · subst e; simp
  · have h : ¬ (Sum.inl a : Key) = Sum.inl b := fun q => e (Sum.inl.inj q)
    rw [decide_eq_false h]
    exact (beq_eq_false_iff_ne.mpr e).symm
theorem key_rr (a b : Str) : decide ((Sum.inr a : Key) = Sum.inr b) = decide (a = b) := by
  by_cases e : a = b
  · subst e; simp
  · have h : ¬ (Sum.inr a : Key) = Sum.inr b := fun q => e (Sum.inr.inj q)
    rw [decide_eq_false h, decide_eq_false e]
theorem key_lr (a : Int) (b : Str) : decide ((Sum.inl a : Key) = Sum.inr b) = false := decide_eq_false (fun q => nomatch q)
theorem key_rl (a : Str) (b : Int) : decide ((Sum.inr a : Key) = Sum.inl b) = false := decide_eq_false (fun q => nomatch q)

noncomputable def mixKind (prog : Program) (w : World) : PySem.KeyKind prog w Key where
  is := keyIs
  hash := keyH w
  inj := fun v a b ha hb => by
    rcases keyIs_shape ha with ⟨i, t, rfl, rfl⟩ | ⟨x, t, rfl, rfl⟩
    · rcases keyIs_shape hb with ⟨j, u, rfl, e⟩ | ⟨y, u, rfl, e⟩
      · injection e with e1 _; rw [e1]
      · exact nomatch e
    · rcases keyIs_shape hb with ⟨j, u, rfl, e⟩ | ⟨y, u, rfl, e⟩
      · exact nomatch e
      · injection e with e1 _; rw [e1]
  byValue := fun k v h => by
    rcases keyIs_shape h with ⟨i, t, rfl, rfl⟩ | ⟨x, t, rfl, rfl⟩ <;> rfl
  pyHash := fun hv h => by
    rcases keyIs_shape hv with ⟨i, t, rfl, rfl⟩ | ⟨x, t, rfl, rfl⟩
    · exact wpAny_pyHash_int h
    · exact wpAny_pyHash_str h
  eqBool := fun hu hv h => by
    rcases keyIs_shape hu with ⟨i, t, rfl, rfl⟩ | ⟨x, t, rfl, rfl⟩
    · rcases keyIs_shape hv with ⟨j, u, rfl, rfl⟩ | ⟨y, u, rfl, rfl⟩
      · rw [key_ll] at h; exact wpAny_eqBool_int h
      · rw [key_lr] at h; exact SeqAt.EqAt.int_str i t y u _ _ _ _ h
    · rcases keyIs_shape hv with ⟨j, u, rfl, rfl⟩ | ⟨y, u, rfl, rfl⟩
      · rw [key_rl] at h; exact SeqAt.EqAt.str_int x t j u _ _ _ _ h
      · rw [key_rr] at h; exact wpAny_eqBool_str h
  «strs» := fun k x t v h => by
    rcases keyIs_shape h with ⟨i, u, rfl, e⟩ | ⟨y, u, rfl, e⟩
    · exact nomatch e
    · injection e with e1 _
      subst e1
      cases v <;> rfl

end L2

namespace L2
open PySem PySem.Spec PyProof.Rows

/-- a value, without the heap -/
inductive V where
  | non | bl (b : Bool) | int (i : Int) | str (x : Str) | byt (b : Array UInt8) | flt (b : UInt64) | ref (a : Addr) | ty (n : String)
  deriving DecidableEq

noncomputable def RelV : V → Value → Prop
  | .non, u => u = Value.none
  | .bl b, u => u = Value.bool b
  | .int i, u => ∃ t, u = Value.int i t
  | .str x, u => ∃ t, u = Value.str x t
  | .byt b, u => ∃ t, u = Value.bytes b t
  | .flt b, u => ∃ t, u = Value.float b t
  | .ref a, u => u = Value.ref a
  | .ty n, u => u = Value.type n

noncomputable abbrev Vals : List V → List Value → Prop := Paired RelV
theorem Vals.length {xs : List V} {us : List Value} (r : Vals xs us) : xs.length = us.length := Paired.length r
theorem Vals.get : ∀ {xs : List V} {us : List Value} {i : Nat} {x : V}, Vals xs us → xs[i]? = some x → ∃ u, us[i]? = some u ∧ RelV x u
  | _, _, _, _, .nil, e => by simp at e
  | _, _, 0, _, .cons r _, e => by simp at e; subst e; exact ⟨_, rfl, r⟩
  | _, _, i + 1, x, .cons _ t, e => by
    obtain ⟨u, h1, h2⟩ := Vals.get (i := i) (x := x) t (by simpa using e)
    exact ⟨u, by simpa using h1, h2⟩
theorem Vals.set {x : V} {u : Value} (r : RelV x u) : ∀ {xs : List V} {us : List Value} (i : Nat), Vals xs us → Vals (xs.set i x) (us.set i u)
  | _, _, _, .nil => .nil
  | _, _, 0, .cons _ t => .cons r t
  | _, _, i + 1, .cons q t => .cons q (Vals.set r i t)
theorem Vals.append : ∀ {xs ys : List V} {us ws : List Value}, Vals xs us → Vals ys ws → Vals (xs ++ ys) (us ++ ws)
  | _, _, _, _, .nil, s => s
  | _, _, _, _, .cons r t, s => .cons r (Vals.append t s)
theorem Vals.take : ∀ {xs : List V} {us : List Value} (n : Nat), Vals xs us → Vals (xs.take n) (us.take n)
  | _, _, 0, _ => .nil
  | _, _, _ + 1, .nil => .nil
  | _, _, n + 1, .cons r t => .cons r (Vals.take n t)
theorem Vals.drop : ∀ {xs : List V} {us : List Value} (n : Nat), Vals xs us → Vals (xs.drop n) (us.drop n)
  | _, _, 0, r => r
  | _, _, _ + 1, .nil => .nil
  | _, _, n + 1, .cons _ t => Vals.drop n t
theorem Vals.none_of : ∀ {xs : List V} {us : List Value} {i : Nat}, Vals xs us → xs[i]? = none → us[i]? = none := fun {xs us i} r e => by
  have h1 := r.length
  have h2 : xs.length ≤ i := List.getElem?_eq_none_iff.mp e
  exact List.getElem?_eq_none_iff.mpr (by omega)

noncomputable def RelO : Option V → Option Value → Prop
  | some v, some u => RelV v u
  | none, none => True
  | _, _ => False
noncomputable def KV {κ : Type} : List (κ × V) → List (κ × Value) → Prop := Paired fun (p : κ × V) (q : κ × Value) => p.1 = q.1 ∧ RelV p.2 q.2

/-- a key of a dict (00_mix): an int or a text -/
noncomputable def kV : Key → V
  | .inl i => .int i
  | .inr x => .str x

/-- what stands at a tracked address -/
inductive HO where
  /-- a list -/
  | lst (xs : List V)
  /-- a tuple (never changes) -/
  | tup (xs : List V)
  /-- a dict whose keys are ints and texts; one whose keys are tuples of ints and texts (the empty one is both) -/
  | dK (kvs : List (Key × V)) | dT (kvs : List (List Key × V))
  /-- a set of ints: its members, its size -/
  | set (S : Int → Bool) (n : Nat)
  /-- an instance of the class at C, its dict at dx, its attributes -/
  | ins (C dx : Addr) (fs : List (Str × V))
  /-- the dict of the instance at x -/
  | own (x : Addr)
  /-- the dict of an exception -/
  | xd (fs : List (Str × V))
  /-- a bound method, f of x -/
  | met (f x : Addr)
  /-- a range object lo, lo + 1, .. below hi -/
  | rng (lo hi : Int)
  /-- a thing that is known to the object (the script; a dict while a loop walks it): read, never written while it is so -/
  | frz (o : Obj) (u : HO)
  /-- a code object's table -/
  | tbl (ps : Array Value)
  /-- any other thing, by what is true of its one object (a def of one's own: SetO a S n := HO.ext fun h => ..) -/
  | ext (φ : Heap → Prop)

noncomputable abbrev Hp := Addr → Option HO
noncomputable def upd (H : Hp) (a : Addr) (o : HO) : Hp := fun b => if b = a then some o else H b
theorem upd_same {H : Hp} {a : Addr} {o : HO} : upd H a o a = some o := by unfold upd; rw [if_pos rfl]
theorem upd_ne {H : Hp} {a b : Addr} {o : HO} (h : b ≠ a) : upd H a o b = H b := by unfold upd; rw [if_neg h]
/-- two objects of different content stand apart -/
theorem ne_of_none {H : Hp} {a b : Addr} {o : HO} (h : H a = some o) (h' : H b = none) : a ≠ b := by
  intro e; subst e; rw [h] at h'; cases h'

section
variable (P : Program) (w : World)
noncomputable def ObjOk (H : Hp) (h : Heap) (a : Addr) : HO → Prop
  | .lst xs => xs.length ≤ sizeLine ∧ ∃ (its : List Value) (n : Nat), Vals xs its ∧ h.get? a = some { cls := .type "list", data := .seq its.toArray n }
  | .tup xs => xs.length ≤ sizeLine ∧ ∃ its : List Value, Vals xs its ∧ IsTup h a its.toArray
  | .dK kvs => kvs.length ≤ sizeLine ∧ (a == sysModules) = false ∧ ∃ vs, KV kvs vs ∧ h.DictOf (mixKind P w) a vs
  | .dT kvs => kvs.length ≤ sizeLine ∧ (a == sysModules) = false ∧ ∃ xs : List (List Key × Addr × Value),
      Paired (fun (p : List Key × V) (q : List Key × Addr × Value) => p.1 = q.1 ∧ H q.2.1 = some (.tup (p.1.map kV)) ∧ RelV p.2 q.2.2) kvs xs ∧
      ∃ o es ep, h.get? a = some o ∧ o.ExactDict ∧ o.data = .dict es ep ∧ es.toList = xs.map (entryOfKey (tupleKind (mixKind P w))) ∧ (xs.map (·.1)).Nodup
  | .set S n => h.SetOf (intKind P w) a S n
  | .ins C dx fs => H dx = some (.own a) ∧ fs.length ≤ 1000 ∧ dx ≠ a ∧ h.get? a = some (PySem.W.instObj C dx) ∧
      ∃ mA, h.Ns1 dx mA ∧ (∀ f, RelO (fs.lookup f) (mA f)) ∧ PySem.Within mA (fs.map (·.1))
  | .own _ => ∃ o, h.get? a = some o
  | .xd fs => ∃ mA, h.Ns1 a mA ∧ ∀ f, RelO (fs.lookup f) (mA f)
  | .rng lo hi => ∃ t u v, h.get? a = some { cls := .type "range", data := .fields #[.int lo t, .int hi u, .int 1 v] }
  | .frz o u => h.get? a = some o ∧ ObjOk H h a u
  | .tbl ps => h.get? a = some { cls := .none, data := .fields ps }
  | .met f x => h.get? a = some (PySem.W.methodObj (.ref f) (.ref x))
  | .ext φ => φ h ∧ (∃ o, h.get? a = some o) ∧ ∀ h1 h2 : Heap, φ h1 → (∀ o, h1.get? a = some o → h2.get? a = some o) → φ h2
/-- the abstract heap is held -/
noncomputable def HOk (H : Hp) (h : Heap) : Prop := ∀ a o, H a = some o → ObjOk P w H h a o
end

section
variable {P : Program} {w : World} {H H' : Hp} {h h' : Heap} {a : Addr} {o : HO}
theorem ObjOk.lt (x : ObjOk P w H h a o) : a < h.objs.size := by
  cases o with
  | lst xs => obtain ⟨_, _, _, _, e⟩ := x; exact Heap.lt_size e
  | tup xs => obtain ⟨_, _, _, p⟩ := x; exact p.lt
  | dK kvs => obtain ⟨_, _, _, _, o, _, _, e, _⟩ := x; exact Heap.lt_size e
  | dT kvs => obtain ⟨_, _, _, _, o, _, _, e, _⟩ := x; exact Heap.lt_size e
  | set S n => obtain ⟨o, _, _, _, e, _⟩ := x; exact Heap.lt_size e
  | ins C dx fs => obtain ⟨_, _, _, e, _⟩ := x; exact Heap.lt_size e
  | own y => obtain ⟨_, e⟩ := x; exact Heap.lt_size e
  | xd fs => obtain ⟨_, ⟨_, _, _, e, _⟩, _⟩ := x; exact Heap.lt_size e
  | rng lo hi => obtain ⟨_, _, _, e⟩ := x; exact Heap.lt_size e
  | frz ob u => obtain ⟨e, _⟩ := x; exact Heap.lt_size e
  | tbl ps => exact Heap.lt_size (show h.get? a = some _ from x)
  | met f y => exact Heap.lt_size (show h.get? a = some _ from x)
  | ext φ => obtain ⟨_, ⟨_, e⟩, _⟩ := x; exact Heap.lt_size e
theorem Paired.mapP {α β : Type} {F G : α → β → Prop} : ∀ {l₁ : List α} {l₂ : List β}, Paired F l₁ l₂ → (∀ a b, F a b → G a b) → Paired G l₁ l₂
  | _, _, .nil, _ => .nil
  | _, _, .cons r t, f => .cons (f _ _ r) (Paired.mapP t f)
/-- what an object's description leans on: its own object, its own dict, the tuples -/
theorem ObjOk.stay (x : ObjOk P w H h a o) (k : ∀ b u, (b = a ∨ H b = some (.own a)) → h.get? b = some u → h'.get? b = some u)
    (ho : ∀ b, H b = some (.own a) → H' b = some (.own a)) (ht : ∀ b xs, H b = some (.tup xs) → H' b = some (.tup xs)) : ObjOk P w H' h' a o := by
  induction o with
  | lst xs => obtain ⟨z, its, n, r, e⟩ := x; exact ⟨z, its, n, r, k _ _ (.inl rfl) e⟩
  | tup xs => obtain ⟨z, its, r, ob, e, c⟩ := x; exact ⟨z, its, r, ob, k _ _ (.inl rfl) e, c⟩
  | dK kvs => obtain ⟨z, y, vs, r, ob, es, ep, e, c⟩ := x; exact ⟨z, y, vs, r, ob, es, ep, k _ _ (.inl rfl) e, c⟩
  | dT kvs =>
    obtain ⟨z, y, xs, r, ob, es, ep, e, c⟩ := x
    exact ⟨z, y, xs, Paired.mapP r fun p q z => ⟨z.1, ht _ _ z.2.1, z.2.2⟩, ob, es, ep, k _ _ (.inl rfl) e, c⟩
  | set S n => obtain ⟨ob, es, ep, t, e, c⟩ := x; exact ⟨ob, es, ep, t, k _ _ (.inl rfl) e, c⟩
  | ins C dx fs =>
    obtain ⟨d, z, ne, e, mA, ⟨od, es, ep, e2, c⟩, r⟩ := x
    exact ⟨ho _ d, z, ne, k _ _ (.inl rfl) e, mA, ⟨od, es, ep, k _ _ (.inr d) e2, c⟩, r⟩
  | own y => obtain ⟨ob, e⟩ := x; exact ⟨ob, k _ _ (.inl rfl) e⟩
  | xd fs => obtain ⟨mA, ⟨od, es, ep, e, c⟩, r⟩ := x; exact ⟨mA, ⟨od, es, ep, k _ _ (.inl rfl) e, c⟩, r⟩
  | rng lo hi => obtain ⟨t, u, v, e⟩ := x; exact ⟨t, u, v, k _ _ (.inl rfl) e⟩
  | frz ob u ih => obtain ⟨e, q⟩ := x; exact ⟨k _ _ (.inl rfl) e, ih q⟩
  | tbl ps =>
    have e : h.get? a = some { cls := .none, data := .fields ps } := x
    show h'.get? a = some { cls := .none, data := .fields ps }
    exact k a _ (.inl rfl) e
  | met f y =>
    have e : h.get? a = some (PySem.W.methodObj (.ref f) (.ref y)) := x
    show h'.get? a = some (PySem.W.methodObj (.ref f) (.ref y))
    exact k a _ (.inl rfl) e
  | ext φ => obtain ⟨p, ⟨o, e⟩, st⟩ := x; exact ⟨st _ _ p fun o q => k _ _ (.inl rfl) q, ⟨o, k _ _ (.inl rfl) e⟩, st⟩
theorem HOk.lt (x : HOk P w H h) (e : H a = some o) : a < h.objs.size := (x a o e).lt
theorem HOk.fresh (x : HOk P w H h) (e : h.objs.size ≤ a) : H a = none := by
  cases q : H a with
  | none => rfl
  | some u => exact absurd (Nat.lt_of_lt_of_le (x.lt q) e) (Nat.lt_irrefl _)
/-- every object of the heap is kept -/
theorem HOk.kept (x : HOk P w H h) (k : ∀ b u, h.get? b = some u → h'.get? b = some u) : HOk P w H h' := fun a o e =>
  (x a o e).stay (fun b u _ q => k b u q) (fun _ q => q) fun _ _ q => q
/-- a new object is laid and tracked -/
theorem HOk.laid (x : HOk P w H h) (k : ∀ b u, h.get? b = some u → h'.get? b = some u) (hp : h.objs.size ≤ a) (new : ObjOk P w (upd H a o) h' a o) : HOk P w (upd H a o) h' := fun b u e => by
  have hn := x.fresh hp
  by_cases hb : b = a
  · subst hb; rw [upd_same] at e; cases e; exact new
  · rw [upd_ne hb] at e
    exact (x b u e).stay (fun c v _ q => k c v q) (fun c q => by rw [upd_ne (ne_of_none q hn)]; exact q) fun c xs q => by rw [upd_ne (ne_of_none q hn)]; exact q
end

/-- what may be read as u: it is u, or a known u -/
noncomputable def Rd (H : Hp) (a : Addr) (u : HO) : Prop := H a = some u ∨ ∃ o, H a = some (.frz o u)
theorem Rd.of {H : Hp} {a : Addr} {u : HO} (h : H a = some u) : Rd H a u := .inl h
theorem Rd.ok {P : Program} {w : World} {H : Hp} {h : Heap} {a : Addr} {u : HO} (r : Rd H a u) (x : HOk P w H h) : ObjOk P w H h a u := by
  rcases r with r | ⟨o, r⟩
  · exact x a u r
  · obtain ⟨_, q⟩ := x a _ r
    exact q
/-- what may be written -/
noncomputable def Mut : Option HO → Prop
  | some (.lst _) => True
  | some (.dK _) => True
  | some (.dT _) => True
  | some (.set _ _) => True
  | some (.ins _ _ _) => True
  | some (.ext _) => True
  | _ => False
section
variable {P : Program} {w : World} {H : Hp} {h h' : Heap} {x e : Addr} {o' : HO}
/-- the object at e is changed: x itself, or the dict of the instance x -/
theorem HOk.write (ok : HOk P w H h) (mu : Mut (H x)) (he : e = x ∨ H e = some (.own x)) (k : ∀ b u, b ≠ e → h.get? b = some u → h'.get? b = some u) (heo : ∃ u, h'.get? e = some u)
    (new : ObjOk P w (upd H x o') h' x o') : HOk P w (upd H x o') h' := fun b u q => by
  have nown : ∀ c y, H c = some (.own y) → c ≠ x := fun c y r z => by subst z; rw [r] at mu; exact mu
  have ntup : ∀ c xs, H c = some (.tup xs) → c ≠ x := fun c xs r z => by subst z; rw [r] at mu; exact mu
  by_cases hb : b = x
  · subst hb; rw [upd_same] at q; cases q; exact new
  · rw [upd_ne hb] at q
    by_cases hbe : b = e
    · have q' : H b = some (.own x) := by
        rcases he with z | z
        · exact absurd (hbe.trans z) hb
        · rw [hbe]; exact z
      rw [q] at q'; cases q'
      obtain ⟨v, hv⟩ := heo
      exact ⟨v, by rw [hbe]; exact hv⟩
    · refine (ok b u q).stay (fun c v hc r => k c v ?_ r) (fun c r => by rw [upd_ne (nown c b r)]; exact r) fun c xs r => by rw [upd_ne (ntup c xs r)]; exact r
      rcases hc with rfl | hc
      · exact hbe
      · rintro rfl
        rcases he with z | z
        · exact nown c b hc z
        · rw [hc] at z; cases z; exact hb rfl
end

/-! ### kept unless tracked; of the frames at fs (the callers') the slots may change (an exception that passes writes there); of the records at ex (iterators) nothing is said -/
structure Un (fs ex : List Addr) (H H' : Hp) (h h' : Heap) : Prop where
  keep : ∀ b o, h.get? b = some o → H b = none → b ∉ fs → b ∉ ex → h'.get? b = some o
  slot : ∀ b o, h.get? b = some o → H b = none → b ∈ fs → b ∉ ex → ∃ sl, h'.get? b = some { o with slots := sl }
  free : ∀ b o, h.get? b = some o → H b = none → b ∉ ex → H' b = none
  there : ∀ b o, h.get? b = some o → b ∉ ex → ∃ o', h'.get? b = some o'
  tups : ∀ b xs, H b = some (.tup xs) → H' b = some (.tup xs)
  frzs : ∀ b o u, H b = some (.frz o u) → H' b = some (.frz o u)
  tbls : ∀ b ps, H b = some (.tbl ps) → ∃ more, H' b = some (.tbl (ps ++ more))
section
variable {fs fs' ex ex' : List Addr} {H H1 H2 : Hp} {h h1 h2 h' : Heap} {a x e : Addr} {o : HO}
theorem Un.any (u : Un fs ex H H1 h h1) {b : Addr} {ob : Obj} (q : h.get? b = some ob) (n : H b = none) (hx : b ∉ ex) : ∃ sl, h1.get? b = some { ob with slots := sl } := by
  by_cases hb : b ∈ fs
  · exact u.slot b ob q n hb hx
  · exact ⟨ob.slots, u.keep b ob q n hb hx⟩
theorem Un.trans (a : Un fs ex H H1 h h1) (b : Un fs ex H1 H2 h1 h2) : Un fs ex H H2 h h2 where
  keep := fun c ob q n hc hx => b.keep c ob (a.keep c ob q n hc hx) (a.free c ob q n hx) hc hx
  slot := fun c ob q n hc hx => by
    obtain ⟨sl, e1⟩ := a.slot c ob q n hc hx
    obtain ⟨sl', e2⟩ := b.slot c _ e1 (a.free c ob q n hx) hc hx
    exact ⟨sl', e2⟩
  free := fun c ob q n hx => by
    obtain ⟨o', e1⟩ := a.there c ob q hx
    exact b.free c o' e1 (a.free c ob q n hx) hx
  there := fun c ob q hx => by
    obtain ⟨o', e1⟩ := a.there c ob q hx
    exact b.there c o' e1 hx
  tups := fun c xs q => b.tups c xs (a.tups c xs q)
  frzs := fun c ob xs q => b.frzs c ob xs (a.frzs c ob xs q)
  tbls := fun c ps q => by
    obtain ⟨m1, e1⟩ := a.tbls c ps q
    obtain ⟨m2, e2⟩ := b.tbls c _ e1
    exact ⟨m1 ++ m2, by rw [e2, Array.append_assoc]⟩
theorem Un.kept (k : ∀ b u, h.get? b = some u → h'.get? b = some u) : Un fs ex H H h h' :=
  ⟨fun b ob q _ _ _ => k b ob q, fun b ob q _ _ _ => ⟨ob.slots, k b ob q⟩, fun _ _ _ n _ => n, fun b ob q _ => ⟨ob, k b ob q⟩, fun _ _ q => q, fun _ _ _ q => q, fun _ ps q => ⟨#[], by rw [q]; simp⟩⟩
theorem Un.refl : Un fs ex H H h h := Un.kept fun _ _ q => q
theorem Un.laid (k : ∀ b u, h.get? b = some u → h'.get? b = some u) (hp : h.objs.size ≤ a) (hn : H a = none) : Un fs ex H (upd H a o) h h' where
  keep := fun b u q _ _ _ => k b u q
  slot := fun b u q _ _ _ => ⟨u.slots, k b u q⟩
  free := fun b u q n _ => by rw [upd_ne (Nat.ne_of_lt (Nat.lt_of_lt_of_le (Heap.lt_size q) hp))]; exact n
  there := fun b u q _ => ⟨u, k b u q⟩
  tups := fun b xs q => by rw [upd_ne (ne_of_none q hn)]; exact q
  frzs := fun b u xs q => by rw [upd_ne (ne_of_none q hn)]; exact q
  tbls := fun b ps q => ⟨#[], by rw [upd_ne (ne_of_none q hn), q]; simp⟩
theorem Un.write (mu : Mut (H x)) (he : e = x ∨ H e = some (.own x)) (k : ∀ b u, b ≠ e → h.get? b = some u → h'.get? b = some u) (heo : ∃ u, h'.get? e = some u) : Un fs ex H (upd H x o) h h' := by
  have hx : ∀ b, H b = none → b ≠ x := fun b n z => by subst z; rw [n] at mu; exact mu
  have hb : ∀ b, H b = none → b ≠ e := fun b n z => by
    subst z
    rcases he with r | r
    · exact hx b n r
    · rw [n] at r; cases r
  have hm : ∀ b u, H b = some u → ¬ Mut (some u) → b ≠ x := fun b u q nm z => by subst z; rw [q] at mu; exact nm mu
  refine ⟨fun b u q n _ _ => k b u (hb b n) q, fun b u q n _ _ => ⟨u.slots, k b u (hb b n) q⟩, fun b u q n _ => by rw [upd_ne (hx b n)]; exact n, fun b u q _ => ?_,
    fun b xs q => by rw [upd_ne (hm b _ q fun z => z)]; exact q, fun b u xs q => by rw [upd_ne (hm b _ q fun z => z)]; exact q, fun b ps q => ⟨#[], by rw [upd_ne (hm b _ q fun z => z), q]; simp⟩⟩
  by_cases hbe : b = e
  · subst hbe; exact heo
  · exact ⟨u, k b u hbe q⟩
theorem Un.mono (u : Un fs ex H H1 h h1) (hs : ∀ b ∈ fs, b ∈ fs') (hx : ∀ b ∈ ex, b ∈ ex') : Un fs' ex' H H1 h h1 :=
  ⟨fun b ob q n hb he => u.keep b ob q n (fun z => hb (hs b z)) fun z => he (hx b z), fun _ _ q n _ he => u.any q n fun z => he (hx _ z), fun b ob q n he => u.free b ob q n fun z => he (hx b z), fun b ob q he => u.there b ob q fun z => he (hx b z), u.tups, u.frzs, u.tbls⟩
end

/-! ### the heap without what is tracked -/
noncomputable def trk (h : Heap) (H : Hp) : List Addr := (List.range h.objs.size).filter fun a => (H a).isSome
noncomputable def hidT (h : Heap) (H : Hp) : Heap := PySem.W.hideAll h (trk h H)
theorem hidT_size (h : Heap) (H : Hp) : (hidT h H).objs.size = h.objs.size := PySem.W.hideAll_size _ _
theorem hidT_get {h : Heap} {H : Hp} {b : Addr} {o : Obj} (e : h.get? b = some o) (n : H b = none) : (hidT h H).get? b = some o :=
  PySem.W.hideAll_get _ e fun hm => by
    have q : (H b).isSome = true := (List.mem_filter.mp hm).2
    rw [n] at q; simp at q
theorem of_hidT {h : Heap} {H : Hp} {b : Addr} {o : Obj} (e : (hidT h H).get? b = some o) : h.get? b = some o ∧ H b = none := by
  have e' : h.get? b = some o := PySem.W.of_hideAll (trk h H) e
  refine ⟨e', ?_⟩
  cases q : H b with
  | none => rfl
  | some x =>
    have hm : b ∈ trk h H := List.mem_filter.mpr ⟨List.mem_range.mpr (Heap.lt_size e'), by simp [q]⟩
    have z : (hidT h H).get? b = none := PySem.W.hideAll_none (trk h H) hm
    rw [z] at e; cases e

/-! ### OpenK's ledger, filled with every new object but one -/
noncomputable def allNews (g h : Heap) (L : Addr) : List (Addr × Obj) := (List.range h.objs.size).filterMap fun a => if a = L ∨ (g.get? a).isSome = true then none else (h.get? a).map fun o => (a, o)
noncomputable def rest (g h : Heap) (L d : Addr) : List (Addr × Obj) := (allNews g h L).filter fun p => decide (p.1 ≠ d)
end L2

namespace L2
open PySem PySem.Spec PyProof.Rows

/-- the module's facts, over the base: the heap at the law's entry without what is tracked there -/
structure Mod (K : PySem.W.Frag) (mg : Str → Option Value) (base : Heap) : Prop where
  kin : K.In base
  glob : base.Ns mainGlobals mg
  blt : ∃ mb, base.Ns builtinsNs mb ∧ ∀ x : Str, x ≠ "__name__" → mb x = bootBuiltins x
  nolimit : base.NoLimit

/-- the context: a def's body (or a comprehension's block) running. base: fixed through the whole law; s₀, H₀: the entry; outer: the frames whose slots others may change (a def's callers); stack: all frames that run;
   ex: iterators that were made ahead of the entry and are walked here (a comprehension's); fn: the names whose cells were made at the entry (a def: all; a comprehension's block: its own); calm: not within an except suite; pn: pins that every state bears; xe: what is wanted of an exception that leaves the code -/
structure Cx where
  prog : Program
  w : World
  K : PySem.W.Frag
  mg : Str → Option Value
  base : Heap
  A : Around
  N : List Str
  s₀ : Shared
  H₀ : Hp
  env : Env
  outer : List Env
  stack : List Env
  ex : List Addr
  fn : Str → Bool
  calm : Bool
  pn : List (Addr × Obj)
  xe : Value → Shared → Prop
/-- the callers' frames -/
noncomputable def frs (l : List Env) : List Addr := l.filterMap (·.frame)
noncomputable abbrev Cx.fs (X : Cx) : List Addr := frs X.outer

noncomputable def Vis (sc : Scope) (x : Str) : Prop := sc.names.lookup x = some .local ∨ sc.names.lookup x = some .cell ∨ sc.names.lookup x = some .free
noncomputable def Loc (sc : Scope) (x : Str) : Prop := sc.names.lookup x = some .local ∨ sc.names.lookup x = some .cell
noncomputable def Look (env : Env) (h : Heap) (m : Str → Option Value) (x : Str) (u : Value) : Prop :=
  (env.kindOf x = some .local ∧ m x = some u) ∨ ((env.kindOf x = some .cell ∨ env.kindOf x = some .free) ∧ ∃ c, env.cells.lookup x = some c ∧ h.IsCell c (some u))

structure Cx.Ok (X : Cx) : Prop where
  mod : Mod X.K X.mg X.base
  kind : X.env.scope.kind = .function
  glob : X.env.globals = mainGlobals
  blt : X.env.builtins = builtinsNs
  above : X.s₀.heap.objs.size ≤ X.env.locals
  inj : ∀ x y c, X.env.cells.lookup x = some c → X.env.cells.lookup y = some c → x = y
  has : ∀ x, (X.env.kindOf x = some .cell ∨ X.env.kindOf x = some .free) → ∃ c, X.env.cells.lookup x = some c
  cab : ∀ x c, X.fn x = true → X.env.cells.lookup x = some c → X.s₀.heap.objs.size ≤ c
  hd : X.calm = true → X.A.handled = none
  frames : X.A.frames = some X.stack
  stk : X.stack = X.outer ∨ (X.stack = X.env :: X.outer ∧ X.env.frame = some X.env.locals)
  exf : ∀ b ∈ X.ex, b ≠ X.env.locals ∧ ∀ x c, X.env.cells.lookup x = some c → c ≠ b
  bs : ∀ b o, X.base.get? b = some o → X.s₀.heap.get? b = some o ∧ X.H₀ b = none
  bsz : X.base.objs.size ≤ X.s₀.heap.objs.size
  noex : ∀ b o, X.base.get? b = some o → b ∉ X.ex
  exfs : ∀ b ∈ X.ex, b ∉ X.fs
  funs : X.s₀.heap.FunFrames X.base X.outer
  frf : ∀ b ∈ X.fs, X.H₀ b = none

structure Inv (X : Cx) (pins : List (Addr × Obj)) (σ : List (Option V)) (H : Hp) (s : Shared) : Prop where
  ok : X.Ok
  os : s.os = X.s₀.os
  bare : AllBare s.gens
  base : Un X.fs X.ex X.H₀ H X.s₀.heap s.heap
  loc : ∃ m, s.heap.Ns X.env.locals m ∧ ∀ (i : Nat) (x : Str) (v : V), X.N[i]? = some x → σ[i]? = some (some v) → Vis X.env.scope x → ∃ u, RelV v u ∧ Look X.env s.heap m x u
  cell : ∀ x c, X.env.cells.lookup x = some c → ∃ v, s.heap.IsCell c v
  free : H X.env.locals = none
  freeC : ∀ x c, X.env.cells.lookup x = some c → H c = none
  pin : ∀ p ∈ X.pn ++ pins, s.heap.get? p.1 = some p.2 ∧ H p.1 = none ∧ p.1 ≠ X.env.locals ∧ p.1 ∉ X.fs ∧ ∀ v, p.2.data ≠ .cell v
  hok : HOk X.prog X.w H s.heap
  len : σ.length = X.N.length

section
variable {X : Cx} {pins : List (Addr × Obj)} {σ : List (Option V)} {H H' : Hp} {s : Shared} {h' : Heap}

theorem Cx.Ok.nofr (ok : X.Ok) {b : Addr} {o : Obj} (e : X.base.get? b = some o) : b ∉ X.fs := fun hb => by
  have := (ok.funs.mem hb).1
  rw [e] at this; cases this
theorem Inv.bs (I : Inv X pins σ H s) : ∀ b o, X.base.get? b = some o → s.heap.get? b = some o ∧ H b = none := fun b o e =>
  ⟨I.base.keep b o (I.ok.bs b o e).1 (I.ok.bs b o e).2 (I.ok.nofr e) (I.ok.noex b o e), I.base.free b o (I.ok.bs b o e).1 (I.ok.bs b o e).2 (I.ok.noex b o e)⟩
theorem Inv.bk (I : Inv X pins σ H s) : ∀ b o, X.base.get? b = some o → s.heap.get? b = some o := fun b o e => (I.bs b o e).1
theorem Inv.mod (I : Inv X pins σ H s) : Mod X.K X.mg X.base := I.ok.mod
theorem Inv.kIn (I : Inv X pins σ H s) : X.K.In s.heap := I.ok.mod.kin.keeps I.bk
theorem Inv.nolimit (I : Inv X pins σ H s) : s.heap.NoLimit := I.ok.mod.nolimit.keeps I.bk
/-- the frame over the base: for OpenK's rules (K.In X.base is I.mod.kin) -/
theorem Inv.fr (I : Inv X pins σ H s) : ∃ m, Fr X.base X.env.locals s.heap m :=
  let ⟨m, hn, _⟩ := I.loc
  ⟨m, hn, I.bk, Nat.le_trans I.ok.bsz I.ok.above⟩
theorem Inv.lt (I : Inv X pins σ H s) : X.env.locals < s.heap.objs.size := let ⟨_, hn, _⟩ := I.loc; hn.lt
theorem Inv.sz (I : Inv X pins σ H s) : X.s₀.heap.objs.size ≤ s.heap.objs.size := Nat.le_trans I.ok.above (Nat.le_of_lt I.lt)
theorem Inv.nofs (I : Inv X pins σ H s) {a : Addr} (h : s.heap.objs.size ≤ a) : a ∉ X.fs := fun hb => by
  obtain ⟨_, o, ho, _⟩ := I.ok.funs.mem hb
  exact absurd (Nat.lt_of_lt_of_le (Heap.lt_size ho) (Nat.le_trans I.sz h)) (Nat.lt_irrefl _)
theorem Inv.cne (I : Inv X pins σ H s) : ∀ x c, X.env.cells.lookup x = some c → c ≠ X.env.locals := fun x c e z => by
  obtain ⟨v, o, ho, hd⟩ := I.cell x c e
  obtain ⟨m, ⟨o', es, ep, ho', hd', _⟩, _⟩ := I.loc
  rw [z, ho'] at ho; cases ho; rw [hd'] at hd; cases hd
theorem Inv.funs (I : Inv X pins σ H s) : s.heap.FunFrames X.base X.outer := by
  have all : ∀ (l : List Env), (∀ b ∈ frs l, b ∈ X.fs) → X.s₀.heap.FunFrames X.base l → s.heap.FunFrames X.base l := by
    intro l
    induction l with
    | nil => intro _ _; trivial
    | cons env r ih =>
      intro hs hl
      obtain ⟨hk, ⟨L, o, hf, hn, ho, hd⟩, hr⟩ := hl
      have hL : L ∈ X.fs := hs L (by unfold frs; rw [List.filterMap_cons, hf]; exact List.mem_cons_self)
      obtain ⟨sl, e⟩ := I.base.slot L o ho (I.ok.frf L hL) hL fun z => I.ok.exfs L z hL
      exact ⟨hk, ⟨L, _, hf, hn, e, hd⟩, ih (fun b hb => hs b (by unfold frs; rw [List.filterMap_cons, hf]; exact List.mem_cons_of_mem _ hb)) hr⟩
  exact all X.outer (fun _ hb => hb) I.ok.funs

/-- the frames that run, for a call -/
theorem Inv.stack (I : Inv X pins σ H s) : s.heap.FunFrames X.base X.stack := by
  rcases I.ok.stk with e | ⟨e, hf⟩
  · rw [e]; exact I.funs
  · rw [e]
    obtain ⟨m, hn, _⟩ := I.loc
    refine .cons (by rw [I.ok.kind]; decide) hf hn ?_ I.funs
    exact Heap.get?_none_of_le (Nat.le_trans I.ok.bsz I.ok.above)
theorem Inv.stkSub (I : Inv X pins σ H s) : ∀ b ∈ frs X.stack, b ∈ X.env.locals :: X.fs := fun b hb => by
  rcases I.ok.stk with e | ⟨e, hf⟩
  · rw [e] at hb; exact List.mem_cons_of_mem _ hb
  · rw [e] at hb
    unfold frs at hb
    rw [List.filterMap_cons, hf] at hb
    exact hb
theorem Inv.stkFree (I : Inv X pins σ H s) : ∀ b ∈ frs X.stack, H b = none := fun b hb => by
  rcases List.mem_cons.mp (I.stkSub b hb) with e | hb
  · rw [e]; exact I.free
  · obtain ⟨_, o, ho, _⟩ := I.ok.funs.mem hb
    exact I.base.free b o ho (I.ok.frf b hb) fun z => I.ok.exfs b z hb

/-- THE STEP: the untracked objects but the frame and the records at ch are kept (the callers' frames up to slots), the frame's map is kept, the new abstract heap is held -/
theorem Inv.step {g' : Array GenState} {t' : Nat} {d' : Drawn} {ch : List Addr} (I : Inv X pins σ H s)
    (hch : ∀ b ∈ ch, (b ∈ X.ex ∨ X.s₀.heap.objs.size ≤ b) ∧ b ≠ X.env.locals ∧ (∀ x c, X.env.cells.lookup x = some c → c ≠ b) ∧ ∀ p ∈ X.pn ++ pins, p.1 ≠ b)
    (keep : ∀ b o, b ≠ X.env.locals → b ∉ X.fs → b ∉ ch → s.heap.get? b = some o → H b = none → h'.get? b = some o)
    (slot : ∀ b o, b ≠ X.env.locals → b ∈ X.fs → b ∉ ch → s.heap.get? b = some o → H b = none → ∃ sl, h'.get? b = some { o with slots := sl }) (free : ∀ b o, b ∉ ch → s.heap.get? b = some o → H b = none → H' b = none)
    (there : ∀ b o, b ∉ ch → s.heap.get? b = some o → ∃ o', h'.get? b = some o')
    (tups : ∀ b xs, H b = some (.tup xs) → H' b = some (.tup xs)) (frzs : ∀ b o u, H b = some (.frz o u) → H' b = some (.frz o u)) (tbls : ∀ b ps, H b = some (.tbl ps) → ∃ more, H' b = some (.tbl (ps ++ more)))
    (ns : ∀ m, s.heap.Ns X.env.locals m → h'.Ns X.env.locals m) (hok : HOk X.prog X.w H' h') (hg : AllBare g') :
    Inv X pins σ H' { s with heap := h', gens := g', drawn := d', toks := t' } := by
  have neL : ∀ b o, X.s₀.heap.get? b = some o → b ≠ X.env.locals := fun b o e => Nat.ne_of_lt (Nat.lt_of_lt_of_le (Heap.lt_size e) I.ok.above)
  have neC : ∀ b o, X.s₀.heap.get? b = some o → b ∉ X.ex → b ∉ ch := fun b o e hx hb => by
    rcases (hch b hb).1 with z | z
    · exact hx z
    · exact absurd (Nat.lt_of_lt_of_le (Heap.lt_size e) z) (Nat.lt_irrefl _)
  have cellK : ∀ x c, X.env.cells.lookup x = some c → ∀ v, s.heap.IsCell c v → h'.IsCell c v := fun x c e v ⟨o, ho, hd⟩ => by
    have nch : c ∉ ch := fun z => (hch c z).2.2.1 x c e rfl
    by_cases hc : c ∈ X.fs
    · obtain ⟨sl, q⟩ := slot c o (I.cne x c e) hc nch ho (I.freeC x c e)
      exact ⟨_, q, hd⟩
    · exact ⟨o, keep c o (I.cne x c e) hc nch ho (I.freeC x c e), hd⟩
  refine ⟨I.ok, I.os, hg, ⟨fun b o e n hb hx => ?_, fun b o e n hb hx => ?_, fun b o e n hx => ?_, fun b o e hx => ?_, fun b xs e => tups b xs (I.base.tups b xs e), fun b o xs e => frzs b o xs (I.base.frzs b o xs e), fun b ps e => ?_⟩, ?_, fun x c e => ?_, ?_, fun x c e => ?_, fun p hp => ?_, hok, I.len⟩
  · exact keep b o (neL b o e) hb (neC b o e hx) (I.base.keep b o e n hb hx) (I.base.free b o e n hx)
  · obtain ⟨sl, e1⟩ := I.base.slot b o e n hb hx
    obtain ⟨sl', e2⟩ := slot b _ (neL b o e) hb (neC b o e hx) e1 (I.base.free b o e n hx)
    exact ⟨sl', e2⟩
  · obtain ⟨o', e1⟩ := I.base.there b o e hx
    exact free b o' (neC b o e hx) e1 (I.base.free b o e n hx)
  · obtain ⟨o', e1⟩ := I.base.there b o e hx
    exact there b o' (neC b o e hx) e1
  · obtain ⟨m1, e1⟩ := I.base.tbls b ps e
    obtain ⟨m2, e2⟩ := tbls b _ e1
    exact ⟨m1 ++ m2, by rw [e2, Array.append_assoc]⟩
  · obtain ⟨m, hn, hl⟩ := I.loc
    refine ⟨m, ns m hn, fun i x v e1 e2 e3 => ?_⟩
    obtain ⟨u, r, l⟩ := hl i x v e1 e2 e3
    refine ⟨u, r, ?_⟩
    rcases l with l | ⟨k, c, e, z⟩
    · exact .inl l
    · exact .inr ⟨k, c, e, cellK x c e _ z⟩
  · obtain ⟨v, z⟩ := I.cell x c e
    exact ⟨v, cellK x c e v z⟩
  · obtain ⟨m, ⟨o, _, _, ho, _⟩, _⟩ := I.loc
    exact free _ o (fun z => (hch _ z).2.1 rfl) ho I.free
  · obtain ⟨v, o, ho, hd⟩ := I.cell x c e
    exact free c o (fun z => (hch c z).2.2.1 x c e rfl) ho (I.freeC x c e)
  · obtain ⟨e, n, ne, nf, d⟩ := I.pin p hp
    have nch : p.1 ∉ ch := fun z => (hch p.1 z).2.2.2 p hp rfl
    exact ⟨keep p.1 p.2 ne nf nch e n, free p.1 p.2 nch e n, ne, nf, d⟩
/-- .. where the frame's own object is kept too -/
theorem Inv.un {t' : Nat} (I : Inv X pins σ H s) (u : Un X.fs [] H H' s.heap h') (hok : HOk X.prog X.w H' h') : Inv X pins σ H' { s with heap := h', toks := t' } := by
  obtain ⟨m, ⟨o, es, ep, ho, r⟩, _⟩ := id I.loc
  obtain ⟨sl, hL⟩ := u.any ho I.free (by simp)
  exact I.step (g' := s.gens) (d' := s.drawn) (ch := []) (fun _ z => nomatch z) (fun b o _ hb _ e n => u.keep b o e n hb (by simp)) (fun b o _ hb _ e n => u.slot b o e n hb (by simp)) (fun b o _ e n => u.free b o e n (by simp)) (fun b o _ e => u.there b o e (by simp)) u.tups u.frzs u.tbls (fun m' hm => by
    obtain ⟨o', es', ep', ho', r'⟩ := hm
    rw [ho] at ho'; cases ho'
    exact ⟨_, es', ep', hL, r'⟩) hok I.bare
/-- behind a call (or a comprehension's block): the slots of this frame may have changed too, the records at ch may have turned -/
theorem Inv.call {g' : Array GenState} {t' : Nat} {d' : Drawn} {ch : List Addr} (I : Inv X pins σ H s) (u : Un (frs X.stack) ch H H' s.heap h') (hok : HOk X.prog X.w H' h') (hg : AllBare g')
    (hch : ∀ b ∈ ch, (b ∈ X.ex ∨ X.s₀.heap.objs.size ≤ b) ∧ b ≠ X.env.locals ∧ (∀ x c, X.env.cells.lookup x = some c → c ≠ b) ∧ ∀ p ∈ X.pn ++ pins, p.1 ≠ b) :
    Inv X pins σ H' { s with heap := h', gens := g', drawn := d', toks := t' } := by
  obtain ⟨m, ⟨o, es, ep, ho, r⟩, _⟩ := id I.loc
  obtain ⟨sl, hL⟩ := u.any ho I.free fun z => (hch _ z).2.1 rfl
  exact I.step (ch := ch) hch (fun b o hL hb hc e n => u.keep b o e n (fun z => (List.mem_cons.mp (I.stkSub b z)).elim hL hb) hc) (fun b o _ _ hc e n => u.any e n hc) (fun b o hc e n => u.free b o e n hc) (fun b o hc e => u.there b o e hc) u.tups u.frzs u.tbls (fun m' hm => by
    obtain ⟨o', es', ep', ho', r'⟩ := hm
    rw [ho] at ho'; cases ho'
    exact ⟨_, es', ep', hL, r'⟩) hok hg
/-- an untracked record of ours (an iterator) has turned -/
theorem Inv.turned {t' : Nat} {it : Addr} (I : Inv X pins σ H s) (k : ∀ b o, b ≠ it → s.heap.get? b = some o → h'.get? b = some o) (hn : H it = none) (hL : it ≠ X.env.locals)
    (h1 : it ∈ X.ex ∨ X.s₀.heap.objs.size ≤ it) (h2 : ∀ x c, X.env.cells.lookup x = some c → c ≠ it) (h3 : ∀ p ∈ X.pn ++ pins, p.1 ≠ it) : Inv X pins σ H { s with heap := h', toks := t' } := by
  have nit : ∀ b u, H b = some u → b ≠ it := fun b u e z => by rw [z, hn] at e; cases e
  refine I.step (g' := s.gens) (d' := s.drawn) (ch := [it]) (fun b hb => ?_) (fun b o _ _ hc e _ => k b o (fun z => hc (by simp [z])) e) (fun b o _ _ hc e _ => ⟨o.slots, k b o (fun z => hc (by simp [z])) e⟩) (fun _ _ _ _ n => n)
    (fun b o hc e => ⟨o, k b o (fun z => hc (by simp [z])) e⟩) (fun _ _ e => e) (fun _ _ _ e => e) (fun b ps e => ⟨#[], by rw [e]; simp⟩) (fun m hm => ?_) (fun b u e => ?_) I.bare
  · have e : b = it := by simpa using hb
    subst e
    exact ⟨h1, hL, h2, h3⟩
  · obtain ⟨o, es, ep, ho, r⟩ := hm
    exact ⟨o, es, ep, k _ o (Ne.symm hL) ho, r⟩
  · refine (I.hok b u e).stay (fun c v hc q => k c v ?_ q) (fun _ q => q) fun _ _ q => q
    rcases hc with z | z
    · rw [z]; exact nit b u e
    · exact nit c _ z
theorem Inv.tok (I : Inv X pins σ H s) (t : Nat) : Inv X pins σ H { s with toks := t } := I.un (h' := s.heap) (t' := t) Un.refl I.hok
/-- all objects kept -/
theorem Inv.kept {t' : Nat} (I : Inv X pins σ H s) (k : ∀ b u, s.heap.get? b = some u → h'.get? b = some u) : Inv X pins σ H { s with heap := h', toks := t' } := I.un (Un.kept k) (I.hok.kept k)
/-- a new object laid and tracked -/
theorem Inv.laid {a : Addr} {o : HO} {t' : Nat} (I : Inv X pins σ H s) (k : ∀ b u, s.heap.get? b = some u → h'.get? b = some u) (hp : s.heap.objs.size ≤ a) (new : ObjOk X.prog X.w (upd H a o) h' a o) :
    Inv X pins σ (upd H a o) { s with heap := h', toks := t' } := I.un (Un.laid k hp (I.hok.fresh hp)) (I.hok.laid k hp new)
/-- an object written -/
theorem Inv.write {x e : Addr} {o : HO} {t' : Nat} (I : Inv X pins σ H s) (mu : Mut (H x)) (he : e = x ∨ H e = some (.own x)) (k : ∀ b u, b ≠ e → s.heap.get? b = some u → h'.get? b = some u) (heo : ∃ u, h'.get? e = some u)
    (new : ObjOk X.prog X.w (upd H x o) h' x o) : Inv X pins σ (upd H x o) { s with heap := h', toks := t' } := I.un (Un.write mu he k heo) (I.hok.write mu he k heo new)
/-- forgetting slots, pins -/
theorem Inv.pins_of {pins' : List (Addr × Obj)} (I : Inv X pins σ H s) (h : ∀ p ∈ pins', s.heap.get? p.1 = some p.2 ∧ H p.1 = none ∧ p.1 ≠ X.env.locals ∧ p.1 ∉ X.fs ∧ ∀ v, p.2.data ≠ .cell v) : Inv X pins' σ H s :=
  ⟨I.ok, I.os, I.bare, I.base, I.loc, I.cell, I.free, I.freeC, fun p hp => (List.mem_append.mp hp).elim (fun z => I.pin p (List.mem_append_left _ z)) (h p), I.hok, I.len⟩

theorem nodup_ix {N : List Str} (hN : N.Nodup) {i j : Nat} {x : Str} (a : N[i]? = some x) (b : N[j]? = some x) : i = j := by
  obtain ⟨h1, e1⟩ := List.getElem?_eq_some_iff.mp a
  obtain ⟨h2, e2⟩ := List.getElem?_eq_some_iff.mp b
  exact (List.getElem_inj hN).mp (e1.trans e2.symm)

/-- a name is stored; what changed -/
theorem store_ok2 {M : Model} {A : Around} {E : Value → Shared → Prop} {i : Nat} {x : Str} {v : V} {u : Value} {Q : Unit → Shared → Prop} (I : Inv X pins σ H s) (hN : X.N.Nodup) (hi : X.N[i]? = some x) (hx : Loc X.env.scope x) (r : RelV v u)
    (h : ∀ s', Inv X pins (σ.set i (some v)) H s' → (∃ a, Heap.SameBut a s.heap s'.heap ∧ (a = X.env.locals ∨ X.env.cells.lookup x = some a)) → Q () s') (hf : X.fn x = true ∨ X.env.scope.names.lookup x = some .local := by first | exact .inl rfl | exact .inr rfl | assumption) : wpAny M A (storeName X.env x u) Q E s := by
  obtain ⟨m, hn, hl⟩ := id I.loc
  have hcls : (X.env.scope.kind == .class || (X.env.scope.kind == .module && X.env.locals != X.env.globals)) = false := by rw [I.ok.kind]; rfl
  have hiσ : i < σ.length := by rw [I.len]; exact (List.getElem?_eq_some_iff.mp hi).1
  have cne := I.cne
  have tracked : ∀ {a : Addr} {h' : Heap}, (∃ o, s.heap.get? a = some o ∧ H a = none) → Heap.SameBut a s.heap h' → HOk X.prog X.w H h' := fun {a h'} ha hs b ob e => by
    obtain ⟨_, _, hfree⟩ := ha
    refine (I.hok b ob e).stay (fun c w' hc q => (hs.2 c ?_).trans q) (fun _ q => q) fun _ _ q => q
    rintro rfl
    rcases hc with rfl | hc
    · rw [hfree] at e; cases e
    · rw [hfree] at hc; cases hc
  rcases hx with hk | hk
  · refine wpAny_storeName_local hk hn (fun h' hn' hs => ?_) hcls
    obtain ⟨oL, _, _, hoL, _⟩ := id hn
    refine h _ ⟨I.ok, I.os, I.bare, ⟨fun b o e n hb hx => ?_, fun b o e n hb hx => ?_, I.base.free, fun b o e hx => ?_, I.base.tups, I.base.frzs, I.base.tbls⟩, ⟨_, hn', fun j y v' e1 e2 e3 => ?_⟩, fun y c e => ?_, I.free, I.freeC, fun p hp => ?_, tracked ⟨oL, hoL, I.free⟩ hs, by simpa using I.len⟩ ⟨_, hs, .inl rfl⟩
    · exact (hs.2 b (Nat.ne_of_lt (Nat.lt_of_lt_of_le (Heap.lt_size e) I.ok.above))).trans (I.base.keep b o e n hb hx)
    · obtain ⟨sl, e1⟩ := I.base.slot b o e n hb hx
      exact ⟨sl, (hs.2 b (Nat.ne_of_lt (Nat.lt_of_lt_of_le (Heap.lt_size e) I.ok.above))).trans e1⟩
    · obtain ⟨o', e1⟩ := I.base.there b o e hx
      exact ⟨o', (hs.2 b (Nat.ne_of_lt (Nat.lt_of_lt_of_le (Heap.lt_size e) I.ok.above))).trans e1⟩
    · by_cases hj : j = i
      · subst hj
        rw [hi] at e1; cases e1
        rw [List.getElem?_set_self hiσ] at e2
        cases e2
        exact ⟨u, r, .inl ⟨hk, by simp⟩⟩
      · rw [List.getElem?_set_ne (Ne.symm hj)] at e2
        obtain ⟨u', r', q⟩ := hl j y v' e1 e2 e3
        refine ⟨u', r', ?_⟩
        rcases q with ⟨k, e⟩ | ⟨k, c, e, z⟩
        · refine .inl ⟨k, ?_⟩
          have : y ≠ x := fun e => hj (nodup_ix hN e1 (e ▸ hi))
          simp [this, e]
        · exact .inr ⟨k, c, e, z.sameBut hs (cne y c e)⟩
    · obtain ⟨w', z⟩ := I.cell y c e
      exact ⟨w', z.sameBut hs (cne y c e)⟩
    · obtain ⟨e, n, ne, nf, d⟩ := I.pin p hp
      exact ⟨(hs.2 p.1 ne).trans e, n, ne, nf, d⟩
  · have hfn : X.fn x = true := by
      rcases hf with z | z
      · exact z
      · rw [z] at hk; cases hk
    obtain ⟨c, hc⟩ := I.ok.has x (.inl hk)
    obtain ⟨w', z⟩ := I.cell x c hc
    refine wpAny_storeName_cell I.ok.kind hk hc z (fun h' hc' hs => ?_)
    obtain ⟨oc, hoc, hocd⟩ := id z
    refine h { s with heap := h' } ⟨I.ok, I.os, I.bare, ⟨fun b o e n hb hx => ?_, fun b o e n hb hx => ?_, I.base.free, fun b o e hx => ?_, I.base.tups, I.base.frzs, I.base.tbls⟩, ⟨m, hn.sameBut hs (Ne.symm (cne x c hc)), fun j y v' e1 e2 e3 => ?_⟩, fun y c' e => ?_, I.free, I.freeC, fun p hp => ?_, tracked ⟨oc, hoc, I.freeC x c hc⟩ hs, by simpa using I.len⟩ ⟨c, hs, .inr hc⟩
    · exact (hs.2 b (Nat.ne_of_lt (Nat.lt_of_lt_of_le (Heap.lt_size e) (I.ok.cab x c hfn hc)))).trans (I.base.keep b o e n hb hx)
    · obtain ⟨sl, e1⟩ := I.base.slot b o e n hb hx
      exact ⟨sl, (hs.2 b (Nat.ne_of_lt (Nat.lt_of_lt_of_le (Heap.lt_size e) (I.ok.cab x c hfn hc)))).trans e1⟩
    · obtain ⟨o', e1⟩ := I.base.there b o e hx
      exact ⟨o', (hs.2 b (Nat.ne_of_lt (Nat.lt_of_lt_of_le (Heap.lt_size e) (I.ok.cab x c hfn hc)))).trans e1⟩
    · by_cases hj : j = i
      · subst hj
        rw [hi] at e1; cases e1
        rw [List.getElem?_set_self hiσ] at e2
        cases e2
        exact ⟨u, r, .inr ⟨.inl hk, c, hc, hc'⟩⟩
      · rw [List.getElem?_set_ne (Ne.symm hj)] at e2
        obtain ⟨u', r', q⟩ := hl j y v' e1 e2 e3
        refine ⟨u', r', ?_⟩
        rcases q with q | ⟨k, c', e, z'⟩
        · exact .inl q
        · refine .inr ⟨k, c', e, z'.sameBut hs ?_⟩
          rintro rfl
          exact hj (nodup_ix hN e1 (I.ok.inj _ _ _ e hc ▸ hi))
    · by_cases hcc : c' = c
      · subst hcc; exact ⟨_, hc'⟩
      · obtain ⟨w2, z2⟩ := I.cell y c' e
        exact ⟨w2, z2.sameBut hs hcc⟩
    · obtain ⟨e, n, ne, nf, d⟩ := I.pin p hp
      refine ⟨(hs.2 p.1 ?_).trans e, n, ne, nf, d⟩
      intro q
      rw [q, hoc] at e
      have q' : oc = p.2 := Option.some.inj e
      exact d w' (by rw [← q']; exact hocd)
theorem store_ok {M : Model} {A : Around} {E : Value → Shared → Prop} {i : Nat} {x : Str} {v : V} {u : Value} {Q : Unit → Shared → Prop} (I : Inv X pins σ H s) (hN : X.N.Nodup) (hi : X.N[i]? = some x) (hx : Loc X.env.scope x) (r : RelV v u)
    (h : ∀ s', Inv X pins (σ.set i (some v)) H s' → Q () s') (hf : X.fn x = true ∨ X.env.scope.names.lookup x = some .local := by first | exact .inl rfl | exact .inr rfl | assumption) : wpAny M A (storeName X.env x u) Q E s :=
  store_ok2 I hN hi hx r (fun s' I' _ => h s' I') hf
/-- behind a call or a block, the state as it is -/
theorem Inv.call' {s' : Shared} {ch : List Addr} (I : Inv X pins σ H s) (ho : s'.os = s.os) (u : Un (frs X.stack) ch H H' s.heap s'.heap) (hok : HOk X.prog X.w H' s'.heap) (hg : AllBare s'.gens)
    (hch : ∀ b ∈ ch, (b ∈ X.ex ∨ X.s₀.heap.objs.size ≤ b) ∧ b ≠ X.env.locals ∧ (∀ x c, X.env.cells.lookup x = some c → c ≠ b) ∧ ∀ p ∈ X.pn ++ pins, p.1 ≠ b) : Inv X pins σ H' s' := by
  obtain ⟨h', g', d', t', o'⟩ := s'
  have e : o' = s.os := ho
  subst e
  exact I.call (g' := g') (t' := t') (d' := d') u hok hg hch
end

/-! ### the judgements -/
/-- an exception: its class, its own dict's address (where it has one), the abstract heap behind it -/
noncomputable abbrev XK := Value → Option Addr → Hp → Prop
noncomputable abbrev St := List (Option V)
noncomputable abbrev VK := V → Hp → Prop
/-- an expression's reading; a test's; an argument list's -/
noncomputable abbrev TE := St → Hp → VK → Prop
noncomputable abbrev TT := St → Hp → (Bool → Hp → Prop) → Prop
noncomputable abbrev TA := St → Hp → (List V → Hp → Prop) → Prop
/-- what is wanted behind a statement -/
structure Ends where
  nx : St → Hp → Prop
  rt : VK
  bk : St → Hp → Prop := fun _ _ => False
  ct : St → Hp → Prop := fun _ _ => False
noncomputable abbrev TS := Ends → St → Hp → Prop

noncomputable def EP (X : Cx) (pins : List (Addr × Obj)) (σ : St) (Q : VK) (u : Value) (s' : Shared) : Prop := ∃ v H', Inv X pins σ H' s' ∧ RelV v u ∧ Q v H'
noncomputable def TP (X : Cx) (pins : List (Addr × Obj)) (σ : St) (Q : Bool → Hp → Prop) (b : Bool) (s' : Shared) : Prop := ∃ H', Inv X pins σ H' s' ∧ Q b H'
noncomputable def AP (X : Cx) (pins : List (Addr × Obj)) (σ : St) (Q : List V → Hp → Prop) (us : List Value) (s' : Shared) : Prop := ∃ vs H', Inv X pins σ H' s' ∧ Vals vs us ∧ Q vs H'
noncomputable def SP (X : Cx) (pins : List (Addr × Obj)) (D : Ends) (f : Flow) (s' : Shared) : Prop :=
  match f with
  | .next => ∃ σ' H', Inv X pins σ' H' s' ∧ D.nx σ' H'
  | .brk => ∃ σ' H', Inv X pins σ' H' s' ∧ D.bk σ' H'
  | .cont => ∃ σ' H', Inv X pins σ' H' s' ∧ D.ct σ' H'
  | .ret u => ∃ v σ' H', Inv X pins σ' H' s' ∧ RelV v u ∧ D.rt v H'

noncomputable def PE (X : Cx) (e : Expr) (t : TE) : Prop :=
  ∀ (pins : List (Addr × Obj)) (s : Shared) (σ : St) (H : Hp) (Q : VK), Inv X pins σ H s → t σ H Q → wpAny (model X.prog X.w) X.A (eval e X.env) (EP X pins σ Q) X.xe s
noncomputable def PT (X : Cx) (e : Expr) (t : TT) : Prop :=
  ∀ (pins : List (Addr × Obj)) (s : Shared) (σ : St) (H : Hp) (Q : Bool → Hp → Prop), Inv X pins σ H s → t σ H Q → wpAny (model X.prog X.w) X.A (isTrue e X.env (eval e X.env)) (TP X pins σ Q) X.xe s
/-- a test whatever its 'whole' is (and, or) -/
noncomputable def PW (X : Cx) (e : Expr) (t : TT) : Prop :=
  ∀ (whole : Sem Value) (pins : List (Addr × Obj)) (s : Shared) (σ : St) (H : Hp) (Q : Bool → Hp → Prop), Inv X pins σ H s → t σ H Q → wpAny (model X.prog X.w) X.A (isTrue e X.env whole) (TP X pins σ Q) X.xe s
theorem PW.pt {X : Cx} {e : Expr} {t : TT} (h : PW X e t) : PT X e t := h _
/-- an argument list (no star), from the left -/
noncomputable def PA (X : Cx) (es : List Expr) (t : TA) : Prop :=
  ∀ (pos : Pos) (pins : List (Addr × Obj)) (s : Shared) (σ : St) (H : Hp) (Q : List V → Hp → Prop), Inv X pins σ H s → t σ H Q → wpAny (model X.prog X.w) X.A (spliced (backTo pos (starEach es X.env))) (AP X pins σ Q) X.xe s
noncomputable def PS (X : Cx) (st : Stmt) (t : TS) : Prop :=
  ∀ (pins : List (Addr × Obj)) (s : Shared) (σ : St) (H : Hp) (D : Ends), Inv X pins σ H s → t D σ H → wpAny (model X.prog X.w) X.A (exec st X.env) (SP X pins D) X.xe s
noncomputable def PSs (X : Cx) (st : List Stmt) (t : TS) : Prop :=
  ∀ (pins : List (Addr × Obj)) (s : Shared) (σ : St) (H : Hp) (D : Ends), Inv X pins σ H s → t D σ H → wpAny (model X.prog X.w) X.A (execs st X.env) (SP X pins D) X.xe s
/-- weaken the end -/
theorem thn {α : Type} {t : Sem α} {Q Q' : α → Shared → Prop} {M : Model} {A : Around} {E : Value → Shared → Prop} {s : Shared} (h : wpAny M A t Q E s) (hQ : ∀ a s, Q a s → Q' a s) : wpAny M A t Q' E s := wpAny_mono h hQ fun _ _ x => x
end L2

namespace L2
open PySem PySem.Spec PyProof.Rows
section
variable {X : Cx}

/-! ### names and constants -/
noncomputable def tVar (i : Nat) : TE := fun σ H Q => ∃ v, σ[i]? = some (some v) ∧ Q v H
noncomputable def tC (v : V) : TE := fun _ H Q => Q v H
theorem pe_var {i : Nat} {x : Str} {pos : Pos} (hN : X.N[i]? = some x) (hv : Vis X.env.scope x) (hd : (x == ("__debug__" : Str)) = false := by decide) (hcd : (x == ("__classdict__" : Str)) = false := by decide) : PE X (.Name x pos) (tVar i) := by
  intro pins s σ H Q I h
  obtain ⟨v, e, h⟩ := h
  obtain ⟨m, hn, hl⟩ := I.loc
  obtain ⟨u, r, l⟩ := hl i x v hN e hv
  have fin : EP X pins σ Q u s := ⟨v, H, I, r, h⟩
  rcases l with ⟨hk, hm⟩ | ⟨hk, c, hc, hcell⟩
  · exact wpAny_Name (wpAny_loadName_local I.ok.kind hk hn hm fin) hd
  · rcases hk with hk | hk
    · exact wpAny_Name (wpAny_loadName_cell I.ok.kind hk hc hcell fin) hd
    · exact wpAny_Name (wpAny_loadName_free I.ok.kind hk hc hcell fin hcd) hd
theorem pe_int {i j pos} : PE X (.Constant (.int i) j pos) (tC (.int i)) := fun _ _ _ H _ I h => wpAny_Constant_int ⟨.int i, H, I.tok _, ⟨_, rfl⟩, h⟩
theorem pe_bl {b j pos} : PE X (.Constant (.bool b) j pos) (tC (.bl b)) := fun _ _ _ H _ I h => Constant_bool ⟨.bl b, H, I, rfl, h⟩
/-- a global name of the def -/
noncomputable def Gl (X : Cx) (x : Str) : Prop := X.env.kindOf x = some .globalImplicit
theorem ld_glob {E : Value → Shared → Prop} {pins : List (Addr × Obj)} {s : Shared} {σ : St} {H : Hp} {x : Str} {u : Value} {pos : Pos} {Q : Value → Shared → Prop} (I : Inv X pins σ H s) (hg : Gl X x) (hm : X.mg x = some u) (h : Q u s)
    (hd : (x == ("__debug__" : Str)) = false := by decide) : wpAny (model X.prog X.w) X.A (eval (.Name x pos) X.env) Q E s :=
  Calls.Name_function_global I.ok.kind hg (Calls.loadGlobal_global (by rw [I.ok.glob]; exact I.mod.glob.keeps I.bk) hm h) hd
theorem ld_blt {E : Value → Shared → Prop} {pins : List (Addr × Obj)} {s : Shared} {σ : St} {H : Hp} {x : Str} {u : Value} {pos : Pos} {Q : Value → Shared → Prop} (I : Inv X pins σ H s) (hg : Gl X x) (hm : X.mg x = none) (hv : bootBuiltins x = some u) (h : Q u s)
    (hn : x ≠ "__name__" := by decide) (hd : (x == ("__debug__" : Str)) = false := by decide) : wpAny (model X.prog X.w) X.A (eval (.Name x pos) X.env) Q E s := by
  obtain ⟨mb, h1, h2⟩ := I.mod.blt
  exact Calls.Name_function_global I.ok.kind hg (Calls.loadGlobal_builtin (by rw [I.ok.glob]; exact I.mod.glob.keeps I.bk) hm (by rw [I.ok.blt]; exact h1.keeps I.bk) ((h2 x hn).trans hv) h) hd
/-- a module's constant, a class, a function, as a value -/
theorem pe_bltn {x : Str} {v : V} {u : Value} {pos : Pos} (hg : Gl X x) (hm : X.mg x = none) (hv : bootBuiltins x = some u) (r : RelV v u) (hn : x ≠ "__name__" := by decide) (hd : (x == ("__debug__" : Str)) = false := by decide) : PE X (.Name x pos) (tC v) :=
  fun _ _ _ H _ I h => ld_blt I hg hm hv ⟨v, H, I, r, h⟩ hn hd

/-! ### arithmetic -/
/-- two ints -/
noncomputable def t2I (ta tb : TE) (k : Int → Int → Hp → Prop) : St → Hp → Prop := fun σ H => ta σ H fun x H1 => tb σ H1 fun y H2 => ∃ i j, x = .int i ∧ y = .int j ∧ k i j H2
noncomputable def tAdd (ta tb : TE) : TE := fun σ H Q => t2I ta tb (fun i j H2 => Q (.int (i + j)) H2) σ H
noncomputable def tSub (ta tb : TE) : TE := fun σ H Q => t2I ta tb (fun i j H2 => Q (.int (i - j)) H2) σ H
/-- the left factor below 2^64 -/
noncomputable def tMul (ta tb : TE) : TE := fun σ H Q => t2I ta tb (fun i j H2 => (-(2 ^ 64) < i ∧ i < 2 ^ 64) ∧ Q (.int (i * j)) H2) σ H
variable {a b : Expr} {ta tb : TE} {pos : Pos}
/-! ### comparisons -/
noncomputable def PC (X : Cx) (op : CmpOp) (a b : Expr) (t : TE) : Prop :=
  ∀ (pins : List (Addr × Obj)) (s : Shared) (σ : St) (H : Hp) (Q : VK), Inv X pins σ H s → t σ H Q →
    wpAny (model X.prog X.w) X.A (eval a X.env) (fun v s₁ => wpAny (model X.prog X.w) X.A (eval b X.env) (fun u s₂ => wpAny (model X.prog X.w) X.A (compareOp op v u) (EP X pins σ Q) X.xe s₂) X.xe s₁) X.xe s
noncomputable def tCmp (p : Int → Int → Bool) (ta tb : TE) : TE := fun σ H Q => t2I ta tb (fun i j H2 => Q (.bl (p i j)) H2) σ H
noncomputable abbrev tLt : TE → TE → TE := tCmp fun i j => decide (i < j)
noncomputable abbrev tLe : TE → TE → TE := tCmp fun i j => decide (i ≤ j)
noncomputable abbrev tGt : TE → TE → TE := tCmp fun i j => decide (j < i)
noncomputable abbrev tGe : TE → TE → TE := tCmp fun i j => decide (j ≤ i)
noncomputable abbrev tEqI : TE → TE → TE := tCmp fun i j => decide (i = j)
noncomputable abbrev tNeI : TE → TE → TE := tCmp fun i j => !decide (i = j)
/-- is None -/
noncomputable def tIsN (ta : TE) : TE := fun σ H Q => ta σ H fun x H1 => Q (.bl (decide (x = .non))) H1
noncomputable def tNotN (ta : TE) : TE := fun σ H Q => ta σ H fun x H1 => Q (.bl (!decide (x = .non))) H1
/-- a comparison as a value, as a test -/
noncomputable def tB (t : TE) : TT := fun σ H Q => t σ H fun x H1 => ∃ c, x = .bl c ∧ Q c H1
/-- an expression whose value is a bool, as a test -/
theorem pt_val {e : Expr} {t : TE} (h : PE X e t) (he : ∀ whole, isTrue e X.env whole = (do let v ← whole; standAt e.pos; holding [v] (truthy v)) := by intro _; rfl) : PT X e (tB t) := by
  intro pins s σ H Q I hw
  refine isTrue_plain (thn (h pins s σ H _ I hw) fun v s1 ⟨x, H1, I1, r1, q1⟩ => ?_) (he _)
  obtain ⟨d, rfl, q⟩ := q1
  cases r1
  exact wpAny_truthy_bool ⟨H1, I1, q⟩

/-! ### and, or, not -/
variable {tA tB' : TT} {rest : List Expr}
noncomputable def tAnd (t u : TT) : TT := fun σ H Q => t σ H fun c H1 => if c = true then u σ H1 Q else Q false H1
noncomputable def tOr (t u : TT) : TT := fun σ H Q => t σ H fun c H1 => if c = true then Q true H1 else u σ H1 Q
noncomputable def tNot (t : TT) : TT := fun σ H Q => t σ H fun c H1 => Q (!c) H1
theorem pw_and1 (ha : PT X a tA) : PW X (.BoolOp .And [a] pos) tA := by
  intro wh pins s σ H Q I h
  refine isTrue_and (thn (ha pins s σ H Q I h) fun c s1 e => ?_)
  cases c with
  | true => exact isTrue_and_nil e
  | false => exact e
theorem pw_or1 (ha : PT X a tA) : PW X (.BoolOp .Or [a] pos) tA := by
  intro wh pins s σ H Q I h
  refine isTrue_or (thn (ha pins s σ H Q I h) fun c s1 e => ?_)
  cases c with
  | false => exact isTrue_or_nil e
  | true => exact e
theorem pw_and (ha : PT X a tA) (hb : PW X (.BoolOp .And (b :: rest) pos) tB') : PW X (.BoolOp .And (a :: b :: rest) pos) (tAnd tA tB') := by
  intro wh pins s σ H Q I h
  refine isTrue_and (thn (ha pins s σ H _ I h) fun c s1 ⟨H1, I1, q1⟩ => ?_)
  cases c with
  | true => exact hb wh pins s1 σ H1 Q I1 q1
  | false => exact ⟨H1, I1, q1⟩
theorem pw_or (ha : PT X a tA) (hb : PW X (.BoolOp .Or (b :: rest) pos) tB') : PW X (.BoolOp .Or (a :: b :: rest) pos) (tOr tA tB') := by
  intro wh pins s σ H Q I h
  refine isTrue_or (thn (ha pins s σ H _ I h) fun c s1 ⟨H1, I1, q1⟩ => ?_)
  cases c with
  | true => exact ⟨H1, I1, q1⟩
  | false => exact hb wh pins s1 σ H1 Q I1 q1
theorem pt_not (ha : PT X a tA) : PT X (.UnaryOp .Not a pos) (tNot tA) := by
  intro pins s σ H Q I h
  exact isTrue_not (ha pins s σ H (fun c H1 => Q (!c) H1) I h)
/-- .. as values (bools) -/
noncomputable def tAndV (ta tb : TE) : TE := fun σ H Q => ta σ H fun x H1 => ∃ c, x = .bl c ∧ if c = true then tb σ H1 Q else Q (.bl false) H1
noncomputable def tOrV (ta tb : TE) : TE := fun σ H Q => ta σ H fun x H1 => ∃ c, x = .bl c ∧ if c = true then Q (.bl true) H1 else tb σ H1 Q
noncomputable def tNotV (ta : TE) : TE := fun σ H Q => ta σ H fun x H1 => ∃ c, x = .bl c ∧ Q (.bl (!c)) H1
theorem pe_one {op} {t : TE} (h : PE X a t) : PE X (.BoolOp op [a] pos) t := fun pins s σ H Q I hw => BoolOp_one (h pins s σ H Q I hw)
theorem pe_and (ha : PE X a ta) (hb : PE X (.BoolOp .And (b :: rest) pos) tb) : PE X (.BoolOp .And (a :: b :: rest) pos) (tAndV ta tb) := by
  intro pins s σ H Q I h
  refine BoolOp_and (thn (ha pins s σ H _ I h) fun v s1 ⟨x, H1, I1, r1, q1⟩ => ?_)
  obtain ⟨c, rfl, q1⟩ := q1
  cases r1
  refine wpAny_truthy_bool ?_
  cases c with
  | true => exact hb pins s1 σ H1 Q I1 q1
  | false => exact ⟨.bl false, H1, I1, rfl, q1⟩
/-- a if t else b -/
noncomputable def tIf (t : TT) (ta tb : TE) : TE := fun σ H Q => t σ H fun c H1 => if c = true then ta σ H1 Q else tb σ H1 Q
end
end L2

namespace L2
open PySem PySem.Spec PyProof.Rows

/-! ### a list, a tuple that is read: tracked, frozen, or an object of the module -/
noncomputable def SqL (K : PySem.W.Frag) (H : Hp) (a : Addr) (xs : List V) : Prop :=
  Rd H a (.lst xs) ∨
    ∃ (o : Obj) (its : Array Value) (n : Nat), K.lookup a = some o ∧ o.cls = .type "list" ∧ o.dict = none ∧ o.data = .seq its n ∧ its.size ≤ sizeLine ∧ Vals xs its.toList
noncomputable def SqT (K : PySem.W.Frag) (H : Hp) (a : Addr) (xs : List V) : Prop :=
  Rd H a (.tup xs) ∨
    ∃ (o : Obj) (its : Array Value) (n : Nat), K.lookup a = some o ∧ o.cls = .type "tuple" ∧ o.data = .seq its n ∧ its.size ≤ sizeLine ∧ Vals xs its.toList
noncomputable def absV : Value → Option V
  | .none => some .non
  | .bool b => some (.bl b)
  | .int i _ => some (.int i)
  | .str x _ => some (.str x)
  | .bytes b _ => some (.byt b)
  | .float b _ => some (.flt b)
  | .ref a => some (.ref a)
  | .type n => some (.ty n)
  | _ => none
theorem RelV.abs {x : V} {u : Value} (r : RelV x u) : absV u = some x := by
  cases x with
  | non => cases r; rfl
  | bl _ => cases r; rfl
  | int _ => obtain ⟨t, rfl⟩ := r; rfl
  | str _ => obtain ⟨t, rfl⟩ := r; rfl
  | byt _ => obtain ⟨t, rfl⟩ := r; rfl
  | flt _ => obtain ⟨t, rfl⟩ := r; rfl
  | ref _ => cases r; rfl
  | ty _ => cases r; rfl
theorem RelV.inj {x y : V} {u : Value} (r : RelV x u) (q : RelV y u) : x = y := Option.some.inj (r.abs.symm.trans q.abs)
theorem Vals.inj : ∀ {xs ys : List V} {us : List Value}, Vals xs us → Vals ys us → xs = ys
  | _, _, _, .nil, .nil => rfl
  | _, _, _, .cons r t, .cons r' t' => by rw [r.inj r', Vals.inj t t']
section
variable {X : Cx} {pins : List (Addr × Obj)} {σ : St} {H : Hp} {s : Shared} {a : Addr} {xs ys : List V}
theorem SqL.of {K : PySem.W.Frag} (h : H a = some (.lst xs)) : SqL K H a xs := .inl (.inl h)
theorem SqT.of {K : PySem.W.Frag} (h : H a = some (.tup xs)) : SqT K H a xs := .inl (.inl h)
theorem Inv.list (I : Inv X pins σ H s) (h : SqL X.K H a xs) : ∃ its : List Value, Vals xs its ∧ PlainL s.heap a its.toArray ∧ xs.length ≤ sizeLine := by
  rcases h with h | ⟨o, its, n, hk, hc, hd, hs, hz, r⟩
  · obtain ⟨z, its, n, r, e⟩ := h.ok I.hok
    exact ⟨its, r, ⟨_, n, e, rfl, rfl, rfl⟩, z⟩
  · refine ⟨its.toList, r, ⟨o, n, I.kIn a o hk, hc, hd, by simpa using hs⟩, ?_⟩
    have e := r.length
    simp only [Array.length_toList] at e
    omega
theorem Inv.tuple (I : Inv X pins σ H s) (h : SqT X.K H a xs) : ∃ its : List Value, Vals xs its ∧ IsTup s.heap a its.toArray ∧ xs.length ≤ sizeLine := by
  rcases h with h | ⟨o, its, n, hk, hc, hs, hz, r⟩
  · obtain ⟨z, its, r, p⟩ := h.ok I.hok
    exact ⟨its, r, p, z⟩
  · refine ⟨its.toList, r, ⟨o, I.kIn a o hk, hc, n, by simpa using hs⟩, ?_⟩
    have e := r.length
    simp only [Array.length_toList] at e
    omega
theorem Inv.list_inj (I : Inv X pins σ H s) (h : SqL X.K H a xs) (h' : SqL X.K H a ys) : xs = ys := by
  obtain ⟨its, r, ⟨o, n, e, _, _, d⟩, _⟩ := I.list h
  obtain ⟨its', r', ⟨o', n', e', _, _, d'⟩, _⟩ := I.list h'
  rw [e] at e'; cases e'
  rw [d] at d'
  injection d' with d1 _
  have : its = its' := by simpa using congrArg Array.toList d1
  subst this
  exact r.inj r'
theorem Inv.tuple_inj (I : Inv X pins σ H s) (h : SqT X.K H a xs) (h' : SqT X.K H a ys) : xs = ys := by
  obtain ⟨its, r, ⟨o, e, _, n, d⟩, _⟩ := I.tuple h
  obtain ⟨its', r', ⟨o', e', _, n', d'⟩, _⟩ := I.tuple h'
  rw [e] at e'; cases e'
  rw [d] at d'
  injection d' with d1 _
  have : its = its' := by simpa using congrArg Array.toList d1
  subst this
  exact r.inj r'
end

/-! ### another wish about exceptions -/
noncomputable abbrev Cx.wish (X : Cx) (E : Value → Shared → Prop) : Cx := { X with xe := E }
/-- no exception leaves -/
noncomputable abbrev Cx.nox (X : Cx) : Cx := X.wish fun _ _ => False
theorem Cx.Ok.wish {X : Cx} (ok : X.Ok) (E : Value → Shared → Prop) : (X.wish E).Ok :=
  ⟨ok.mod, ok.kind, ok.glob, ok.blt, ok.above, ok.inj, ok.has, ok.cab, ok.hd, ok.frames, ok.stk, ok.exf, ok.bs, ok.bsz, ok.noex, ok.exfs, ok.funs, ok.frf⟩
theorem Cx.Ok.unwish {X : Cx} {E : Value → Shared → Prop} (ok : (X.wish E).Ok) : X.Ok :=
  ⟨ok.mod, ok.kind, ok.glob, ok.blt, ok.above, ok.inj, ok.has, ok.cab, ok.hd, ok.frames, ok.stk, ok.exf, ok.bs, ok.bsz, ok.noex, ok.exfs, ok.funs, ok.frf⟩
section
variable {X : Cx} {pins : List (Addr × Obj)} {σ : St} {H : Hp} {s : Shared} {E : Value → Shared → Prop}
theorem Inv.wish (I : Inv X pins σ H s) (E : Value → Shared → Prop) : Inv (X.wish E) pins σ H s := ⟨I.ok.wish E, I.os, I.bare, I.base, I.loc, I.cell, I.free, I.freeC, I.pin, I.hok, I.len⟩
theorem Inv.unwish (I : Inv (X.wish E) pins σ H s) : Inv X pins σ H s := ⟨I.ok.unwish, I.os, I.bare, I.base, I.loc, I.cell, I.free, I.freeC, I.pin, I.hok, I.len⟩
theorem SP.unwish {D : Ends} {f : Flow} {s' : Shared} (h : SP (X.wish E) pins D f s') : SP X pins D f s' := by
  cases f with
  | next => obtain ⟨σ', H', I, q⟩ := h; exact ⟨σ', H', I.unwish, q⟩
  | brk => obtain ⟨σ', H', I, q⟩ := h; exact ⟨σ', H', I.unwish, q⟩
  | cont => obtain ⟨σ', H', I, q⟩ := h; exact ⟨σ', H', I.unwish, q⟩
  | ret u => obtain ⟨v, σ', H', I, r, q⟩ := h; exact ⟨v, σ', H', I.unwish, r, q⟩
theorem PE.nox {e : Expr} {t : TE} (h : PE X.nox e t) : PE X e t := fun pins s σ H Q I hw =>
  wpAny_mono (h pins s σ H Q (I.wish _) hw) (fun _ _ ⟨v, H', I', r, q⟩ => ⟨v, H', I'.unwish, r, q⟩) fun _ _ z => False.elim z
theorem PT.nox {e : Expr} {t : TT} (h : PT X.nox e t) : PT X e t := fun pins s σ H Q I hw =>
  wpAny_mono (h pins s σ H Q (I.wish _) hw) (fun _ _ ⟨H', I', q⟩ => ⟨H', I'.unwish, q⟩) fun _ _ z => False.elim z
theorem PSs.nox {st : List Stmt} {t : TS} (h : PSs X.nox st t) : PSs X st t := fun pins s σ H D I hw =>
  wpAny_mono (h pins s σ H D (I.wish _) hw) (fun _ _ q => q.unwish) fun _ _ z => False.elim z
end

/-! ### blocks and small statements -/
section
variable {X : Cx} {st : Stmt} {rest : List Stmt} {t u : TS} {e : Expr} {te : TE} {pos : Pos}
noncomputable def tNext : TS := fun D σ H => D.nx σ H
noncomputable def tSeq (t u : TS) : TS := fun D σ H => t { D with nx := u D } σ H
theorem pss_nil : PSs X [] tNext := fun _ _ σ H _ I h => wpAny_execs_nil ⟨σ, H, I, h⟩
theorem pss_cons (h1 : PS X st t) (h2 : PSs X rest u) : PSs X (st :: rest) (tSeq t u) := by
  intro pins s σ H D I h
  refine wpAny_execs_cons (thn (h1 pins s σ H { D with nx := u D } I h) fun f s1 q => ?_)
  cases f with
  | next =>
    obtain ⟨σ', H', I', q⟩ := q
    exact h2 pins s1 σ' H' D I' q
  | ret v => exact q
  | brk => exact q
  | cont => exact q
theorem pss_one (h1 : PS X st t) : PSs X [st] t := by
  intro pins s σ H D I h
  refine wpAny_execs_cons (thn (h1 pins s σ H D I h) fun f s1 q => ?_)
  cases f with
  | next => exact wpAny_execs_nil q
  | ret v => exact q
  | brk => exact q
  | cont => exact q
noncomputable def tBreak : TS := fun D σ H => D.bk σ H
noncomputable def tCont : TS := fun D σ H => D.ct σ H
/-- in a def's body nothing is shown -/
theorem Inv.quiet {pins : List (Addr × Obj)} {σ : St} {H : Hp} {s : Shared} (I : Inv X pins σ H s) : interactive X.env = false := by simp [interactive, I.ok.kind]
/-- an expression whose value is dropped -/
noncomputable def tDrop (te : TE) : TS := fun D σ H => te σ H fun _ H1 => D.nx σ H1
theorem ps_expr (he : PE X e te) (hs : swapsWith e none pos.line X.env = pure false := by rfl) : PS X (.Expr e pos) (tDrop te) := by
  intro pins s σ H D I h
  exact wpAny_Expr_any (thn (he pins s σ H _ I h) fun v s1 ⟨x, H1, I1, r1, q1⟩ => ⟨σ, H1, I1, q1⟩) I.quiet hs
noncomputable def tRet (te : TE) : TS := fun D σ H => te σ H D.rt
theorem ps_ret (he : PE X e te) : PS X (.Return (some e) pos) (tRet te) := by
  intro pins s σ H D I h
  exact wpAny_Return_some (thn (he pins s σ H _ I h) fun v s1 ⟨x, H1, I1, r1, q1⟩ => ⟨x, σ, H1, I1, r1, q1⟩)
noncomputable def tRetN : TS := fun D _ H => D.rt .non H
noncomputable def tIfS (c : TT) (t u : TS) : TS := fun D σ H => c σ H fun b H1 => if b = true then t D σ H1 else u D σ H1
theorem ps_if {c : Expr} {a b : List Stmt} {tc : TT} (hc : PT X c tc) (ha : PSs X a t) (hb : PSs X b u) : PS X (.If c a b pos) (tIfS tc t u) := by
  intro pins s σ H D I h
  refine wpAny_If (thn (hc pins s σ H _ I h) fun d s1 ⟨H1, I1, q1⟩ => ?_)
  cases d with
  | true => exact ha pins s1 σ H1 D I1 q1
  | false => exact hb pins s1 σ H1 D I1 q1
/-- code that the proof never comes to -/
noncomputable def tNever : TS := fun _ _ _ => False
end

/-! ### targets -/
noncomputable abbrev TG := V → St → Hp → (St → Hp → Prop) → Prop
noncomputable abbrev TGs := List V → St → Hp → (St → Hp → Prop) → Prop
noncomputable def PG (X : Cx) (target : Expr) (t : TG) : Prop :=
  ∀ (pins : List (Addr × Obj)) (s : Shared) (σ : St) (H : Hp) (v : V) (u : Value) (Q : St → Hp → Prop), Inv X pins σ H s → RelV v u → t v σ H Q →
    wpAny (model X.prog X.w) X.A (assign target X.env u) (fun _ s' => ∃ σ' H', Inv X pins σ' H' s' ∧ Q σ' H') X.xe s
/-- several targets, one after another -/
noncomputable def PGs (X : Cx) (ts : List Expr) (t : TGs) : Prop :=
  ∀ (pins : List (Addr × Obj)) (s : Shared) (σ : St) (H : Hp) (vs : List V) (us : List Value) (Q : St → Hp → Prop), Inv X pins σ H s → Vals vs us → t vs σ H Q →
    wpAny (model X.prog X.w) X.A (assignInOrder ((assignEach ts X.env).map (·.2)) us) (fun _ s' => ∃ σ' H', Inv X pins σ' H' s' ∧ Q σ' H') X.xe s
/-- o[i] = v, by values -/
noncomputable abbrev TSet := V → V → V → Hp → (Hp → Prop) → Prop
noncomputable def PSet (X : Cx) (t : TSet) : Prop :=
  ∀ (pins : List (Addr × Obj)) (s : Shared) (σ : St) (H : Hp) (o i v : V) (ov iv u : Value) (Q : Hp → Prop), Inv X pins σ H s → RelV o ov → RelV i iv → RelV v u → t o i v H Q →
    wpAny (model X.prog X.w) X.A (setItem ov iv u) (fun _ s' => ∃ H', Inv X pins σ H' s' ∧ Q H') X.xe s
/-- a op= b, by values -/
noncomputable abbrev TIp := V → V → Hp → VK → Prop
noncomputable def PIp (X : Cx) (op : Operator) (t : TIp) : Prop :=
  ∀ (pins : List (Addr × Obj)) (s : Shared) (σ : St) (H : Hp) (x y : V) (v u : Value) (Q : VK), Inv X pins σ H s → RelV x v → RelV y u → t x y H Q →
    wpAny (model X.prog X.w) X.A (inplaceOp op v u) (EP X pins σ Q) X.xe s
section
variable {X : Cx} {pos : Pos}
noncomputable def gName (i : Nat) : TG := fun v σ H Q => Q (σ.set i (some v)) H
theorem pg_name {i : Nat} {x : Str} (hN : X.N.Nodup) (hi : X.N[i]? = some x) (hx : Loc X.env.scope x) (hf : X.fn x = true ∨ X.env.scope.names.lookup x = some .local := by first | exact .inl rfl | exact .inr rfl | assumption) : PG X (.Name x pos) (gName i) := by
  intro pins s σ H v u Q I r h
  exact wpAny_assign_Name (store_ok I hN hi hx r (fun s' I' => ⟨_, H, I', h⟩) hf)
noncomputable def gNil : TGs := fun vs σ H Q => vs = [] ∧ Q σ H
noncomputable def gCons (t : TG) (u : TGs) : TGs := fun vs σ H Q => ∃ v r, vs = v :: r ∧ t v σ H fun σ' H' => u r σ' H' Q
theorem pgs_nil : PGs X [] gNil := by
  intro pins s σ H vs us Q I r h
  obtain ⟨e, h⟩ := h
  subst e
  cases r
  exact assignInOrder_nil ⟨σ, H, I, h⟩
theorem pgs_cons {e : Expr} {es : List Expr} {t : TG} {u : TGs} (h1 : PG X e t) (h2 : PGs X es u)
    (hs : (assignEach (e :: es) X.env).map (·.2) = assign e X.env :: (assignEach es X.env).map (·.2) := by rfl) : PGs X (e :: es) (gCons t u) := by
  intro pins s σ H vs us Q I r h
  obtain ⟨v, vr, e1, h⟩ := h
  subst e1
  cases r with
  | cons r rr =>
    rw [hs]
    refine assignInOrder_cons (thn (h1 pins s σ H _ _ _ I r h) fun _ s1 ⟨σ1, H1, I1, q1⟩ => ?_)
    exact h2 pins s1 σ1 H1 _ _ Q I1 rr q1
/-- (a, b, ..) = a tuple of that length -/
noncomputable def gTup (K : PySem.W.Frag) (n : Nat) (t : TGs) : TG := fun v σ H Q => ∃ a xs, v = .ref a ∧ SqT K H a xs ∧ xs.length = n ∧ t xs σ H Q
theorem pg_tup {es : List Expr} {k : Nat} {t : TGs} {n : Nat} (hc : X.calm = true) (h : PGs X es t)
    (hn : (assignEach es X.env).length = n := by rfl) (hst : (assignEach es X.env).findIdx? (·.1) = none := by rfl) : PG X (.Tuple es k pos) (gTup X.K n t) := by
  intro pins s σ H v u Q I r hw
  obtain ⟨a, xs, e1, hq, hl, hw⟩ := hw
  subst e1
  cases r
  obtain ⟨its, rv, ht, hz⟩ := I.tuple hq
  refine assign_Tuple_tuple (I.ok.hd hc) ht (by simp [hn, ← hl, rv.length]) hst fun h' hx => ?_
  have I1 : Inv X pins σ H { s with heap := h' } := I.kept (t' := s.toks) fun b o e => hx b o (Nat.ne_of_lt (Heap.lt_size e)) e
  exact h pins _ σ H xs _ Q I1 (by simpa using rv) hw
/-- o[i] = .. -/
noncomputable def gSub (to ti : TE) (t : TSet) : TG := fun v σ H Q => to σ H fun o H1 => ti σ H1 fun i H2 => t o i v H2 fun H3 => Q σ H3
/-- target = value -/
noncomputable def tAsg (te : TE) (g : TG) : TS := fun D σ H => te σ H fun x H1 => g x σ H1 D.nx
theorem ps_asg {tg e : Expr} {te : TE} {g : TG} (he : PE X e te) (hg : PG X tg g) (hs : swapsWithSole [tg] e pos.line X.env = pure false := by rfl) (hw : swappedStores [tg] e X.env = pure none := by rfl)
    (h1 : (assignEach [tg] X.env).map (·.2) = [assign tg X.env] := by rfl) : PS X (.Assign [tg] e pos) (tAsg te g) := by
  intro pins s σ H D I h
  refine wpAny_Assign_stores (thn (he pins s σ H _ I h) fun v s1 ⟨x, H1, I1, r1, q1⟩ => ?_) hs hw
  rw [h1]
  exact thn (hg pins s1 σ H1 x v _ I1 r1 q1) fun _ s2 q => q
/-- name = value -/
theorem ps_set {i : Nat} {x : Str} {e : Expr} {te : TE} {pos' : Pos} (hN : X.N.Nodup) (hi : X.N[i]? = some x) (hx : Loc X.env.scope x) (he : PE X e te) (hs : swapsWith e (some (.Name x pos')) pos.line X.env = pure false := by rfl) (hf : X.fn x = true ∨ X.env.scope.names.lookup x = some .local := by first | exact .inl rfl | exact .inr rfl | assumption) :
    PS X (.Assign [.Name x pos'] e pos) (tAsg te (gName i)) := by
  intro pins s σ H D I h
  refine wpAny_Assign_Name (thn (he pins s σ H _ I h) fun v s1 ⟨y, H1, I1, r1, q1⟩ => ?_) hs
  exact store_ok I1 hN hi hx r1 (fun s2 I2 => ⟨_, H1, I2, q1⟩) hf
/-- a, b = x, y with plain local names: stored from the right; the pair itself is not tracked (the opening rows as in PyProof/Rows/TupAssign.lean:23) -/
noncomputable def tPar (i j : Nat) (ta : TA) : TS := fun D σ H => ta σ H fun vs H1 => ∃ v w, vs = [v, w] ∧ D.nx ((σ.set i (some v)).set j (some w)) H1
theorem ps_par {i j : Nat} {x y : Str} {a b : Expr} {ta : TA} {px py pt : Pos} {kt k2 pt2} (hc : X.calm = true) (hN : X.N.Nodup) (hi : X.N[i]? = some x) (hj : X.N[j]? = some y) (hij : i ≠ j)
    (hx : X.env.scope.names.lookup x = some .local) (hy : X.env.scope.names.lookup y = some .local) (ha : PA X [a, b] ta)
    (hw : swappedStores [.Tuple [.Name x px, .Name y py] kt pt] (.Tuple [a, b] k2 pt2) X.env = pure (some [x, y]))
    (hs : swapsWithSole [.Tuple [.Name x px, .Name y py] kt pt] (.Tuple [a, b] k2 pt2) pos.line X.env = pure false := by rfl) :
    PS X (.Assign [.Tuple [.Name x px, .Name y py] kt pt] (.Tuple [a, b] k2 pt2) pos) (tPar i j ta) := by
  intro pins s σ H D I h
  rw [exec_Assign_arm]
  refine wpAny_bind (wpAny_standAt ?_)
  rw [hs]
  refine wpAny_bind (wpAny_pure ?_)
  rw [if_neg (by decide)]
  refine wpAny_bind (Tuple_ (thn (ha _ pins s σ H _ I h) fun us s1 ⟨vs, H1, I1, r1, q1⟩ => ?_))
  obtain ⟨v, w, e1, q1⟩ := q1
  subst e1
  obtain ⟨u1, u2, rfl, rv, rw'⟩ : ∃ u1 u2, us = [u1, u2] ∧ RelV v u1 ∧ RelV w u2 := by
    cases r1 with
    | cons p q =>
      cases q with
      | cons p' q' =>
        cases q'
        exact ⟨_, _, rfl, p, p'⟩
  refine wpAny_newObj_type ?_ (by show 2 ≤ sizeLine; decide)
  have I2 : Inv X pins σ H1 { s1 with heap := s1.heap.push { cls := .type "tuple", data := .seq [u1, u2].toArray } } := I1.kept (t' := s1.toks) fun b o e => Heap.get?_push_of_some _ e
  rw [hw]
  refine wpAny_bind (wpAny_pure ?_)
  show wpAny (model X.prog X.w) X.A (do rule "assign.swapped-stores"; let items ← unpackItems (.ref s1.heap.objs.size) 2 none; assignInOrder [fun v => bindName X.env y v, fun v => bindName X.env x v] items.reverse; pure Flow.next) _ _ _
  refine wpAny_bind (wpAny_rule (wpAny_bind (unpackItems_tuple (items := #[u1, u2]) (I.ok.hd hc) (IsTup.new s1.heap _) fun h' hx' => ?_)))
  have I3 := I2.kept (h' := h') (t' := s1.toks) fun b o e => hx' b o (Nat.ne_of_lt (Heap.lt_size e)) e
  show wpAny _ _ (assignInOrder [fun v => bindName X.env y v, fun v => bindName X.env x v] [u2, u1] >>= fun _ => pure Flow.next) _ _ _
  refine wpAny_bind (assignInOrder_cons (wpAny_bindName (store_ok I3 hN hj (.inl hy) rw' (fun s2 I4 => ?_) (.inr hy))))
  refine assignInOrder_cons (wpAny_bindName (store_ok I4 hN hi (.inl hx) rv (fun s3 I5 => assignInOrder_nil (wpAny_pure ?_)) (.inr hx)))
  rw [List.set_comm _ _ (Ne.symm hij)] at I5
  exact ⟨_, H1, I5, q1⟩
/-- name op= e -/
noncomputable def tAug (i : Nat) (te : TE) (ti : TIp) : TS := fun D σ H => ∃ x, σ[i]? = some (some x) ∧ te σ H fun y H1 => ti x y H1 fun z H2 => D.nx (σ.set i (some z)) H2
/-- o[i] op= e -/
noncomputable def tAugS (to ti te : TE) (tget : V → V → Hp → VK → Prop) (tip : TIp) (tset : TSet) : TS := fun D σ H => to σ H fun o H1 => ti σ H1 fun i H2 => tget o i H2 fun x H3 => te σ H3 fun y H4 => tip x y H4 fun z H5 => tset o i z H5 fun H6 => D.nx σ H6
/-- o[i], by values -/
noncomputable def PGet (X : Cx) (t : V → V → Hp → VK → Prop) : Prop :=
  ∀ (pins : List (Addr × Obj)) (s : Shared) (σ : St) (H : Hp) (o i : V) (ov iv : Value) (Q : VK), Inv X pins σ H s → RelV o ov → RelV i iv → t o i H Q →
    wpAny (model X.prog X.w) X.A (getItem ov iv) (EP X pins σ Q) X.xe s
/-- ints -/
noncomputable def ipI (f : Int → Int → Int) : TIp := fun x y H Q => ∃ i j, x = .int i ∧ y = .int j ∧ Q (.int (f i j)) H
end

/-! ### while -/
section
variable {X : Cx} {pos : Pos}
/-- the invariant W with its measure -/
noncomputable def tWhile (c : TT) (tb : TS) : TS := fun D σ H => ∃ W : Nat → St → Hp → Prop, (∃ m, W m σ H) ∧ ∀ m σ H, W m σ H →
  c σ H fun b H1 => if b = true then ∃ N : St → Hp → Prop, (∀ σ' H', N σ' H' → ∃ m', m' < m ∧ W m' σ' H') ∧ tb { D with nx := N, ct := N, bk := D.nx } σ H1 else D.nx σ H1
theorem ps_while {c : Expr} {body : List Stmt} {tc : TT} {tb : TS} (hp : PassesOwn (model X.prog X.w) X.A X.env X.xe) (hc : PT X c tc) (hb : PSs X body tb) : PS X (.While c body [] pos) (tWhile tc tb) := by
  intro pins s σ H D I h
  obtain ⟨W, ⟨m0, w0⟩, turn⟩ := h
  refine wpAny_While (codeAny_whileLoop (fun n s' => ∃ σ' H', Inv X pins σ' H' s' ∧ W n σ' H') ?_ m0 ⟨σ, H, I, w0⟩)
  rintro n s1 ⟨σ1, H1, I1, w1⟩
  refine wpAny_passesOwn hp (thn (hc pins s1 σ1 H1 _ I1 (turn n σ1 H1 w1)) fun b s2 ⟨H2, I2, q2⟩ => ?_)
  cases b with
  | true =>
    obtain ⟨N, hN, q2⟩ := q2
    rw [if_pos rfl]
    refine wpAny_passesOwn hp (thn (hb pins s2 σ1 H2 _ I2 q2) fun f s3 q3 => ?_)
    cases f with
    | next =>
      obtain ⟨σ3, H3, I3, n3⟩ := q3
      obtain ⟨m', hm, w3⟩ := hN σ3 H3 n3
      exact ⟨m', hm, σ3, H3, I3, w3⟩
    | cont =>
      obtain ⟨σ3, H3, I3, n3⟩ := q3
      obtain ⟨m', hm, w3⟩ := hN σ3 H3 n3
      exact ⟨m', hm, σ3, H3, I3, w3⟩
    | brk => exact q3
    | ret v => exact q3
  | false =>
    rw [if_neg Bool.false_ne_true]
    exact wpAny_execs_nil ⟨σ1, H2, I2, q2⟩
end

/-! ### what a loop or a comprehension walks -/
/-- at turn i: it yields x (the heap may grow), or it stops -/
structure It where
  go : Nat → Hp → Prop
  yld : Nat → Hp → V → Hp → Prop
  stop : Nat → Hp → Prop
/-- the iterator's own objects may turn: they are not the frame's, not pinned, younger than the entry (or a comprehension's own) -/
noncomputable def FpOk (X : Cx) (pins : List (Addr × Obj)) (H : Hp) (b : Addr) : Prop :=
  H b = none ∧ b ≠ X.env.locals ∧ b ∉ X.fs ∧ (b ∈ X.ex ∨ X.s₀.heap.objs.size ≤ b) ∧ (∀ x c, X.env.cells.lookup x = some c → c ≠ b) ∧ ∀ p ∈ X.pn ++ pins, p.1 ≠ b
theorem Inv.fpOk {X : Cx} {pins : List (Addr × Obj)} {σ : St} {H H' : Hp} {s : Shared} {b : Addr} (I : Inv X pins σ H s) (hb : s.heap.objs.size ≤ b) (hn : H' b = none) : FpOk X pins H' b := by
  refine ⟨hn, Nat.ne_of_gt (Nat.lt_of_lt_of_le I.lt hb), I.nofs hb, .inr (Nat.le_trans I.sz hb), fun x c e z => ?_, fun p hp z => ?_⟩
  · obtain ⟨v, q⟩ := I.cell x c e
    exact absurd (Nat.lt_of_lt_of_le q.lt (by rw [z]; exact hb)) (Nat.lt_irrefl _)
  · exact absurd (Nat.lt_of_lt_of_le (Heap.lt_size (I.pin p hp).1) (by rw [z]; exact hb)) (Nat.lt_irrefl _)
structure Turn (P : Program) (w : World) (K : PySem.W.Frag) (tg : Expr) (J : It) (fp : List Addr) (it : Addr) (tn : Nat → Heap → Prop) : Prop where
  mem : it ∈ fp
  obj : ∀ i h, tn i h → ∀ b ∈ fp, ∃ o, h.get? b = some o ∧ ∀ v, o.data ≠ .cell v
  keep : ∀ i h h', tn i h → (∀ b ∈ fp, ∀ o, h.get? b = some o → h'.get? b = some o) → tn i h'
  item : ∀ (X : Cx), X.prog = P → X.w = w → X.K = K → X.calm = true → ∀ (i : Nat) (pins : List (Addr × Obj)) (s : Shared) (σ : St) (H : Hp) (E : Value → Shared → Prop), Inv X pins σ H s → (∀ b ∈ fp, FpOk X pins H b) → tn i s.heap → J.go i H →
    wpAny (model P w) X.A (pyNext (.ref it)) (fun r s1 => ∃ u, r = some u ∧
      wpAny (model P w) X.A (letOwnedTupleGo tg (.ref it) u) (fun _ s2 => ∃ x H', Inv X pins σ H' s2 ∧ RelV x u ∧ J.yld i H x H' ∧ tn (i + 1) s2.heap ∧ ∀ b ∈ fp, H' b = none) E s1) E s
  done : ∀ (X : Cx), X.prog = P → X.w = w → X.K = K → X.calm = true → ∀ (i : Nat) (pins : List (Addr × Obj)) (s : Shared) (σ : St) (H : Hp) (E : Value → Shared → Prop), Inv X pins σ H s → (∀ b ∈ fp, FpOk X pins H b) → tn i s.heap → J.stop i H →
    wpAny (model P w) X.A (pyNext (.ref it)) (fun r s1 => r = none ∧ Inv X pins σ H s1) E s
  self : ∀ (A : Around) (i : Nat) (s : Shared) (Q : Value → Shared → Prop) (E : Value → Shared → Prop), tn i s.heap → Q (.ref it) s → wpAny (model P w) A (pyIter (.ref it)) Q E s
noncomputable abbrev TI := St → Hp → (It → Hp → Prop) → Prop
/-- an iterator has come -/
noncomputable def PIE (X : Cx) (pins : List (Addr × Obj)) (σ : St) (tg : Expr) (R : It → Hp → Prop) (itv : Value) (s2 : Shared) : Prop :=
  ∃ (it : Addr) (fp : List Addr) (tn : Nat → Heap → Prop) (J : It) (H' : Hp), itv = .ref it ∧ Inv X pins σ H' s2 ∧ Turn X.prog X.w X.K tg J fp it tn ∧ tn 0 s2.heap ∧ (∀ b ∈ fp, FpOk X pins H' b) ∧ R J H'
noncomputable def PI (X : Cx) (tg iter : Expr) (wi : TI) : Prop :=
  ∀ (pins : List (Addr × Obj)) (s : Shared) (σ : St) (H : Hp) (R : It → Hp → Prop), Inv X pins σ H s → wi σ H R →
    wpAny (model X.prog X.w) X.A (eval iter X.env) (fun v s1 => wpAny (model X.prog X.w) X.A (pyIter v) (PIE X pins σ tg R) X.xe s1) X.xe s

/-- the step ahead of the store is nothing for an iterator that keeps no tuple -/
theorem go_of {M : Model} {A : Around} {E : Value → Shared → Prop} {s : Shared} {tg : Expr} {it : Addr} {u : Value} {o : Obj} {n : String} {vs : Array Value} {Q : Unit → Shared → Prop} (ho : s.heap.get? it = some o) (hc : o.cls = .type n) (hd : o.data = .fields vs)
    (hn : ["enumerate", "zip", "dict_itemiterator", "dict_reverseitemiterator", "odict_iterator", "itertools.zip_longest", "itertools.pairwise"].contains n = false) (hQ : Q () s) : wpAny M A (letOwnedTupleGo tg (.ref it) u) Q E s := by
  unfold letOwnedTupleGo
  cases tg <;> first
    | exact wpAny_pure hQ
    | (cases u <;> first
        | exact wpAny_pure hQ
        | (refine wpAny_bind (wpAny_load ho ?_)
           rw [hc, hd]
           show wpAny M A (if (["enumerate", "zip", "dict_itemiterator", "dict_reverseitemiterator", "odict_iterator", "itertools.zip_longest", "itertools.pairwise"].contains n && vs[0]? == some (rawInt _)) = true then _ else _) Q E s
           rw [if_neg (by intro h; rw [hn, Bool.false_and] at h; cases h)]
           exact wpAny_pure hQ))

/-- the list at a, as it stands at each turn (a loop may append to it) -/
noncomputable def Itl (K : PySem.W.Frag) (a : Addr) : It :=
  ⟨fun i H => ∃ xs x, SqL K H a xs ∧ xs[i]? = some x, fun i H x H' => H' = H ∧ ∀ xs, SqL K H a xs → xs[i]? = some x, fun i H => ∃ xs, SqL K H a xs ∧ xs.length ≤ i⟩
noncomputable def Itt (K : PySem.W.Frag) (a : Addr) : It :=
  ⟨fun i H => ∃ xs x, SqT K H a xs ∧ xs[i]? = some x, fun i H x H' => H' = H ∧ ∀ xs, SqT K H a xs → xs[i]? = some x, fun i H => ∃ xs, SqT K H a xs ∧ xs.length ≤ i⟩
/-- lo, lo + 1, .. (n of them) -/
noncomputable def Itr (lo : Int) (n : Nat) : It := ⟨fun i _ => i < n, fun i H x H' => H' = H ∧ x = .int (lo + i), fun i _ => n ≤ i⟩
theorem turn_list {P : Program} {w : World} {K : PySem.W.Frag} {tg : Expr} (a it : Addr) : Turn P w K tg (Itl K a) [it] it (fun i h => h.IsListIter it a i) where
  mem := by simp
  obj := fun i h st b hb => by
    have e : b = it := by simpa using hb
    subst e
    obtain ⟨o, e, c, d⟩ := st
    exact ⟨o, e, fun v z => by rw [d] at z; cases z⟩
  keep := fun i h h' st k => st.at fun o e => k it (by simp) o e
  item := by
    intro X hP hw hK hc i pins s σ H E I hf st hg
    subst hP hw hK
    obtain ⟨xs, x, hq, hx⟩ := hg
    obtain ⟨its, rv, p, hz⟩ := I.list hq
    obtain ⟨u, hu, ru⟩ := rv.get hx
    obtain ⟨f0, f1, f2, f3, f4, f5⟩ := hf it (by simp)
    refine wpAny_pyNext_list_item st p.isList (x := u) (by simpa using hu) fun h' st' sb => ?_
    have I1 : Inv X pins σ H { s with heap := h' } := I.turned (t' := s.toks) (fun b o hb e => (sb.2 b hb).trans e) f0 f1 f3 f4 f5
    obtain ⟨o, e, c, d⟩ := id st'
    exact ⟨u, rfl, go_of (s := { s with heap := h' }) e c d (by decide) ⟨x, H, I1, ru, ⟨rfl, fun ys hy => by rw [I.list_inj hy hq]; exact hx⟩, st', fun b hb => (hf b hb).1⟩⟩
  done := by
    intro X hP hw hK hc i pins s σ H E I hf st hg
    subst hP hw hK
    obtain ⟨xs, hq, hx⟩ := hg
    obtain ⟨its, rv, p, hz⟩ := I.list hq
    obtain ⟨f0, f1, f2, f3, f4, f5⟩ := hf it (by simp)
    have hl := rv.length
    exact wpAny_pyNext_list_end (I.ok.hd hc) st p.isList (by simp; omega) fun h' eb => ⟨rfl, I.turned (t' := s.toks) (fun b o hb e => eb b o hb e) f0 f1 f3 f4 f5⟩
  self := fun _ _ _ _ _ st h => wpAny_pyIter_listiter st h
theorem turn_tuple {P : Program} {w : World} {K : PySem.W.Frag} {tg : Expr} (a it : Addr) : Turn P w K tg (Itt K a) [it] it (fun i h => h.IsTupleIter it a i) where
  mem := by simp
  obj := fun i h st b hb => by
    have e : b = it := by simpa using hb
    subst e
    obtain ⟨o, e, c, d⟩ := st
    exact ⟨o, e, fun v z => by rw [d] at z; cases z⟩
  keep := fun i h h' st k => st.at fun o e => k it (by simp) o e
  item := by
    intro X hP hw hK hc i pins s σ H E I hf st hg
    subst hP hw hK
    obtain ⟨xs, x, hq, hx⟩ := hg
    obtain ⟨its, rv, p, hz⟩ := I.tuple hq
    obtain ⟨u, hu, ru⟩ := rv.get hx
    obtain ⟨f0, f1, f2, f3, f4, f5⟩ := hf it (by simp)
    refine wpAny_pyNext_tuple_item st (show s.heap.IsTuple a its.toArray from p) (x := u) (by simpa using hu) fun h' st' sb => ?_
    have I1 : Inv X pins σ H { s with heap := h' } := I.turned (t' := s.toks) (fun b o hb e => (sb.2 b hb).trans e) f0 f1 f3 f4 f5
    obtain ⟨o, e, c, d⟩ := id st'
    exact ⟨u, rfl, go_of (s := { s with heap := h' }) e c d (by decide) ⟨x, H, I1, ru, ⟨rfl, fun ys hy => by rw [I.tuple_inj hy hq]; exact hx⟩, st', fun b hb => (hf b hb).1⟩⟩
  done := by
    intro X hP hw hK hc i pins s σ H E I hf st hg
    subst hP hw hK
    obtain ⟨xs, hq, hx⟩ := hg
    obtain ⟨its, rv, p, hz⟩ := I.tuple hq
    obtain ⟨f0, f1, f2, f3, f4, f5⟩ := hf it (by simp)
    have hl := rv.length
    exact wpAny_pyNext_tuple_end (I.ok.hd hc) st (show s.heap.IsTuple a its.toArray from p) (by simp; omega) fun h' eb => ⟨rfl, I.turned (t' := s.toks) (fun b o hb e => eb b o hb e) f0 f1 f3 f4 f5⟩
  self := fun _ _ _ _ _ st h => wpAny_pyIter_tupleiter st h
theorem turn_range {P : Program} {w : World} {K : PySem.W.Frag} {tg : Expr} (it : Addr) (lo : Int) (n : Nat) : Turn P w K tg (Itr lo n) [it] it (fun i h => IsRangeIter h it (lo + (i : Nat) * 1) ((n : Int) - (i : Nat)) 1) where
  mem := by simp
  obj := fun i h st b hb => by
    have e : b = it := by simpa using hb
    subst e
    exact ⟨_, st, fun v z => by
      have z' : Data.fields _ = Data.cell v := z
      cases z'⟩
  keep := fun i h h' st k => k it (by simp) _ st
  item := by
    intro X hP hw hK hc i pins s σ H E I hf st hg
    subst hP hw hK
    obtain ⟨f0, f1, f2, f3, f4, f5⟩ := hf it (by simp)
    have W := Walks.range (prog := X.prog) (w := X.w) (I.ok.hd hc) it lo 1 n
    refine W.item i s _ _ hg st fun v h' tk hv st' kk => ?_
    obtain ⟨t, rfl⟩ := hv
    have I1 : Inv X pins σ H { s with heap := h', toks := tk } := I.turned (fun b o hb e => kk b o (by simpa using hb) e) f0 f1 f3 f4 f5
    refine ⟨_, rfl, go_of (s := { s with heap := h', toks := tk }) (n := "range_iterator") st' rfl rfl (by decide) ⟨.int (lo + i), H, I1, ⟨t, ?_⟩, ⟨rfl, rfl⟩, st', fun b hb => (hf b hb).1⟩⟩
    rw [Int.mul_one]
  done := by
    intro X hP hw hK hc i pins s σ H E I hf st hg
    subst hP hw hK
    obtain ⟨f0, f1, f2, f3, f4, f5⟩ := hf it (by simp)
    exact wpAny_pyNext_range_end (I.ok.hd hc) st (by have : n ≤ i := hg; omega) fun h' eb => ⟨rfl, I.turned (t' := s.toks) (fun b o hb e => eb b o hb e) f0 f1 f3 f4 f5⟩
  self := fun _ _ _ _ _ st h => wpAny_pyIter_rangeiter st h
end L2

namespace L2
open PySem PySem.Spec PyProof.Rows
section
variable {X : Cx} {tg : Expr}
noncomputable def iList (K : PySem.W.Frag) (tl : TE) : TI := fun σ H R => tl σ H fun x H1 => ∃ a, x = .ref a ∧ (∃ xs, SqL K H1 a xs) ∧ R (Itl K a) H1
noncomputable def iTup (K : PySem.W.Frag) (tl : TE) : TI := fun σ H R => tl σ H fun x H1 => ∃ a, x = .ref a ∧ (∃ xs, SqT K H1 a xs) ∧ R (Itt K a) H1
theorem pi_list {l : Expr} {tl : TE} (hl : PE X l tl) : PI X tg l (iList X.K tl) := by
  intro pins s σ H R I h
  refine thn (hl pins s σ H _ I h) fun v s1 ⟨x, H1, I1, r1, q1⟩ => ?_
  obtain ⟨a, e, ⟨xs, hq⟩, q⟩ := q1
  subst e
  cases r1
  obtain ⟨its, rv, p, hz⟩ := I1.list hq
  refine wpAny_pyIter_list p.isList ?_
  refine ⟨s1.heap.objs.size, [s1.heap.objs.size], _, _, H1, rfl, I1.kept (t' := s1.toks) fun b o e => Heap.get?_push_of_some _ e, turn_list a _, ⟨_, Heap.get?_push_size _ rfl, rfl, rfl⟩, fun b hb => ?_, q⟩
  have e : b = s1.heap.objs.size := by simpa using hb
  subst e
  exact I1.fpOk (Nat.le_refl _) (I1.hok.fresh (Nat.le_refl _))
theorem pi_tup {l : Expr} {tl : TE} (hl : PE X l tl) : PI X tg l (iTup X.K tl) := by
  intro pins s σ H R I h
  refine thn (hl pins s σ H _ I h) fun v s1 ⟨x, H1, I1, r1, q1⟩ => ?_
  obtain ⟨a, e, ⟨xs, hq⟩, q⟩ := q1
  subst e
  cases r1
  obtain ⟨its, rv, p, hz⟩ := I1.tuple hq
  refine wpAny_pyIter_tuple (show s1.heap.IsTuple a its.toArray from p) ?_
  refine ⟨s1.heap.objs.size, [s1.heap.objs.size], _, _, H1, rfl, I1.kept (t' := s1.toks) fun b o e => Heap.get?_push_of_some _ e, turn_tuple a _, ⟨_, Heap.get?_push_size _ rfl, rfl, rfl⟩, fun b hb => ?_, q⟩
  have e : b = s1.heap.objs.size := by simpa using hb
  subst e
  exact I1.fpOk (Nat.le_refl _) (I1.hok.fresh (Nat.le_refl _))
/-- a range object just made, walked -/
theorem range_it {pins : List (Addr × Obj)} {σ : St} {H : Hp} {s : Shared} {R : It → Hp → Prop} {E : Value → Shared → Prop} {lo hi : Int} {t u v : Tok} {tk : Nat} (I : Inv X pins σ H s) (h1 : -(2 ^ 62) ≤ lo) (h2 : lo < 2 ^ 62) (h3 : -(2 ^ 62) ≤ hi) (h4 : hi < 2 ^ 62)
    (q : R (Itr lo (hi - lo).toNat) H) : wpAny (model X.prog X.w) X.A (pyIter (.ref s.heap.objs.size)) (PIE X pins σ tg R) E { s with heap := s.heap.push { cls := .type "range", data := .fields #[.int lo t, .int hi u, .int 1 v] }, toks := tk } := by
  refine wpAny_pyIter_range (IsRange.new ..) (small_one h1 h2 h3 h4) ?_
  have I1 : Inv X pins σ H { s with heap := s.heap.push { cls := .type "range", data := .fields #[.int lo t, .int hi u, .int 1 v] }, toks := tk } := I.kept fun b o e => Heap.get?_push_of_some _ e
  refine ⟨(s.heap.push { cls := .type "range", data := .fields #[.int lo t, .int hi u, .int 1 v] }).objs.size, [(s.heap.push { cls := .type "range", data := .fields #[.int lo t, .int hi u, .int 1 v] }).objs.size], _, _, H, rfl,
    I1.kept (t' := tk) fun b o e => Heap.get?_push_of_some _ e, turn_range _ lo (hi - lo).toNat, ?_, fun b hb => ?_, q⟩
  · have e1 : lo + ((0 : Nat) : Int) * 1 = lo := by simp
    have e2 : (((hi - lo).toNat : Nat) : Int) - ((0 : Nat) : Int) = Builtin.Range.rangeSize lo hi 1 := by rw [rangeSize_one]; split <;> omega
    show IsRangeIter _ _ (lo + ((0 : Nat) : Int) * 1) ((((hi - lo).toNat : Nat) : Int) - ((0 : Nat) : Int)) 1
    rw [e1, e2]
    exact Heap.get?_push_size _ rfl
  · have e : b = (s.heap.push { cls := .type "range", data := .fields #[.int lo t, .int hi u, .int 1 v] }).objs.size := by simpa using hb
    subst e
    exact I1.fpOk (Nat.le_refl _) (I1.hok.fresh (Nat.le_refl _))
noncomputable def iRng1 (ta : TA) : TI := fun σ H R => ta σ H fun vs H1 => ∃ j : Int, vs = [.int j] ∧ -(2 ^ 62) ≤ j ∧ j < 2 ^ 62 ∧ R (Itr 0 j.toNat) H1
noncomputable def iRng2 (ta : TA) : TI := fun σ H R => ta σ H fun vs H1 => ∃ i j : Int, vs = [.int i, .int j] ∧ (-(2 ^ 62) ≤ i ∧ i < 2 ^ 62 ∧ -(2 ^ 62) ≤ j ∧ j < 2 ^ 62) ∧ R (Itr i (j - i).toNat) H1
theorem pi_range1 {a : Expr} {ta : TA} {p pos : Pos} (hg : Gl X "range") (hm : X.mg "range" = none) (ha : PA X [a] ta) (hs : starEach [a] X.env = [(false, eval a X.env)] := by rfl) : PI X tg (.Call (.Name "range" p) [a] [] pos) (iRng1 ta) := by
  intro pins s σ H R I h
  refine Call_ (ld_blt I hg hm boot_range (PyProof.Rows.callWith_type1 (thn (ha pos pins s σ H _ I h) fun us s1 ⟨vs, H1, I1, r1, q1⟩ => ?_) hs rfl))
  obtain ⟨j, e, q1, q2, q⟩ := q1
  subst e
  cases r1 with
  | cons r rr =>
    cases rr
    obtain ⟨t, rfl⟩ := r
    exact call_range_1 (range_it I1 (by omega) (by omega) q1 q2 (by simpa using q))
/-! ### for -/
/-- W: the invariant by the turn and a measure; N: what the body is to reach -/
noncomputable def tFor (wi : TI) (g : TG) (tb : TS) : TS := fun D σ H => wi σ H fun J H1 => ∃ W : Nat → Nat → St → Hp → Prop, (∃ m, W 0 m σ H1) ∧ ∀ i m σ H, W i m σ H →
  (J.stop i H ∧ D.nx σ H) ∨ (J.go i H ∧ ∃ N : St → Hp → Prop, (∀ σ' H', N σ' H' → ∃ m', m' < m ∧ W (i + 1) m' σ' H') ∧ ∀ x H', J.yld i H x H' → g x σ H' fun σ2 H2 => tb { D with nx := N, ct := N, bk := D.nx } σ2 H2)
/-- the records at fp as they stand -/
noncomputable def pinsAt (fp : List Addr) (h : Heap) : List (Addr × Obj) := fp.filterMap fun b => (h.get? b).map fun o => (b, o)
theorem mem_pinsAt {fp : List Addr} {h : Heap} {b : Addr} {o : Obj} (hb : b ∈ fp) (e : h.get? b = some o) : (b, o) ∈ pinsAt fp h := List.mem_filterMap.mpr ⟨b, hb, by rw [e]; rfl⟩
theorem of_pinsAt {fp : List Addr} {h : Heap} {p : Addr × Obj} (hp : p ∈ pinsAt fp h) : p.1 ∈ fp ∧ h.get? p.1 = some p.2 := by
  obtain ⟨b, hb, e⟩ := List.mem_filterMap.mp hp
  cases q : h.get? b with
  | none => rw [q] at e; cases e
  | some o =>
    rw [q] at e
    have e' : (b, o) = p := Option.some.inj e
    subst e'
    exact ⟨hb, q⟩
theorem Inv.pinned {pins : List (Addr × Obj)} {σ : St} {H : Hp} {s : Shared} {fp : List Addr} (I : Inv X pins σ H s) (hf : ∀ b ∈ fp, FpOk X pins H b) (ho : ∀ b ∈ fp, ∃ o, s.heap.get? b = some o ∧ ∀ v, o.data ≠ .cell v) : Inv X (pins ++ pinsAt fp s.heap) σ H s :=
  I.pins_of fun p hp => (List.mem_append.mp hp).elim (fun z => I.pin p (List.mem_append_right _ z)) fun z => by
    obtain ⟨hb, e⟩ := of_pinsAt z
    obtain ⟨f0, f1, f2, _⟩ := hf p.1 hb
    obtain ⟨o, e', d⟩ := ho p.1 hb
    rw [e] at e'; cases e'
    exact ⟨e, f0, f1, f2, d⟩
theorem Inv.unpinned {pins pl : List (Addr × Obj)} {σ : St} {H : Hp} {s : Shared} (I : Inv X (pins ++ pl) σ H s) : Inv X pins σ H s := I.pins_of fun p hp => I.pin p (List.mem_append_right _ (List.mem_append_left _ hp))
theorem ps_for {iter : Expr} {body : List Stmt} {wi : TI} {g : TG} {tb : TS} {pos : Pos} (hp : PassesOwn (model X.prog X.w) X.A X.env X.xe) (hc : X.calm = true) (hi : PI X tg iter wi) (hg : PG X tg g) (hb : PSs X body tb)
    (hs : ∀ x, foldedSetIterable iter X.env x = pure x := by intro _; rfl) : PS X (.For tg iter body [] pos) (tFor wi g tb) := by
  intro pins s σ H D I h
  refine wpAny_For (thn (hi pins s σ H _ I h) fun v s1 h1 => thn h1 fun itv s2 h2 => ?_) hs
  obtain ⟨it, fp, tn, J, H2, e, I2, T, st2, f2, W, ⟨m0, w0⟩, turn⟩ := h2
  subst e
  -- what stays true of the iterator's objects through the loop
  have stat : ∀ {H' : Hp}, (∀ b ∈ fp, H' b = none) → ∀ b ∈ fp, FpOk X pins H' b := fun hn b hb => ⟨hn b hb, (f2 b hb).2⟩
  refine codeAny_forLoop_any (fun n s' => ∃ i σ' H', Inv X pins σ' H' s' ∧ tn i s'.heap ∧ (∀ b ∈ fp, H' b = none) ∧ W i n σ' H') ?_ m0 ⟨0, σ, H2, I2, st2, fun b hb => (f2 b hb).1, w0⟩
  rintro n s3 ⟨i, σ3, H3, I3, st3, fr3, w3⟩
  rcases turn i n σ3 H3 w3 with ⟨stop, qn⟩ | ⟨go, N, hN, step⟩
  · refine wpAny_passesOwn hp (thn (T.done X rfl rfl rfl hc i pins s3 σ3 H3 X.xe I3 (stat fr3) st3 stop) fun r s4 ⟨hr, I4⟩ => ?_)
    subst hr
    exact wpAny_execs_nil ⟨σ3, H3, I4, qn⟩
  · refine wpAny_passesOwn hp (thn (T.item X rfl rfl rfl hc i pins s3 σ3 H3 X.xe I3 (stat fr3) st3 go) fun r s4 ⟨u, hr, h4⟩ => ?_)
    subst hr
    refine wpAny_passesOwn hp (thn h4 fun _ s5 ⟨x, H5, I5, r5, y5, st5, fr5⟩ => ?_)
    have I5' := I5.pinned (stat fr5) (T.obj _ _ st5)
    refine wpAny_passesOwn hp (thn (hg _ s5 σ3 H5 x u _ I5' r5 (step x H5 y5)) fun _ s6 ⟨σ6, H6, I6, q6⟩ => ?_)
    refine wpAny_passesOwn hp (thn (hb _ s6 σ6 H6 _ I6 q6) fun f s7 q7 => ?_)
    have again : ∀ {σ7 : St} {H7 : Hp}, Inv X (pins ++ pinsAt fp s5.heap) σ7 H7 s7 → N σ7 H7 → ∃ m, m < n ∧ ∃ i σ' H', Inv X pins σ' H' s7 ∧ tn i s7.heap ∧ (∀ b ∈ fp, H' b = none) ∧ W i m σ' H' := fun {σ7 H7} I7 n7 => by
      obtain ⟨m', hm, w7⟩ := hN σ7 H7 n7
      refine ⟨m', hm, i + 1, σ7, H7, I7.unpinned, T.keep _ _ _ st5 fun b hb o e => (I7.pin (b, o) (List.mem_append_right _ (List.mem_append_right _ (mem_pinsAt hb e)))).1, fun b hb => ?_, w7⟩
      obtain ⟨o, e, d⟩ := T.obj _ _ st5 b hb
      exact (I7.pin (b, o) (List.mem_append_right _ (List.mem_append_right _ (mem_pinsAt hb e)))).2.1
    cases f with
    | next => obtain ⟨σ7, H7, I7, n7⟩ := q7; exact again I7 n7
    | cont => obtain ⟨σ7, H7, I7, n7⟩ := q7; exact again I7 n7
    | brk => obtain ⟨σ7, H7, I7, q7⟩ := q7; exact ⟨σ7, H7, I7.unpinned, q7⟩
    | ret v => obtain ⟨x7, σ7, H7, I7, r7, q7⟩ := q7; exact ⟨x7, σ7, H7, I7.unpinned, r7, q7⟩
end

/-! ### the forms one uses -/
/-- over a list that the body leaves as it is -/
theorem for_list {K : PySem.W.Frag} {a : Addr} {xs : List V} {g : TG} {tb : TS} {D : Ends} {σ : St} {H : Hp} (Pv : Nat → St → Hp → Prop) (h0 : Pv 0 σ H) (hl : ∀ i σ H, i ≤ xs.length → Pv i σ H → SqL K H a xs)
    (hs : ∀ i x σ H, xs[i]? = some x → Pv i σ H → g x σ H fun σ2 H2 => tb { D with nx := Pv (i + 1), ct := Pv (i + 1), bk := D.nx } σ2 H2) (hd : ∀ σ H, Pv xs.length σ H → D.nx σ H) :
    ∃ W : Nat → Nat → St → Hp → Prop, (∃ m, W 0 m σ H) ∧ ∀ i m σ H, W i m σ H →
      ((Itl K a).stop i H ∧ D.nx σ H) ∨ ((Itl K a).go i H ∧ ∃ N : St → Hp → Prop, (∀ σ' H', N σ' H' → ∃ m', m' < m ∧ W (i + 1) m' σ' H') ∧ ∀ x H', (Itl K a).yld i H x H' → g x σ H' fun σ2 H2 => tb { D with nx := N, ct := N, bk := D.nx } σ2 H2) := by
  refine ⟨fun i m σ H => m = xs.length - i ∧ i ≤ xs.length ∧ Pv i σ H, ⟨xs.length, by simp, Nat.zero_le _, h0⟩, ?_⟩
  rintro i m σ H ⟨rfl, hi, p⟩
  have q := hl i σ H hi p
  by_cases hlt : i < xs.length
  · refine .inr ⟨⟨xs, xs[i], q, by simp [hlt]⟩, Pv (i + 1), fun σ' H' p' => ⟨xs.length - (i + 1), by omega, rfl, hlt, p'⟩, fun x H' y => ?_⟩
    obtain ⟨e, y⟩ := y
    subst e
    exact hs i x σ _ (y xs q) p
  · have e : i = xs.length := by omega
    subst e
    exact .inl ⟨⟨xs, q, Nat.le_refl _⟩, hd σ H p⟩
theorem for_tup {K : PySem.W.Frag} {a : Addr} {xs : List V} {g : TG} {tb : TS} {D : Ends} {σ : St} {H : Hp} (Pv : Nat → St → Hp → Prop) (h0 : Pv 0 σ H) (hl : ∀ i σ H, i ≤ xs.length → Pv i σ H → SqT K H a xs)
    (hs : ∀ i x σ H, xs[i]? = some x → Pv i σ H → g x σ H fun σ2 H2 => tb { D with nx := Pv (i + 1), ct := Pv (i + 1), bk := D.nx } σ2 H2) (hd : ∀ σ H, Pv xs.length σ H → D.nx σ H) :
    ∃ W : Nat → Nat → St → Hp → Prop, (∃ m, W 0 m σ H) ∧ ∀ i m σ H, W i m σ H →
      ((Itt K a).stop i H ∧ D.nx σ H) ∨ ((Itt K a).go i H ∧ ∃ N : St → Hp → Prop, (∀ σ' H', N σ' H' → ∃ m', m' < m ∧ W (i + 1) m' σ' H') ∧ ∀ x H', (Itt K a).yld i H x H' → g x σ H' fun σ2 H2 => tb { D with nx := N, ct := N, bk := D.nx } σ2 H2) := by
  refine ⟨fun i m σ H => m = xs.length - i ∧ i ≤ xs.length ∧ Pv i σ H, ⟨xs.length, by simp, Nat.zero_le _, h0⟩, ?_⟩
  rintro i m σ H ⟨rfl, hi, p⟩
  have q := hl i σ H hi p
  by_cases hlt : i < xs.length
  · refine .inr ⟨⟨xs, xs[i], q, by simp [hlt]⟩, Pv (i + 1), fun σ' H' p' => ⟨xs.length - (i + 1), by omega, rfl, hlt, p'⟩, fun x H' y => ?_⟩
    obtain ⟨e, y⟩ := y
    subst e
    exact hs i x σ _ (y xs q) p
  · have e : i = xs.length := by omega
    subst e
    exact .inl ⟨⟨xs, q, Nat.le_refl _⟩, hd σ H p⟩
theorem for_range {lo : Int} {n : Nat} {g : TG} {tb : TS} {D : Ends} {σ : St} {H : Hp} (Pv : Nat → St → Hp → Prop) (h0 : Pv 0 σ H)
    (hs : ∀ i σ H, i < n → Pv i σ H → g (.int (lo + i)) σ H fun σ2 H2 => tb { D with nx := Pv (i + 1), ct := Pv (i + 1), bk := D.nx } σ2 H2) (hd : ∀ σ H, Pv n σ H → D.nx σ H) :
    ∃ W : Nat → Nat → St → Hp → Prop, (∃ m, W 0 m σ H) ∧ ∀ i m σ H, W i m σ H →
      ((Itr lo n).stop i H ∧ D.nx σ H) ∨ ((Itr lo n).go i H ∧ ∃ N : St → Hp → Prop, (∀ σ' H', N σ' H' → ∃ m', m' < m ∧ W (i + 1) m' σ' H') ∧ ∀ x H', (Itr lo n).yld i H x H' → g x σ H' fun σ2 H2 => tb { D with nx := N, ct := N, bk := D.nx } σ2 H2) := by
  refine ⟨fun i m σ H => m = n - i ∧ i ≤ n ∧ Pv i σ H, ⟨n, by simp, Nat.zero_le _, h0⟩, ?_⟩
  rintro i m σ H ⟨rfl, hi, p⟩
  by_cases hlt : i < n
  · refine .inr ⟨hlt, Pv (i + 1), fun σ' H' p' => ⟨n - (i + 1), by omega, rfl, hlt, p'⟩, fun x H' y => ?_⟩
    obtain ⟨e, y⟩ := y
    subst e y
    exact hs i σ _ hlt p
  · have e : i = n := by omega
    subst e
    exact .inl ⟨Nat.le_refl _, hd σ H p⟩
/-- while, by a word and a measure of the state -/
theorem while_by {c : TT} {tb : TS} {D : Ends} {σ : St} {H : Hp} (Pv : St → Hp → Prop) (μ : St → Hp → Nat) (h0 : Pv σ H)
    (hs : ∀ σ H, Pv σ H → c σ H fun b H1 => if b = true then tb { D with nx := fun σ' H' => Pv σ' H' ∧ μ σ' H' < μ σ H, ct := fun σ' H' => Pv σ' H' ∧ μ σ' H' < μ σ H, bk := D.nx } σ H1 else D.nx σ H1)
    (mono : ∀ σ H Q Q', (∀ b H1, Q b H1 → Q' b H1) → c σ H Q → c σ H Q') : tWhile c tb D σ H := by
  refine ⟨fun m σ H => m = μ σ H ∧ Pv σ H, ⟨_, rfl, h0⟩, ?_⟩
  rintro m σ H ⟨rfl, p⟩
  refine mono σ H _ _ (fun b H1 q => ?_) (hs σ H p)
  cases b with
  | true => exact ⟨_, fun σ' H' ⟨p', l⟩ => ⟨_, l, rfl, p'⟩, q⟩
  | false => exact q
end L2

namespace L2
open PySem PySem.Spec PyProof.Rows

noncomputable abbrev R2 := V → V → Hp → VK → Prop
/-- a two-place operation on values: f is binaryOp op, inplaceOp op or compareOp op -/
noncomputable def OpR (X : Cx) (f : Value → Value → Sem Value) (r : R2) : Prop :=
  ∀ (pins : List (Addr × Obj)) (s : Shared) (σ : St) (H : Hp) (x y : V) (v u : Value) (Q : VK), Inv X pins σ H s → RelV x v → RelV y u → r x y H Q →
    wpAny (model X.prog X.w) X.A (f v u) (EP X pins σ Q) X.xe s
/-- a one-place operation -/
noncomputable def UnR (X : Cx) (f : Value → Sem Value) (r : V → Hp → VK → Prop) : Prop :=
  ∀ (pins : List (Addr × Obj)) (s : Shared) (σ : St) (H : Hp) (x : V) (v : Value) (Q : VK), Inv X pins σ H s → RelV x v → r x H Q →
    wpAny (model X.prog X.w) X.A (f v) (EP X pins σ Q) X.xe s
/-- a call of a value that is known (a builtin, a type) with values -/
noncomputable def CallR (X : Cx) (f : Value) (r : List V → Hp → VK → Prop) : Prop :=
  ∀ (pins : List (Addr × Obj)) (s : Shared) (σ : St) (H : Hp) (xs : List V) (us : List Value) (Q : VK), Inv X pins σ H s → Vals xs us → r xs H Q →
    wpAny (model X.prog X.w) X.A (call f us) (EP X pins σ Q) X.xe s
/-- a value's truth -/
noncomputable def TruR (X : Cx) (r : V → Hp → (Bool → Hp → Prop) → Prop) : Prop :=
  ∀ (pins : List (Addr × Obj)) (s : Shared) (σ : St) (H : Hp) (x : V) (v : Value) (Q : Bool → Hp → Prop), Inv X pins σ H s → RelV x v → r x H Q →
    wpAny (model X.prog X.w) X.A (truthy v) (TP X pins σ Q) X.xe s

noncomputable def tOp (r : R2) (ta tb : TE) : TE := fun σ H Q => ta σ H fun x H1 => tb σ H1 fun y H2 => r x y H2 Q
noncomputable def tUn (r : V → Hp → VK → Prop) (ta : TE) : TE := fun σ H Q => ta σ H fun x H1 => r x H1 Q
/-- ints in, under C, and a value out -/
noncomputable def rI (C : Int → Int → Prop) (g : Int → Int → V) : R2 := fun x y H Q => ∃ i j, x = .int i ∧ y = .int j ∧ C i j ∧ Q (g i j) H
noncomputable def rI0 (g : Int → Int → V) : R2 := fun x y H Q => ∃ i j, x = .int i ∧ y = .int j ∧ Q (g i j) H
noncomputable def rU (g : Int → V) : V → Hp → VK → Prop := fun x H Q => ∃ i, x = .int i ∧ Q (g i) H

section
variable {X : Cx} {a b c : Expr} {ta tb tc : TE} {pos : Pos}

theorem binT (ha : PE X a ta) (hb : PE X b tb) {pins : List (Addr × Obj)} {s : Shared} {σ : St} {H : Hp} {R : V → V → Hp → Prop} (I : Inv X pins σ H s)
    (h : ta σ H fun x H1 => tb σ H1 fun y H2 => R x y H2) {Q : Value → Shared → Prop} {f : Value → Value → Sem Value}
    (hf : ∀ v u s2 x y H2, Inv X pins σ H2 s2 → RelV x v → RelV y u → R x y H2 → wpAny (model X.prog X.w) X.A (f v u) Q X.xe s2) :
    wpAny (model X.prog X.w) X.A (eval a X.env) (fun v s₁ => wpAny (model X.prog X.w) X.A (eval b X.env) (fun u s₂ => wpAny (model X.prog X.w) X.A (f v u) Q X.xe s₂) X.xe s₁) X.xe s := by
  refine thn (ha pins s σ H _ I h) fun v s1 ⟨x, H1, I1, r1, q1⟩ => ?_
  refine thn (hb pins s1 σ H1 _ I1 q1) fun u s2 ⟨y, H2, I2, r2, q2⟩ => ?_
  exact hf v u s2 x y H2 I2 r1 r2 q2

theorem pe_op {op : Operator} {r : R2} (ho : OpR X (binaryOp op) r) (ha : PE X a ta) (hb : PE X b tb) : PE X (.BinOp a op b pos) (tOp r ta tb) := by
  intro pins s σ H Q I h
  exact wpAny_BinOp (binT ha hb I h fun v u s2 x y H2 I2 rx ry q => ho pins s2 σ H2 x y v u Q I2 rx ry q)
theorem pe_un {op : UnaryOp} {r : V → Hp → VK → Prop} (ho : UnR X (unaryOp op) r) (ha : PE X a ta) : PE X (.UnaryOp op a pos) (tUn r ta) := by
  intro pins s σ H Q I h
  exact UnaryOp_ (thn (ha pins s σ H _ I h) fun v s1 ⟨x, H1, I1, r1, q1⟩ => ho pins s1 σ H1 x v Q I1 r1 q1)
/-! ### ints -/
theorem opI {f : Value → Value → Sem Value} {C : Int → Int → Prop} {g : Int → Int → Int}
    (rule : ∀ (i j : Int) (t u : Tok) (s : Shared) (Q : Value → Shared → Prop) (E : Value → Shared → Prop), C i j → Q (.int (g i j) s.toks) { s with toks := s.toks + 1 } → wpAny (model X.prog X.w) X.A (f (.int i t) (.int j u)) Q E s) :
    OpR X f (rI C fun i j => .int (g i j)) := by
  intro pins s σ H x y v u Q I rx ry h
  obtain ⟨i, j, rfl, rfl, hc, q⟩ := h
  obtain ⟨t, rfl⟩ := rx
  obtain ⟨t', rfl⟩ := ry
  exact rule i j t t' s _ _ hc ⟨.int (g i j), H, I.tok _, ⟨_, rfl⟩, q⟩
theorem opI0 {f : Value → Value → Sem Value} {g : Int → Int → Int}
    (rule : ∀ (i j : Int) (t u : Tok) (s : Shared) (Q : Value → Shared → Prop) (E : Value → Shared → Prop), Q (.int (g i j) s.toks) { s with toks := s.toks + 1 } → wpAny (model X.prog X.w) X.A (f (.int i t) (.int j u)) Q E s) :
    OpR X f (rI0 fun i j => .int (g i j)) := by
  intro pins s σ H x y v u Q I rx ry h
  obtain ⟨i, j, rfl, rfl, q⟩ := h
  obtain ⟨t, rfl⟩ := rx
  obtain ⟨t', rfl⟩ := ry
  exact rule i j t t' s _ _ ⟨.int (g i j), H, I.tok _, ⟨_, rfl⟩, q⟩
theorem opB0 {f : Value → Value → Sem Value} {g : Int → Int → Bool}
    (rule : ∀ (i j : Int) (t u : Tok) (s : Shared) (Q : Value → Shared → Prop) (E : Value → Shared → Prop), Q (.bool (g i j)) s → wpAny (model X.prog X.w) X.A (f (.int i t) (.int j u)) Q E s) :
    OpR X f (rI0 fun i j => .bl (g i j)) := by
  intro pins s σ H x y v u Q I rx ry h
  obtain ⟨i, j, rfl, rfl, q⟩ := h
  obtain ⟨t, rfl⟩ := rx
  obtain ⟨t', rfl⟩ := ry
  exact rule i j t t' s _ _ ⟨.bl (g i j), H, I, rfl, q⟩

noncomputable def CDiv (i j : Int) : Prop := 0 < j ∧ j < 1073741824
noncomputable def CDivN (i j : Int) : Prop := j ≠ 0 ∧ j.natAbs < 1073741824
noncomputable def CPow (i j : Int) : Prop := 0 ≤ j ∧ j ≤ 1000000 ∧ i.natAbs < 2 ^ 64
noncomputable def CMul (i j : Int) : Prop := (-(2 ^ 64) < i ∧ i < 2 ^ 64) ∨ (-(2 ^ 64) < j ∧ j < 2 ^ 64)
theorem CMul.ok {i j : Int} (h : CMul i j) : IntMulOk i j := by
  rcases h with ⟨h1, h2⟩ | ⟨h1, h2⟩
  · exact .of_left (intBits_le_64 h1 h2)
  · exact .of_right (intBits_le_64 h1 h2)
theorem op_add : OpR X (binaryOp .Add) (rI0 fun i j => .int (i + j)) := opI0 fun _ _ _ _ _ _ _ q => add_int q
theorem op_sub : OpR X (binaryOp .Sub) (rI0 fun i j => .int (i - j)) := opI0 fun _ _ _ _ _ _ _ q => sub_int q
/-- // by a positive divisor -/
theorem op_fdiv : OpR X (binaryOp .FloorDiv) (rI CDiv fun i j => .int (i / j)) := opI fun i j _ _ _ _ _ hc q => by
  have h1 : (0 : Int) < j := hc.1
  have h2 : j < 1073741824 := hc.2
  exact floordiv_int (by omega) (by rw [Int.fdiv_eq_ediv_of_nonneg i (by omega)]; exact q) (.inl (PyProof.noPylong_small (by omega)))
/-- % by a positive divisor of any size -/
theorem op_mod : OpR X (binaryOp .Mod) (rI (fun _ j => 0 < j) fun i j => .int (i % j)) := opI fun i j _ _ _ _ _ hc q => by
  have h1 : (0 : Int) < j := hc
  exact mod_int' (by omega) (by rw [Int.fmod_eq_emod_of_nonneg i (by omega)]; exact q)
theorem op_modN : OpR X (binaryOp .Mod) (rI (fun _ j => j ≠ 0) fun i j => .int (i.fmod j)) := opI fun _ _ _ _ _ _ _ hc q => mod_int' hc q
theorem op_pow : OpR X (binaryOp .Pow) (rI CPow fun i j => .int (i ^ j.toNat)) := opI fun _ _ _ _ _ _ _ hc q => pow_int_small hc.1 hc.2.1 hc.2.2 q
theorem unI {f : Value → Sem Value} {g : Int → Int}
    (rule : ∀ (i : Int) (t : Tok) (s : Shared) (Q : Value → Shared → Prop) (E : Value → Shared → Prop), Q (.int (g i) s.toks) { s with toks := s.toks + 1 } → wpAny (model X.prog X.w) X.A (f (.int i t)) Q E s) :
    UnR X f (rU fun i => .int (g i)) := by
  intro pins s σ H x v Q I rx h
  obtain ⟨i, rfl, q⟩ := h
  obtain ⟨t, rfl⟩ := rx
  exact rule i t s _ _ ⟨.int (g i), H, I.tok _, ⟨_, rfl⟩, q⟩
theorem un_neg : UnR X (unaryOp .USub) (rU fun i => .int (-i)) := unI fun _ _ _ _ _ q => neg_int q
/-! ### bools among ints: n += (a < b) -/
end

/-! ### comparisons -/
/-- the scalars that == tells apart as data does -/
noncomputable def scal : V → V → Bool
  | .non, .non => true | .non, .int _ => true | .int _, .non => true | .non, .bl _ => true | .bl _, .non => true | .non, .str _ => true | .str _, .non => true
  | .int _, .int _ => true | .bl _, .bl _ => true | .str _, .str _ => true | .byt _, .byt _ => true
  | .int _, .str _ => true | .str _, .int _ => true | .bl _, .str _ => true | .str _, .bl _ => true
  | _, _ => false
noncomputable def rEq : R2 := fun x y H Q => scal x y = true ∧ Q (.bl (decide (x = y))) H
noncomputable def rNe : R2 := fun x y H Q => scal x y = true ∧ Q (.bl (!decide (x = y))) H

theorem dec_int {i j : Int} : decide (V.int i = V.int j) = (i == j) := by
  rw [Bool.eq_iff_iff]
  simp
theorem dec_bl {i j : Bool} : decide (V.bl i = V.bl j) = (i == j) := by
  rw [Bool.eq_iff_iff]
  simp
theorem dec_str {i j : Str} : decide (V.str i = V.str j) = (i == j) := by
  rw [Bool.eq_iff_iff]
  simp
theorem dec_byt {i j : Array UInt8} : decide (V.byt i = V.byt j) = (i.toList == j.toList) := by
  rw [Bool.eq_iff_iff]
  cases i
  cases j
  simp

section
variable {X : Cx} {a b c : Expr} {ta tb tc : TE} {pos : Pos}
theorem fin_bl {pins : List (Addr × Obj)} {σ : St} {H : Hp} {s : Shared} {Q : VK} {k k' : Bool} (I : Inv X pins σ H s) (q : Q (.bl k) H) (e : k = k') : EP X pins σ Q (.bool k') s := by
  subst e
  exact ⟨.bl k, H, I, rfl, q⟩
theorem op_eq : OpR X (compareOp .Eq) rEq := by
  intro pins s σ H x y v u Q I rx ry h
  obtain ⟨hs, q⟩ := h
  cases x with
  | non =>
    cases rx
    cases y with
    | non => cases ry; exact PySem.EqNone.eq_none_none (fin_bl I q (by simp))
    | bl j => cases ry; exact PySem.EqNone.eq_none_bool (fin_bl I q (by simp))
    | int j => obtain ⟨t', rfl⟩ := ry; exact PySem.EqNone.eq_none_int (fin_bl I q (by simp))
    | str j => obtain ⟨t', rfl⟩ := ry; exact PySem.EqNone.eq_none_str (fin_bl I q (by simp))
    | _ => exact absurd (show false = true from hs) Bool.false_ne_true
  | bl i =>
    cases rx
    cases y with
    | non => cases ry; exact PySem.EqNone.eq_bool_none (fin_bl I q (by simp))
    | bl j => cases ry; exact eq_bool (fin_bl I q dec_bl)
    | str j => obtain ⟨t', rfl⟩ := ry; exact PySem.EqMixed.eq_bool_str (fin_bl I q (by simp))
    | _ => exact absurd (show false = true from hs) Bool.false_ne_true
  | int i =>
    obtain ⟨t, rfl⟩ := rx
    cases y with
    | non => cases ry; exact PySem.EqNone.eq_int_none (fin_bl I q (by simp))
    | int j => obtain ⟨t', rfl⟩ := ry; exact eq_int (fin_bl I q dec_int)
    | str j => obtain ⟨t', rfl⟩ := ry; exact PySem.EqMixed.eq_int_str (fin_bl I q (by simp))
    | _ => exact absurd (show false = true from hs) Bool.false_ne_true
  | str i =>
    obtain ⟨t, rfl⟩ := rx
    cases y with
    | non => cases ry; exact PySem.EqNone.eq_str_none (fin_bl I q (by simp))
    | bl j => cases ry; exact PySem.EqMixed.eq_str_bool (fin_bl I q (by simp))
    | int j => obtain ⟨t', rfl⟩ := ry; exact PySem.EqMixed.eq_str_int (fin_bl I q (by simp))
    | str j => obtain ⟨t', rfl⟩ := ry; exact eq_str (fin_bl I q dec_str)
    | _ => exact absurd (show false = true from hs) Bool.false_ne_true
  | byt i =>
    obtain ⟨t, rfl⟩ := rx
    cases y with
    | byt j => obtain ⟨t', rfl⟩ := ry; exact PySem.W.eq_bytes (fin_bl I q dec_byt)
    | _ => exact absurd (show false = true from hs) Bool.false_ne_true
  | _ => cases y <;> exact absurd (show false = true from hs) Bool.false_ne_true
theorem op_ne : OpR X (compareOp .NotEq) rNe := by
  intro pins s σ H x y v u Q I rx ry h
  obtain ⟨hs, q⟩ := h
  cases x with
  | non =>
    cases rx
    cases y with
    | non => cases ry; exact PySem.EqNone.ne_none_none (fin_bl I q (by simp))
    | bl j => cases ry; exact PySem.EqNone.ne_none_bool (fin_bl I q (by simp))
    | int j => obtain ⟨t', rfl⟩ := ry; exact PySem.EqNone.ne_none_int (fin_bl I q (by simp))
    | str j => obtain ⟨t', rfl⟩ := ry; exact PySem.EqNone.ne_none_str (fin_bl I q (by simp))
    | _ => exact absurd (show false = true from hs) Bool.false_ne_true
  | bl i =>
    cases rx
    cases y with
    | non => cases ry; exact PySem.EqNone.ne_bool_none (fin_bl I q (by simp))
    | bl j => cases ry; exact ne_bool (fin_bl I q (congrArg not dec_bl))
    | str j => obtain ⟨t', rfl⟩ := ry; exact PySem.EqMixed.ne_bool_str (fin_bl I q (by simp))
    | _ => exact absurd (show false = true from hs) Bool.false_ne_true
  | int i =>
    obtain ⟨t, rfl⟩ := rx
    cases y with
    | non => cases ry; exact PySem.EqNone.ne_int_none (fin_bl I q (by simp))
    | int j => obtain ⟨t', rfl⟩ := ry; exact ne_int (fin_bl I q (congrArg not dec_int))
    | str j => obtain ⟨t', rfl⟩ := ry; exact PySem.EqMixed.ne_int_str (fin_bl I q (by simp))
    | _ => exact absurd (show false = true from hs) Bool.false_ne_true
  | str i =>
    obtain ⟨t, rfl⟩ := rx
    cases y with
    | non => cases ry; exact PySem.EqNone.ne_str_none (fin_bl I q (by simp))
    | bl j => cases ry; exact PySem.EqMixed.ne_str_bool (fin_bl I q (by simp))
    | int j => obtain ⟨t', rfl⟩ := ry; exact PySem.EqMixed.ne_str_int (fin_bl I q (by simp))
    | str j => obtain ⟨t', rfl⟩ := ry; exact ne_str (fin_bl I q (congrArg not dec_str))
    | _ => exact absurd (show false = true from hs) Bool.false_ne_true
  | byt i =>
    obtain ⟨t, rfl⟩ := rx
    cases y with
    | byt j => obtain ⟨t', rfl⟩ := ry; exact PySem.W.ne_bytes (fin_bl I q (congrArg not dec_byt))
    | _ => exact absurd (show false = true from hs) Bool.false_ne_true
  | _ => cases y <;> exact absurd (show false = true from hs) Bool.false_ne_true

theorem op_lt : OpR X (compareOp .Lt) (rI0 fun i j => .bl (decide (i < j))) := opB0 fun _ _ _ _ _ _ _ q => lt_int q
theorem op_gt : OpR X (compareOp .Gt) (rI0 fun i j => .bl (decide (j < i))) := opB0 fun _ _ _ _ _ _ _ q => gt_int q
/-- is, is not of two objects that are tracked lists or instances -/
noncomputable def isObj : HO → Bool
  | .lst _ => true
  | .ins _ _ _ => true
  | _ => false
/-- two rules for one operation: by cases -/
theorem OpR.or {f : Value → Value → Sem Value} {r r' : R2} (h : OpR X f r) (h' : OpR X f r') : OpR X f (fun x y H Q => r x y H Q ∨ r' x y H Q) := by
  intro pins s σ H x y v u Q I rx ry q
  rcases q with q | q
  · exact h pins s σ H x y v u Q I rx ry q
  · exact h' pins s σ H x y v u Q I rx ry q

theorem nomark (b : Expr) {op : CmpOp} (h : op ≠ .In := by decide) (h2 : op ≠ .NotIn := by decide) : behindInMarks op b = false := by
  have e1 : (op == CmpOp.In) = false := by cases op <;> first | rfl | exact absurd rfl h
  have e2 : (op == CmpOp.NotIn) = false := by cases op <;> first | rfl | exact absurd rfl h2
  cases b <;> simp [behindInMarks, e1, e2]
/-- a comparison as a value; hm: nomark b, or (for in, not in) by with_unfolding_all rfl -/
theorem pe_cmpR {op : CmpOp} {r : R2} (ho : OpR X (compareOp op) r) (ha : PE X a ta) (hb : PE X b tb) (hm : behindInMarks op b = false) : PE X (.Compare a [op] [b] pos) (tOp r ta tb) := by
  intro pins s σ H Q I h
  exact wpAny_Compare1 (binT ha hb I h fun v u s2 x y H2 I2 rx ry q => ho pins s2 σ H2 x y v u Q I2 rx ry q) hm
/-- a reading of a value as a test -/
noncomputable def tTest (t : TE) : TT := fun σ H Q => t σ H fun x H' => ∃ k, x = .bl k ∧ Q k H'
theorem pt_cmpR {op : CmpOp} {r : R2} (ho : OpR X (compareOp op) r) (ha : PE X a ta) (hb : PE X b tb) (hm : behindInMarks op b = false) : PT X (.Compare a [op] [b] pos) (tTest (tOp r ta tb)) := by
  intro pins s σ H Q I h
  refine wpAny_isTrue_Compare1 (thn (ha pins s σ H _ I h) fun v s1 ⟨x, H1, I1, r1, q1⟩ => thn (hb pins s1 σ H1 _ I1 q1) fun u s2 ⟨y, H2, I2, r2, q2⟩ =>
    thn (ho pins s2 σ H2 x y v u _ I2 r1 r2 q2) fun c s3 ⟨z, H3, I3, r3, k, e, q3⟩ => ?_) hm
  subst e
  cases r3
  exact wpAny_truthy_bool ⟨H3, I3, q3⟩
/-- a op1 b op2 c -/
noncomputable def tChain (r r' : R2) (ta tb tc : TE) : TE := fun σ H Q => ta σ H fun x H1 => tb σ H1 fun y H2 => r x y H2 fun z H3 => ∃ k, z = .bl k ∧
  (if k = true then tc σ H3 fun w' H4 => r' y w' H4 Q else Q (.bl false) H3)
/-! ### truth -/
/-- a value's truth by the abstract heap -/
noncomputable def TruV (K : PySem.W.Frag) (x : V) (H : Hp) (k : Bool) : Prop :=
  match x with
  | .non => k = false
  | .bl b => k = b
  | .int i => k = (i != 0)
  | .str y => y.length ≤ sizeLine ∧ k = ((y.length : Int) != 0)
  | .byt y => y.size ≤ sizeLine ∧ k = ((y.size : Int) != 0)
  | .ref p => (∃ xs, SqL K H p xs ∧ k = !xs.isEmpty) ∨ (∃ xs, SqT K H p xs ∧ k = !xs.isEmpty) ∨ ∃ kvs, H p = some (.dK kvs) ∧ k = !kvs.isEmpty
  | _ => False
theorem line63 : (sizeLine : Nat) < 2 ^ 63 := by rw [sizeLine_eq]; decide
/-! ### strs and bytes -/
noncomputable def PlainIxT (b : Expr) : Prop := ∀ o i, subscripted b false o i = operate [o, i] (getItem o i)
/-! ### scalar builtins, by CallR -/
theorem vals1 {x : V} {us : List Value} (r : Vals [x] us) : ∃ u, us = [u] ∧ RelV x u := by
  cases r with
  | cons r1 r2 => cases r2; exact ⟨_, rfl, r1⟩
theorem call_abs : CallR X (.builtin "abs") (fun xs H Q => ∃ i, xs = [.int i] ∧ Q (.int (if i < 0 then -i else i)) H) := by
  intro pins s σ H xs us Q I r h
  obtain ⟨i, rfl, q⟩ := h
  obtain ⟨u, rfl, t, rfl⟩ := vals1 r
  exact call_abs_int fun u tk => ⟨.int (if i < 0 then -i else i), H, I.tok _, ⟨_, rfl⟩, q⟩
/-- len of a str, a bytes, a list, a tuple -/
noncomputable def LenV (K : PySem.W.Frag) (x : V) (H : Hp) (n : Nat) : Prop :=
  match x with
  | .str y => y.length ≤ sizeLine ∧ n = y.length
  | .byt y => y.size ≤ sizeLine ∧ n = y.size
  | .ref p => (∃ xs, SqL K H p xs ∧ n = xs.length) ∨ ∃ xs, SqT K H p xs ∧ n = xs.length
  | _ => False
end
end L2

namespace L2
open PySem PySem.Spec PyProof.Rows

/-! ### an instance, its attributes a map -/
structure ObjM (h : Heap) (x dx C : Addr) (mA : Str → Option Value) : Prop where
  obj : h.get? x = some (PySem.W.instObj C dx)
  ns : h.Ns1 dx mA
  ne : dx ≠ x

theorem lookIn_ns {h : Heap} {dx : Addr} {mA : Str → Option Value} (n : h.Ns1 dx mA) : ∃ od, h.get? dx = some od ∧ ∀ name, PySem.W.lookIn name od = some (mA name) := by
  obtain ⟨o, es, ep, ho, hd, hk, _, hm⟩ := n
  refine ⟨o, ho, fun name => ?_⟩
  have e := hm name
  unfold nsFind findBy at e
  rw [← Array.find?_toList] at e
  unfold PySem.W.lookIn
  rw [hd]
  dsimp only
  split
  · rename_i y q
    rw [q] at e
    exact congrArg some e
  · rename_i q
    rw [q] at e
    have a : es.toList.any (·.refKey) = false := by
      rw [List.any_eq_false]
      intro y hy
      obtain ⟨z, t, hkey⟩ := hk y (Array.mem_toList_iff.mp hy)
      simp [DictEntry.refKey, hkey]
    have a' : ¬ es.toList.any (·.refKey) = true := by rw [a]; exact Bool.false_ne_true
    rw [if_neg a']
    exact congrArg some e

theorem ObjM.look {h : Heap} {x dx C : Addr} {mA : Str → Option Value} (I : ObjM h x dx C mA) : ∃ od, PySem.W.InstAt h x (PySem.W.instObj C dx) C (some od) ∧ ∀ name, PySem.W.lookIn name od = some (mA name) :=
  let ⟨od, ho, hl⟩ := lookIn_ns I.ns
  ⟨od, ⟨I.obj, rfl, rfl, ho⟩, hl⟩

section
variable {prog : Program} {w : World} {A : Around} {E : Value → Shared → Prop} {s : Shared} {K : PySem.W.Frag} {x dx C f : Addr} {mA : Str → Option Value} {name : Str} {v : Value}

end

/-! ### the attributes as a list of pairs -/
noncomputable def putF (f : Str) (v : V) : List (Str × V) → List (Str × V)
  | [] => [(f, v)]
  | (g, x) :: r => if g = f then (g, v) :: r else (g, x) :: putF f v r
theorem RelO.none_of {o : Option Value} (r : RelO none o) : o = none := by
  cases o with
  | none => rfl
  | some u => exact (show False from r).elim
section
variable {P : Program} {w : World} {H H' : Hp} {h h' : Heap} {a C dx : Addr} {fs fs' : List (Str × V)}
theorem ins_get (hok : HOk P w H h) (e : H a = some (.ins C dx fs)) : ∃ mA, ObjM h a dx C mA ∧ (∀ f, RelO (fs.lookup f) (mA f)) ∧ PySem.Within mA (fs.map (·.1)) ∧ fs.length ≤ 1000 ∧ H dx = some (.own a) := by
  obtain ⟨d, z, ne, ob, mA, n, r, q⟩ := (show ObjOk P w H h a (.ins C dx fs) from hok a _ e)
  exact ⟨mA, ⟨ob, n, ne⟩, r, q, z, d⟩
end

/-! ### what of the text a class must have -/
structure Cls (K : PySem.W.Frag) (C : Addr) : Prop where
  pg : PySem.W.plainGet K C Str.empty = true
  hd : PySem.W.hasDictIn K C = true
  po : PySem.W.plainOver K C = true
  sa : PySem.W.findIn K (.ref C) "__setattr__" = some (some (.builtin "object.__setattr__"))
theorem Cls.get {K : PySem.W.Frag} {C : Addr} (c : Cls K C) (f : Str) : PySem.W.plainGet K C f = true := c.pg
/-- no class of it has the name -/
noncomputable def NoAttr (K : PySem.W.Frag) (C : Addr) (f : Str) : Prop := PySem.W.findIn K (.ref C) f = some none
/-- a constant of the class -/
structure Con (K : PySem.W.Frag) (C : Addr) (f : Str) (v : V) (u : Value) : Prop where
  at_ : PySem.W.findIn K (.ref C) f = some (some u)
  rel : RelV v u
  get : PySem.W.specialIn K u "__get__" = some none
  cp : PySem.W.copiedNames.contains f = false
/-- a method: a plain def of the class or of one above it -/
structure Meth (K : PySem.W.Frag) (C : Addr) (m : Str) (f : Addr) : Prop where
  at_ : PySem.W.findIn K (.ref C) m = some (some (.ref f))
  fn : PySem.W.isFn K (.ref f) = true
  kp : PySem.W.keepIn K (.ref f) = true

section
variable {X : Cx} {pins : List (Addr × Obj)} {σ : St} {H : Hp} {s : Shared} {a C dx : Addr} {fs : List (Str × V)} {f : Str} {v : V} {A : Around} {E : Value → Shared → Prop}

/-- a new instance, tracked, without attributes -/
theorem Inv.made (I : Inv X pins σ H s) : Inv X pins σ (upd (upd H s.heap.objs.size (.own (s.heap.objs.size + 1))) (s.heap.objs.size + 1) (.ins C s.heap.objs.size []))
    { s with heap := (s.heap.push PySem.W.emptyDict).push (PySem.W.instObj C s.heap.objs.size) } := by
  have e1 : (s.heap.push PySem.W.emptyDict).get? s.heap.objs.size = some PySem.W.emptyDict := Heap.get?_push_size s.heap rfl
  have e2 : ((s.heap.push PySem.W.emptyDict).push (PySem.W.instObj C s.heap.objs.size)).get? (s.heap.objs.size + 1) = some (PySem.W.instObj C s.heap.objs.size) := by
    have := Heap.get?_push_size (s.heap.push PySem.W.emptyDict) (o := PySem.W.instObj C s.heap.objs.size) rfl
    rwa [Heap.size_push] at this
  have e3 : (s.heap.push PySem.W.emptyDict).Ns s.heap.objs.size (fun _ => none) := ⟨PySem.W.emptyDict, #[], _, e1, rfl, (fun e he => absurd he (by simp)), fun _ => rfl⟩
  have I1 := I.laid (a := s.heap.objs.size) (o := .own (s.heap.objs.size + 1)) (h' := s.heap.push PySem.W.emptyDict) (t' := s.toks) (fun b u q => Heap.get?_push_of_some _ q) (Nat.le_refl _) ⟨_, e1⟩
  refine I1.laid (a := s.heap.objs.size + 1) (o := .ins C s.heap.objs.size []) (t' := s.toks) (fun b u q => Heap.get?_push_of_some _ q) (Nat.le_of_eq (Heap.size_push _ _)) ?_
  have ne : s.heap.objs.size ≠ s.heap.objs.size + 1 := Nat.ne_of_lt (Nat.lt_succ_self _)
  refine ⟨by rw [upd_ne ne, upd_same], Nat.zero_le _, ne, e2, fun _ => none, (Heap.Ns1.of_empty e3).at fun o q => Heap.get?_push_of_some _ q, fun _ => True.intro, fun y hy => absurd rfl hy⟩

end

/-! ### readings and rules -/
/-- e.f, an attribute of the instance -/
noncomputable def tFld (K : PySem.W.Frag) (ta : TE) (f : Str) : TE := fun σ H Q => ta σ H fun x H1 => ∃ a C dx fs v, x = .ref a ∧ H1 a = some (.ins C dx fs) ∧ Cls K C ∧ NoAttr K C f ∧ fs.lookup f = some v ∧ Q v H1
/-- e.f, a constant of the class -/
noncomputable def tCon (K : PySem.W.Frag) (ta : TE) (f : Str) : TE := fun σ H Q => ta σ H fun x H1 => ∃ a C dx fs v u, x = .ref a ∧ H1 a = some (.ins C dx fs) ∧ Cls K C ∧ Con K C f v u ∧ fs.lookup f = none ∧ Q v H1
/-- e.f = value -/
noncomputable def sFld (K : PySem.W.Frag) (ta tv : TE) (f : Str) : TS := fun D σ H => tv σ H fun y H1 => ta σ H1 fun x H2 => ∃ a C dx fs, x = .ref a ∧ H2 a = some (.ins C dx fs) ∧ Cls K C ∧ NoAttr K C f ∧ fs.length < 1000 ∧
  D.nx σ (upd H2 a (.ins C dx (putF f y fs)))
/-- an augmented operator on two values -/
noncomputable def InOp (X : Cx) (op : Operator) (rd : V → V → Hp → VK → Prop) : Prop :=
  ∀ (pins : List (Addr × Obj)) (s : Shared) (σ : St) (H : Hp) (x y : V) (u v : Value) (Q : VK), Inv X pins σ H s → RelV x u → RelV y v → rd x y H Q → wpAny (model X.prog X.w) X.A (inplaceOp op u v) (EP X pins σ Q) X.xe s
/-- e.f op= value -/
noncomputable def sFldAug (K : PySem.W.Frag) (ta tv : TE) (rd : V → V → Hp → VK → Prop) (f : Str) : TS := fun D σ H => ta σ H fun x H1 => ∃ a C dx fs v, x = .ref a ∧ H1 a = some (.ins C dx fs) ∧ Cls K C ∧ NoAttr K C f ∧ fs.lookup f = some v ∧
  tv σ H1 fun y H2 => rd v y H2 fun z H3 => ∃ dx' fs', H3 a = some (.ins C dx' fs') ∧ fs'.length < 1000 ∧ D.nx σ (upd H3 a (.ins C dx' (putF f z fs')))

section
variable {X : Cx} {o e value : Expr} {f : Str} {pos pos' tpos : Pos} {ta tv : TE}
noncomputable def rAdd : V → V → Hp → VK → Prop := fun x y H Q => ∃ i j, x = .int i ∧ y = .int j ∧ Q (.int (i + j)) H
noncomputable def rSub : V → V → Hp → VK → Prop := fun x y H Q => ∃ i j, x = .int i ∧ y = .int j ∧ Q (.int (i - j)) H
end

/-! ### isinstance -/
section
variable {X : Cx} {pins : List (Addr × Obj)} {σ : St} {H : Hp} {s : Shared} {A : Around} {E : Value → Shared → Prop} {Q : Value → Shared → Prop} {c : Value} {b : Bool}
/-- the type of a value, as the fragment's deciders take it; for an instance its class -/
inductive TyOf (K : PySem.W.Frag) (H : Hp) : V → Value → Prop where
  | non : TyOf K H .non (.type "NoneType")
  | bl (x : Bool) : TyOf K H (.bl x) (.type "bool")
  | int (i : Int) : TyOf K H (.int i) (.type "int")
  | str (x : Str) : TyOf K H (.str x) (.type "str")
  | flt (x : UInt64) : TyOf K H (.flt x) (.type "float")
  | lst {a : Addr} {xs : List V} (e : H a = some (.lst xs)) : TyOf K H (.ref a) (.type "list")
  | frz {a : Addr} {o : Obj} {xs : List V} (e : H a = some (.frz o (.lst xs))) : TyOf K H (.ref a) (.type "list")
  | tup {a : Addr} {xs : List V} (e : H a = some (.tup xs)) : TyOf K H (.ref a) (.type "tuple")
  | dK {a : Addr} {kvs : List (Key × V)} (e : H a = some (.dK kvs)) : TyOf K H (.ref a) (.type "dict")
  | dT {a : Addr} {kvs : List (List Key × V)} (e : H a = some (.dT kvs)) : TyOf K H (.ref a) (.type "dict")
  | ins {a C dx : Addr} {fs : List (Str × V)} (e : H a = some (.ins C dx fs)) (cl : Cls K C) (ha : PySem.W.findIn K (.ref C) "__class__" = some (some (.builtin "object.__class__")))
      (hn : PySem.W.specialIn K (.builtin "object.__class__") "__get__" = some (some (.builtin "getset_descriptor.__get__"))) (htk : PySem.W.takesIn K (.builtin "object.__class__") = some true)
      (hm : PySem.W.mroIn K C (.type "object") = some true) : TyOf K H (.ref a) (.ref C)
/-- isinstance(x, c) for one class c, a built-in or an own one: kitOne's answer -/
theorem isinst_ok {x : V} {u t : Value} (I : Inv X pins σ H s) (rx : RelV x u) (ty : TyOf X.K H x t) (e : PySem.W.kitOne X.K t c = some b) (h : ∀ tk, Q (.bool b) { s with toks := tk }) :
    wpAny (model X.prog X.w) A (call (.builtin "isinstance") [u, c]) Q E s := by
  cases ty with
  | non => cases (show u = Value.none from rx); exact PySem.W.kia_one PySem.W.kitx_none I.kIn True.intro e (fun z => nomatch z) h
  | bl y => cases (show u = Value.bool y from rx); exact PySem.W.kia_one PySem.W.kitx_bool I.kIn True.intro e (fun z => nomatch z) h
  | int i => obtain ⟨t, q⟩ := (show ∃ t, u = Value.int i t from rx); cases q; exact PySem.W.kia_one PySem.W.kitx_int I.kIn True.intro e (fun z => nomatch z) h
  | str y => obtain ⟨t, q⟩ := (show ∃ t, u = Value.str y t from rx); cases q; exact PySem.W.kia_one PySem.W.kitx_str I.kIn True.intro e (fun z => nomatch z) h
  | flt y => obtain ⟨t, q⟩ := (show ∃ t, u = Value.float y t from rx); cases q; exact PySem.W.kia_one PySem.W.kitx_float I.kIn True.intro e (fun z => nomatch z) h
  | @lst a xs ea =>
    cases (show u = Value.ref a from rx)
    obtain ⟨_, _, n, _, h1⟩ := (show ObjOk X.prog X.w H s.heap a (.lst xs) from I.hok a _ ea)
    exact PySem.W.kia_one PySem.W.kitx_list I.kIn ⟨_, h1, rfl⟩ e (fun z => nomatch z) h
  | @frz a ob xs ea =>
    cases (show u = Value.ref a from rx)
    obtain ⟨_, _, _, n, _, h1⟩ := (show ObjOk X.prog X.w H s.heap a (.frz ob (.lst xs)) from I.hok a _ ea)
    exact PySem.W.kia_one PySem.W.kitx_list I.kIn ⟨_, h1, rfl⟩ e (fun z => nomatch z) h
  | @tup a xs ea =>
    cases (show u = Value.ref a from rx)
    obtain ⟨_, _, _, p⟩ := (show ObjOk X.prog X.w H s.heap a (.tup xs) from I.hok a _ ea)
    obtain ⟨o, h1, h2, _⟩ := p
    exact PySem.W.kia_one PySem.W.kitx_tuple I.kIn ⟨o, h1, h2⟩ e (fun z => nomatch z) h
  | @dK a kvs ea =>
    cases (show u = Value.ref a from rx)
    obtain ⟨_, _, vs, _, p⟩ := (show ObjOk X.prog X.w H s.heap a (.dK kvs) from I.hok a _ ea)
    obtain ⟨o, es, ep, h1, h2, _⟩ := p
    exact PySem.W.kia_one PySem.W.kitx_dict I.kIn ⟨o, h1, h2.1⟩ e (fun z => nomatch z) h
  | @dT a kvs ea =>
    cases (show u = Value.ref a from rx)
    obtain ⟨_, _, xs, _, o, es, ep, h1, h2, _⟩ := (show ObjOk X.prog X.w H s.heap a (.dT kvs) from I.hok a _ ea)
    exact PySem.W.kia_one PySem.W.kitx_dict I.kIn ⟨o, h1, h2.1⟩ e (fun z => nomatch z) h
  | @ins a C dx fs ea cl ha hn htk hm =>
    cases (show u = Value.ref a from rx)
    obtain ⟨mA, O, _⟩ := ins_get I.hok ea
    obtain ⟨od, J, _⟩ := O.look
    exact PySem.W.kia_one (PySem.W.kitx_own (cl.get _) cl.hd ha hn htk hm) I.kIn J e (fun z => nomatch z) h
end
end L2

namespace L2
open PySem PySem.Spec PyProof.Rows

/-! ### room -/
structure Room (k : Nat) (A : Around) : Prop where
  hd : A.handled = none
  dp : A.depth + 3 * k + 5 < recursionLimit
  un : A.units + 16 * k + 200 < cLine
theorem Room.mono {j k : Nat} {A : Around} (r : Room k A) (h : j ≤ k) : Room j A := ⟨r.hd, by have := r.dp; omega, by have := r.un; omega⟩
theorem Room.deeper {k : Nat} {A : Around} (r : Room (k + 1) A) (env : Env) : Room k (A.deeper env) :=
  ⟨r.hd, by have := r.dp; show A.depth + 1 + 3 * k + 5 < _; omega, by have := r.un; show A.units + 3 + 16 * k + 200 < _; omega⟩
theorem Room.in1 {k : Nat} {A : Around} (r : Room (k + 1) A) : Room k A.in1 :=
  ⟨r.hd, by have := r.dp; show A.depth + 3 * k + 5 < _; omega, by have := r.un; show A.units + 1 + 16 * k + 200 < _; omega⟩
theorem Room.depth {k : Nat} {A : Around} (r : Room k A) : A.depth < recursionLimit := by have := r.dp; omega
theorem Room.units {k : Nat} {A : Around} (r : Room k A) : A.units + 64 < cLine := by have := r.un; omega
/-! ### argument lists and displays -/
noncomputable def tNil : TA := fun _ H Q => Q [] H
noncomputable def tCons (ta : TE) (tr : TA) : TA := fun σ H Q => ta σ H fun x H1 => tr σ H1 fun xs H2 => Q (x :: xs) H2
section
variable {X : Cx} {e : Expr} {es : List Expr} {te : TE} {t : TA} {pos : Pos}
theorem pa_nil : PA X [] tNil := fun _ _ _ _ H Q I h => Calls.spliced_nil ⟨[], H, I, .nil, h⟩
theorem pa_cons (ha : PE X e te) (hr : PA X es t) (hs : starEach (e :: es) X.env = (false, eval e X.env) :: starEach es X.env := by rfl) : PA X (e :: es) (tCons te t) := by
  intro pos pins s σ H Q I h
  rw [hs]
  show wpAny _ _ (spliced ((false, eval e X.env) :: backTo pos (starEach es X.env))) _ _ s
  refine Calls.spliced_cons (thn (ha pins s σ H _ I h) fun u s1 ⟨x, H1, I1, r1, q1⟩ => ?_)
  exact thn (hr pos pins s1 σ H1 _ I1 q1) fun us s2 ⟨xs, H2, I2, r2, q2⟩ => ⟨x :: xs, H2, I2, .cons r1 r2, q2⟩

/-- a tuple, a list of written items -/
noncomputable def tTup (t : TA) : TE := fun σ H Q => t σ H fun xs H1 => xs.length ≤ sizeLine ∧ ∀ p, H1 p = none → Q (.ref p) (upd H1 p (.tup xs))
noncomputable def tLst (t : TA) : TE := fun σ H Q => t σ H fun xs H1 => xs.length ≤ sizeLine ∧ ∀ p, H1 p = none → Q (.ref p) (upd H1 p (.lst xs))
theorem pe_tup {x1} (h : PA X es t) : PE X (.Tuple es x1 pos) (tTup t) := by
  intro pins s σ H Q I hq
  refine wpAny_Tuple_spliced (thn (h pos pins s σ H _ I hq) fun us s1 ⟨xs, H1, I1, r, z, q⟩ => ⟨by rw [← r.length]; exact z, ?_⟩)
  have hf : H1 s1.heap.objs.size = none := I1.hok.fresh (Nat.le_refl _)
  refine ⟨.ref s1.heap.objs.size, upd H1 s1.heap.objs.size (.tup xs), I1.laid (t' := s1.toks) (fun b u e => Heap.get?_push_of_some _ e) (Nat.le_refl _) ?_, rfl, q _ hf⟩
  exact ⟨z, us, r, ⟨_, Heap.get?_push_size _ rfl, rfl, _, rfl⟩⟩
theorem pe_lst (h : PA X es t) : PE X (.List es pos) (tLst t) := by
  intro pins s σ H Q I hq
  refine wpAny_List_spliced (thn (h pos pins s σ H _ I hq) fun us s1 ⟨xs, H1, I1, r, z, q⟩ => ⟨by rw [← r.length]; exact z, ?_⟩)
  have hf : H1 s1.heap.objs.size = none := I1.hok.fresh (Nat.le_refl _)
  refine ⟨.ref s1.heap.objs.size, upd H1 s1.heap.objs.size (.lst xs), I1.laid (t' := s1.toks) (fun b u e => Heap.get?_push_of_some _ e) (Nat.le_refl _) ?_, rfl, q _ hf⟩
  exact ⟨z, us, 0, r, Heap.get?_push_size _ rfl⟩
end

/-! ### what a def promises -/
/-- a def's promise: the bound arguments in the parameters' order, the heap, the wanted end, the wanted exception -/
noncomputable abbrev Sp := List V → Hp → VK → XK → Prop
/-- how an exception lies behind a call (file 08 gives it): the callers' frames, abstract heap and state ahead of the call, the wish, the exception, the state -/
noncomputable abbrev CXT := List Env → Hp → Shared → XK → Value → Shared → Prop

/-- the state at a call -/
structure Env0 (P : Program) (w : World) (K : PySem.W.Frag) (mg : Str → Option Value) (base : Heap) (A : Around) (outer : List Env) (s : Shared) (H : Hp) : Prop where
  frames : A.frames = some outer
  mod : Mod K mg base
  bs : ∀ b o, base.get? b = some o → s.heap.get? b = some o ∧ H b = none
  bsz : base.objs.size ≤ s.heap.objs.size
  funs : s.heap.FunFrames base outer
  frf : ∀ b ∈ frs outer, H b = none
  hok : HOk P w H s.heap
  bare : AllBare s.gens
/-- a call's end -/
noncomputable def CE (outer : List Env) (P : Program) (w : World) (H : Hp) (s : Shared) (Q : VK) (u : Value) (s' : Shared) : Prop :=
  ∃ v H', s'.os = s.os ∧ AllBare s'.gens ∧ Un (frs outer) [] H H' s.heap s'.heap ∧ HOk P w H' s'.heap ∧ RelV v u ∧ Q v H'
noncomputable def CR (CX : CXT) (outer : List Env) (P : Program) (w : World) (H : Hp) (s : Shared) (Q : VK) (E : XK) (r : Result) (s' : Shared) : Prop :=
  match r with
  | .ok (.ret u) => CE outer P w H s Q u s'
  | .ok _ => False
  | .error e => CX outer H s E e s'
structure FnOk (P : Program) (w : World) (K : PySem.W.Frag) (mg : Str → Option Value) (base : Heap) (CX : CXT) (k : Nat) (f : Addr) (fd : FuncData) (ps : List Str) (sp : Sp) : Prop where
  len : ∀ vs H Q E, sp vs H Q E → vs.length = ps.length
  run : ∀ (A : Around) (outer : List Env) (s : Shared) (H : Hp) (args : Args) (us : List Value) (vs : List V) (Q : VK) (E : XK), Room k A → Env0 P w K mg base A outer s H → BindsTo s fd args (ps.zip us) → Vals vs us → sp vs H Q E →
    codeAny (model P w) A (.call (.ref f) args) (CR CX outer P w H s Q E) s
theorem FnOk.mono {P : Program} {w : World} {K : PySem.W.Frag} {mg : Str → Option Value} {base : Heap} {CX : CXT} {j k : Nat} {f : Addr} {fd : FuncData} {ps : List Str} {sp : Sp} (F : FnOk P w K mg base CX j f fd ps sp) (h : j ≤ k) :
    FnOk P w K mg base CX k f fd ps sp := ⟨F.len, fun A outer s H args us vs Q E hr => F.run A outer s H args us vs Q E (hr.mono h)⟩
/-- a weaker promise -/
theorem FnOk.imp {P : Program} {w : World} {K : PySem.W.Frag} {mg : Str → Option Value} {base : Heap} {CX : CXT} {k : Nat} {f : Addr} {fd : FuncData} {ps : List Str} {sp sp' : Sp} (F : FnOk P w K mg base CX k f fd ps sp)
    (h : ∀ vs H Q E, sp' vs H Q E → sp vs H Q E) : FnOk P w K mg base CX k f fd ps sp' :=
  ⟨fun vs H Q E q => F.len vs H Q E (h _ _ _ _ q), fun A outer s H args us vs Q E hr he hb hv hs => F.run A outer s H args us vs Q E hr he hb hv (h _ _ _ _ hs)⟩

theorem Env0.in1 {P : Program} {w : World} {K : PySem.W.Frag} {mg : Str → Option Value} {base : Heap} {A : Around} {outer : List Env} {s : Shared} {H : Hp} (e : Env0 P w K mg base A outer s H) :
    Env0 P w K mg base A.in1 outer s H := ⟨e.frames, e.mod, e.bs, e.bsz, e.funs, e.frf, e.hok, e.bare⟩

section
variable {X : Cx} {pins : List (Addr × Obj)} {σ : St} {H : Hp} {s s' : Shared}
/-- from a body: what a callee wants -/
theorem Inv.env0 (I : Inv X pins σ H s) : Env0 X.prog X.w X.K X.mg X.base X.A X.stack s H :=
  ⟨I.ok.frames, I.ok.mod, I.bs, Nat.le_trans I.ok.bsz I.sz, I.stack, I.stkFree, I.hok, I.bare⟩
/-- behind a call -/
theorem Inv.after {Q : VK} {u : Value} (I : Inv X pins σ H s) (h : CE X.stack X.prog X.w H s Q u s') : EP X pins σ Q u s' := by
  obtain ⟨v, H', os, bare, un, hok, r, q⟩ := h
  obtain ⟨hh, g, d, t, os'⟩ := s'
  obtain rfl : os' = s.os := os
  exact ⟨v, H', I.call (h' := hh) (g' := g) (d' := d) (t' := t) (ch := []) un hok bare (fun b z => absurd z (by simp)), r, q⟩
end

/-! ### calls -/
/-- f(..): the written arguments, then the defaults dvs; E: what is wanted of an exception -/
noncomputable def tCall (sp : Sp) (dvs : List V) (E : XK) (t : TA) : TE := fun σ H Q => t σ H fun vs H1 => sp (vs ++ dvs) H1 Q E
/-- o.m(..) of an instance of the class at C -/
noncomputable def tMeth (C : Addr) (m : Str) (sp : Sp) (dvs : List V) (E : XK) (ta : TE) (t : TA) : TE := fun σ H Q => ta σ H fun x H1 => ∃ a dx fs, x = .ref a ∧ H1 a = some (.ins C dx fs) ∧ fs.lookup m = none ∧
  t σ H1 fun vs H2 => sp (x :: (vs ++ dvs)) H2 Q E
/-- C(..): a new instance and its dict, then __init__ -/
noncomputable def tMake (C : Addr) (sp : Sp) (dvs : List V) (E : XK) (t : TA) : TE := fun σ H Q => t σ H fun vs H1 => ∀ x dx, H1 x = none → H1 dx = none → dx ≠ x →
  sp (.ref x :: (vs ++ dvs)) (upd (upd H1 dx (.own x)) x (.ins C dx [])) (fun v H2 => v = .non ∧ Q (.ref x) H2) E

/-- how the parameters are bound: us the positional arguments, kw the keywords' values by name, ds the defaults that fill up -/
noncomputable def Binds (K : PySem.W.Frag) (fd : FuncData) (ps : List Str) (ds : List Value) : Prop :=
  ∀ (s : Shared) (us : List Value), K.In s.heap → (us ++ ds).length = ps.length → BindsTo s fd ⟨us, []⟩ (ps.zip (us ++ ds))
/-- every parameter is given -/
theorem Binds.all {K : PySem.W.Frag} {fd : FuncData} {ps : List Str} (h : ∀ us : List Value, us.length = ps.length → bindArgs fd ⟨us, []⟩ = pure (ps.zip us)) : Binds K fd ps [] := fun s us _ hl => by
  rw [List.append_nil] at hl ⊢
  exact .of_eq (h us hl)

/-- an exception of a callee reaches what this body wants of exceptions -/
noncomputable def Passes (CX : CXT) (X : Cx) (E : XK) : Prop := ∀ (pins : List (Addr × Obj)) (σ : St) (H : Hp) (s : Shared) (e : Value) (s' : Shared), Inv X pins σ H s → CX X.stack H s E e s' → X.xe e s'

section
variable {X : Cx} {CX : CXT} {k : Nat} {f C : Addr} {fd : FuncData} {ps : List Str} {sp : Sp} {dvs : List V} {ds : List Value} {E : XK} {x m : Str} {p pos apos : Pos} {e o : Expr} {es : List Expr} {ta : TE} {t : TA}

/-- the callee runs -/
theorem run_fn {pins : List (Addr × Obj)} {σ : St} {H : Hp} {s : Shared} {Q : VK} {us : List Value} {vs : List V} (F : FnOk X.prog X.w X.K X.mg X.base CX k f fd ps sp) (hr : Room k X.A) (hb : Binds X.K fd ps ds) (hd : Vals dvs ds) (hx : Passes CX X E)
    (I : Inv X pins σ H s) (r : Vals vs us) (h : sp (vs ++ dvs) H Q E) : wpAny (model X.prog X.w) X.A (call (.ref f) us) (EP X pins σ Q) X.xe s := by
  have r2 : Vals (vs ++ dvs) (us ++ ds) := r.append hd
  have hl : (us ++ ds).length = ps.length := by rw [← r2.length]; exact F.len _ _ _ _ h
  refine wpAny_call (codeAny_mono (F.run X.A X.stack s H ⟨us, []⟩ (us ++ ds) (vs ++ dvs) Q E hr I.env0 (hb s us I.kIn hl) r2 h) fun r s' hq => ?_)
  cases r with
  | error e => exact hx pins σ H s e s' I hq
  | ok fl =>
    cases fl with
    | ret u => exact I.after hq
    | next => exact False.elim hq
    | brk => exact False.elim hq
    | cont => exact False.elim hq

theorem pe_call (F : FnOk X.prog X.w X.K X.mg X.base CX k f fd ps sp) (hr : Room k X.A) (hg : Gl X x) (hm : X.mg x = some (.ref f)) (hk : PySem.W.keepIn X.K (.ref f) = true) (hb : Binds X.K fd ps ds) (hd : Vals dvs ds) (hx : Passes CX X E)
    (ha : PA X (e :: es) t) (hdb : (x == ("__debug__" : Str)) = false := by decide) (he : starEach (e :: es) X.env = (false, eval e X.env) :: starEach es X.env := by rfl) (hpl : (backTo pos (starEach es X.env)).any (·.1) = false := by rfl) :
    PE X (.Call (.Name x p) (e :: es) [] pos) (tCall sp dvs E t) := by
  intro pins s σ H Q I h
  refine wpAny_Call_Name_kw (ld_glob I hg hm ?_ hdb)
  refine PySem.W.callWith_K (h₀ := X.base) I.ok.mod.kin hk (thn (ha pos pins s σ H _ I h) fun us s1 ⟨vs, H1, I1, r, q⟩ => ⟨I1.kIn, ?_⟩) he hpl
  exact run_fn F hr hb hd hx I1 r q
/-- what a class must have to be made -/
structure Mk (K : PySem.W.Frag) (C f : Addr) : Prop where
  makes : PySem.W.makesIn K C = true
  init : PySem.W.findIn K (.ref C) "__init__" = some (some (.ref f))
  fn : PySem.W.isFn K (.ref f) = true
  kp : PySem.W.keepIn K (.ref C) = true

end

/-! ### keywords -/
/-- the values of the keywords, from the left -/
noncomputable def PK (X : Cx) (kws : List Keyword) (t : TA) : Prop :=
  ∀ (pos : Pos) (pins : List (Addr × Obj)) (s : Shared) (σ : St) (H : Hp) (Q : List V → Hp → Prop), Inv X pins σ H s → t σ H Q → wpAny (model X.prog X.w) X.A (evalAll ((backToKw pos (keywordEach kws X.env)).map (·.2))) (AP X pins σ Q) X.xe s
section
variable {X : Cx} {CX : CXT} {k : Nat} {f C : Addr} {fd : FuncData} {ps ks : List Str} {sp : Sp} {E : XK} {x m : Str} {p pos apos kpos : Pos} {e o : Expr} {es : List Expr} {kws : List Keyword} {te ta : TE} {t tk : TA} {nm : Option Str}
/-- how a call with keywords binds: g puts the positional values us and the keywords' values ws (names ks) in the parameters' order, defaults among them -/
structure KBinds (K : PySem.W.Frag) (fd : FuncData) (ps ks : List Str) (g : List Value → List Value → List Value) (gV : List V → List V → List V) : Prop where
  to : ∀ (s : Shared) (us ws : List Value), K.In s.heap → (g us ws).length = ps.length → BindsTo s fd ⟨us, ks.zip ws⟩ (ps.zip (g us ws))
  rel : ∀ {vs : List V} {us : List Value} {zs : List V} {ws : List Value}, Vals vs us → Vals zs ws → Vals (gV vs zs) (g us ws)
noncomputable def tCallK (sp : Sp) (gV : List V → List V → List V) (E : XK) (t tk : TA) : TE := fun σ H Q => t σ H fun vs H1 => tk σ H1 fun zs H2 => sp (gV vs zs) H2 Q E
variable {g : List Value → List Value → List Value} {gV : List V → List V → List V}
end

/-! ### a def's body keeps its promise -/
/-- names: the parameters first -/
structure FnScope (N P : List Str) (sc : Scope) : Prop where
  kind : sc.kind = .function
  co : sc.isCoroutine = false
  gen : sc.isGenerator = false
  nd : N.Nodup
  pre : N.take P.length = P
  par : ∀ x ∈ P, sc.names.lookup x = some .local ∨ sc.names.lookup x = some .cell
  nofree : ∀ y ∈ sc.names, y.2 ≠ .free

theorem bindL_out {kindOf : Str → Option NameKind} {x : Str} : ∀ {binds : List (Str × Value)} {m : Str → Option Value}, (∀ v, (x, v) ∉ binds) → bindL kindOf binds m x = m x
  | [], _, _ => rfl
  | (n, v) :: r, m, h => by
    unfold bindL
    rw [bindL_out fun w hw => h w (List.mem_cons_of_mem _ hw)]
    split
    · have : x ≠ n := by rintro rfl; exact h v List.mem_cons_self
      simp [this]
    · rfl
theorem bindC_out {kindOf : Str → Option NameKind} {x : Str} : ∀ {binds : List (Str × Value)} {m : Str → Option Value}, (∀ v, (x, v) ∉ binds) → bindC kindOf binds m x = m x
  | [], _, _ => rfl
  | (n, v) :: r, m, h => by
    unfold bindC
    rw [bindC_out fun w hw => h w (List.mem_cons_of_mem _ hw)]
    split
    · rfl
    · have : x ≠ n := by rintro rfl; exact h v List.mem_cons_self
      simp [this]
theorem bindL_get {kindOf : Str → Option NameKind} {x : Str} {v : Value} : ∀ {P : List Str} {vs : List Value} {i : Nat} {m : Str → Option Value}, P.Nodup → P[i]? = some x → vs[i]? = some v → kindOf x = some .local →
    bindL kindOf (P.zip vs) m x = some v
  | [], _, _, _, _, h, _, _ => by simp at h
  | _ :: _, [], _, _, _, _, h, _ => by simp at h
  | p :: P, w :: vs, 0, m, nd, h1, h2, hk => by
    simp at h1 h2; subst h1; subst h2
    show bindL kindOf ((p, w) :: P.zip vs) m p = _
    unfold bindL
    rw [bindL_out fun v hv => (List.nodup_cons.mp nd).1 (List.of_mem_zip hv).1, if_pos hk]
    simp
  | p :: P, w :: vs, i + 1, m, nd, h1, h2, hk => by
    show bindL kindOf ((p, w) :: P.zip vs) m x = _
    unfold bindL
    exact bindL_get (i := i) (List.nodup_cons.mp nd).2 (by simpa using h1) (by simpa using h2) hk
theorem bindC_get {kindOf : Str → Option NameKind} {x : Str} {v : Value} : ∀ {P : List Str} {vs : List Value} {i : Nat} {m : Str → Option Value}, P.Nodup → P[i]? = some x → vs[i]? = some v → kindOf x ≠ some .local →
    bindC kindOf (P.zip vs) m x = some v
  | [], _, _, _, _, h, _, _ => by simp at h
  | _ :: _, [], _, _, _, _, h, _ => by simp at h
  | p :: P, w :: vs, 0, m, nd, h1, h2, hk => by
    simp at h1 h2; subst h1; subst h2
    show bindC kindOf ((p, w) :: P.zip vs) m p = _
    unfold bindC
    rw [bindC_out fun v hv => (List.nodup_cons.mp nd).1 (List.of_mem_zip hv).1, if_neg hk]
    simp
  | p :: P, w :: vs, i + 1, m, nd, h1, h2, hk => by
    show bindC kindOf ((p, w) :: P.zip vs) m x = _
    unfold bindC
    exact bindC_get (i := i) (List.nodup_cons.mp nd).2 (by simpa using h1) (by simpa using h2) hk

/-- the names' values at the entry -/
noncomputable def start (N : List Str) (vs : List V) : St := vs.map some ++ List.replicate (N.length - vs.length) none

/-- the context of a def's body, at its entry; an exception leaves the frame, then lies as CX says -/
noncomputable def cxOf (CX : CXT) (P : Program) (w : World) (K : PySem.W.Frag) (mg : Str → Option Value) (base : Heap) (N : List Str) (qual : Str) (scope : Scope) (f : Addr) (cd : Value) (A : Around) (outer : List Env) (s : Shared) (H : Hp) (E : XK) : Cx where
  prog := P
  w := w
  K := K
  mg := mg
  base := base
  A := A.deeper (envOfC qual scope s.heap.objs.size f cd)
  N := N
  s₀ := s
  H₀ := H
  env := envOfC qual scope s.heap.objs.size f cd
  outer := outer
  stack := envOfC qual scope s.heap.objs.size f cd :: outer
  ex := []
  calm := true
  fn := fun _ => true
  pn := []
  xe := fun e s' => wpAny (model P w) (A.deeper (envOfC qual scope s.heap.objs.size f cd)) (leaving (envOfC qual scope s.heap.objs.size f cd) e) (fun _ s'' => CX outer H s E e s'') (fun e' s'' => CX outer H s E e' s'') s'

theorem cell_has {sc : Scope} {n : Nat} {x : Str} (h : sc.names.lookup x = some .cell) : ∃ c, (cellsFrom n sc.names []).lookup x = some c := by
  have q := PySem.W.cellsFrom_some sc.names n [] (.inl h)
  exact Option.isSome_iff_exists.mp q

theorem inv_start {CX : CXT} {P : Program} {w : World} {K : PySem.W.Frag} {mg : Str → Option Value} {base : Heap} {N ps : List Str} {qual : Str} {scope : Scope} {f : Addr} {cd : Value} {A : Around} {outer : List Env} {s s1 : Shared} {H : Hp} {E : XK} {us : List Value} {vs : List V}
    (S : FnScope N ps scope) (hd : A.handled = none) (e0 : Env0 P w K mg base A outer s H) (hl : vs.length = ps.length) (r : Vals vs us)
    (x : InCallC s s.heap.objs.size (bindL (envOfC qual scope s.heap.objs.size f cd).kindOf (ps.zip us) fun _ => none) (cellsFrom (s.heap.objs.size + 1) scope.names []) (bindC (envOfC qual scope s.heap.objs.size f cd).kindOf (ps.zip us) fun _ => none) s1) :
    Inv (cxOf CX P w K mg base N qual scope f cd A outer s H E) [] (start N vs) H s1 := by
  have hpl : ps.length ≤ N.length := by have := congrArg List.length S.pre; rw [List.length_take] at this; omega
  obtain ⟨h1, tk, rfl, hk⟩ := x.done
  have noA : ∀ b : Addr, b ∉ (cxOf CX P w K mg base N qual scope f cd A outer s H E).ex := fun b z => absurd (show b ∈ ([] : List Addr) from z) (by simp)
  refine ⟨⟨e0.mod, S.kind, rfl, rfl, Nat.le_refl _, fun y z c h1 h2 => ?_, fun y hy => ?_, fun y c _ h => ?_, fun _ => hd, Around.frames_deeper e0.frames, .inr ⟨rfl, rfl⟩, fun b z => absurd z (noA b), e0.bs, e0.bsz, fun b _ _ => noA b, fun b z => absurd z (noA b), e0.funs, e0.frf⟩,
    rfl, e0.bare, Un.kept hk, ⟨_, x.toInCall.ns, fun i y v h1 h2 h3 => ?_⟩, fun y c h => ⟨_, x.cell y c h⟩, e0.hok.fresh (Nat.le_refl _), fun y c h => ?_, fun p hp => absurd (show p ∈ ([] : List (Addr × Obj)) from hp) (by simp), e0.hok.kept hk, ?_⟩
  · exact name_of_addr x.apart (PySem.mem_of_lookup h1) (PySem.mem_of_lookup h2)
  · have hy : scope.names.lookup y = some .cell ∨ scope.names.lookup y = some .free := hy
    rcases hy with hy | hy
    · exact cell_has hy
    · exact absurd rfl (S.nofree _ (PySem.mem_of_lookup hy))
  · exact Nat.le_of_lt (x.above y c (PySem.mem_of_lookup h))
  · have hi : i < vs.length := by
      unfold start at h2
      by_cases hi : i < vs.length
      · exact hi
      · rw [List.getElem?_append_right (by simpa using hi)] at h2
        rw [List.getElem?_replicate] at h2
        split at h2 <;> cases h2
    have ha : vs[i]? = some v := by
      unfold start at h2
      rw [List.getElem?_append_left (by simpa using hi), List.getElem?_map] at h2
      cases e : vs[i]? with
      | none => rw [e] at h2; cases h2
      | some a => rw [e] at h2; cases h2; rfl
    obtain ⟨u, hu, rv⟩ := r.get ha
    have hp : ps[i]? = some y := by
      rw [← S.pre, List.getElem?_take_of_lt (by omega)]; exact h1
    have ndP : ps.Nodup := by rw [← S.pre]; exact S.nd.sublist (List.take_sublist _ _)
    refine ⟨u, rv, ?_⟩
    rcases S.par y (List.mem_of_getElem? hp) with k | k
    · exact .inl ⟨k, bindL_get ndP hp hu k⟩
    · obtain ⟨c, e⟩ := cell_has (n := s.heap.objs.size + 1) k
      refine .inr ⟨.inl k, c, e, ?_⟩
      have q := x.cell y c e
      rw [bindC_get ndP hp hu (by show scope.names.lookup y ≠ _; rw [k]; decide)] at q
      exact q
  · exact e0.hok.fresh (Nat.le_of_lt (x.above y c (PySem.mem_of_lookup h)))
  · unfold start
    show _ = N.length
    rw [List.length_append, List.length_map, List.length_replicate]
    omega

/-- THE RULE: a def (or a method) of the text, by its body. The body's reading t is chosen for each entry; it is run at the parameters' values -/
theorem fn_of {CX : CXT} {P : Program} {w : World} {K : PySem.W.Frag} {mg : Str → Option Value} {base : Heap} {k : Nat} {f : Addr} {name qual : Str} {params : Arguments} {body : List Stmt} {scope : Scope} {dV kV doc pm cdv ct oc : Value} {an od : Option Addr}
    {osl : Array (Option Value)} {N ps : List Str} {sp : Sp} (lk : K.lookup f = some ⟨oc, od, .func (PySem.W.fnOf name qual params body scope dV kV doc pm an cdv ct), osl⟩) (hcd : PySem.W.codeIn K cdv qual = true) (S : FnScope N ps scope)
    (len : ∀ vs H Q E, sp vs H Q E → vs.length = ps.length)
    (hbody : ∀ (A : Around) (outer : List Env) (s : Shared) (H : Hp) (vs : List V) (Q : VK) (E : XK), Room k (A.deeper (envOfC qual scope s.heap.objs.size f cdv)) → sp vs H Q E →
      ∃ t, PSs (cxOf CX P w K mg base N qual scope f cdv A outer s H E) body t ∧ t { nx := fun _ H' => Q .non H', rt := Q } (start N vs) H) :
    FnOk P w K mg base CX (k + 1) f (PySem.W.fnOf name qual params body scope dV kV doc pm an cdv ct) ps sp := by
  refine ⟨len, fun A outer s H args us vs Q E hr e0 hb r hsp => ?_⟩
  have hl := len _ _ _ _ hsp
  have KX : K.In s.heap := e0.mod.kin.keeps fun b o e => (e0.bs b o e).1
  have lim : s.heap.NoLimit := e0.mod.nolimit.keeps fun b o e => (e0.bs b o e).1
  have hkind : ∀ y ∈ ps.zip us, scope.names.lookup y.1 = some .local ∨ (scope.names.lookup y.1 = some .cell ∧ ((cellsFrom (s.heap.objs.size + 1) scope.names []).lookup y.1).isSome = true) := fun ⟨n, v⟩ hy => by
    rcases S.par n (List.of_mem_zip hy).1 with q | q
    · exact .inl q
    · exact .inr ⟨q, PySem.W.cellsFrom_some _ _ _ (.inl q)⟩
  refine codeAny_call_function hr.depth (KX _ _ lk) rfl S.co S.gen rfl (PySem.W.codeRec_of KX hcd) (hb _ _ _ _ ?_)
  refine wpAny_newFunctionEnv_cells S.kind hkind fun env he s1 x => ?_
  subst he
  refine ⟨lim.keeps x.toInCall.keep, codeAny_func ?_⟩
  obtain ⟨t, ht, hq⟩ := hbody A outer s H vs Q E (hr.deeper _) hsp
  have I : Inv (cxOf CX P w K mg base N qual scope f cdv A outer s H E) [] (start N vs) H s1 := inv_start S hr.hd e0 hl r x
  refine wpAny_mono (ht [] s1 (start N vs) H _ I hq) (fun fl s' hs => ?_) fun e s' hs => hs
  have fin : ∀ {σ' : St} {H' : Hp} {v : V} {u : Value}, Inv (cxOf CX P w K mg base N qual scope f cdv A outer s H E) [] σ' H' s' → RelV v u → Q v H' → CE outer P w H s Q u s' :=
    fun {σ' H' v u} J rv q => ⟨v, H', J.os, J.bare, J.base, J.hok, rv, q⟩
  cases fl with
  | ret u =>
    obtain ⟨v, σ', H', J, rv, q⟩ := hs
    exact fin J rv q
  | next =>
    obtain ⟨σ', H', J, q⟩ := hs
    exact fin (v := V.non) (u := Value.none) J rfl q
  | brk =>
    obtain ⟨_, _, _, q⟩ := hs
    exact False.elim q
  | cont =>
    obtain ⟨_, _, _, q⟩ := hs
    exact False.elim q
end L2

namespace L2
open PySem PySem.Spec PyProof.Rows
section
variable {X : Cx} {x : Str} {p pos : Pos} {e : Expr} {es : List Expr} {t : TA} {id T : String} {r : List V → Hp → VK → Prop}

noncomputable def tCB (r : List V → Hp → VK → Prop) (t : TA) : TE := fun σ H Q => t σ H fun vs H1 => r vs H1 Q
/-- f(e, ..), f a built-in function -/
theorem pe_callB (hc : CallR X (.builtin id) r) (hg : Gl X x) (hm : X.mg x = none) (hv : bootBuiltins x = some (.builtin id)) (ha : PA X (e :: es) t) (hn : x ≠ "__name__" := by decide) (hdb : (x == ("__debug__" : Str)) = false := by decide)
    (he : starEach (e :: es) X.env = (false, eval e X.env) :: starEach es X.env := by rfl) (hpl : (backTo pos (starEach es X.env)).any (·.1) = false := by rfl) : PE X (.Call (.Name x p) (e :: es) [] pos) (tCB r t) := by
  intro pins s σ H Q I h
  refine wpAny_Call_Name_kw (ld_blt I hg hm hv ?_ hn hdb)
  exact PyProof.Rows.callWith_builtin1 (thn (ha pos pins s σ H _ I h) fun us s1 ⟨vs, H1, I1, r1, q1⟩ => hc pins s1 σ H1 vs us Q I1 r1 q1) he hpl
/-- T(e, ..), T a built-in type -/
theorem pe_callTy (hc : CallR X (.type T) r) (hg : Gl X x) (hm : X.mg x = none) (hv : bootBuiltins x = some (.type T)) (ha : PA X (e :: es) t) (hn : x ≠ "__name__" := by decide) (hdb : (x == ("__debug__" : Str)) = false := by decide)
    (he : starEach (e :: es) X.env = (false, eval e X.env) :: starEach es X.env := by rfl) (hpl : (backTo pos (starEach es X.env)).any (·.1) = false := by rfl) : PE X (.Call (.Name x p) (e :: es) [] pos) (tCB r t) := by
  intro pins s σ H Q I h
  refine wpAny_Call_Name_kw (ld_blt I hg hm hv ?_ hn hdb)
  exact PyProof.Rows.callWith_type1 (thn (ha pos pins s σ H _ I h) fun us s1 ⟨vs, H1, I1, r1, q1⟩ => hc pins s1 σ H1 vs us Q I1 r1 q1) he hpl
end
end L2

namespace HT
open PySem PyProof.Rows

/-- t < u of tuples of ints -/
noncomputable def lexLt : List Int → List Int → Bool
  | [], [] => false
  | [], _ :: _ => true
  | _ :: _, [] => false
  | x :: xs, y :: ys => if x = y then lexLt xs ys else decide (x < y)
section
open PySem.SeqAt
open PySem.AutoSeq1 (wpAny_loadPart')
open PySem.MeetsSeq PySem.MeetsSeq2 PySem.MeetsSeq3

end

section
variable {prog : Program} {w : World} {A : Around} {E : Value → Shared → Prop} {s : Shared}

/-! ### t[a:b], not the whole -/
/-- a slice's bound as a place among n (d where it is left out) -/
noncomputable def sIx (n d : Nat) : Option Int → Nat
  | none => d
  | some v => if v < 0 then (v + (n : Int)).toNat else min v.toNat n
theorem sIx_none (n d : Nat) : sIx n d none = d := rfl
theorem sIx_nat (n d k : Nat) : sIx n d (some (k : Int)) = min k n := by
  show (if (k : Int) < 0 then ((k : Int) + (n : Int)).toNat else min (k : Int).toNat n) = min k n
  rw [if_neg (by omega), Int.toNat_natCast]
end
end HT

namespace L2
open PySem PySem.Spec PyProof.Rows

/-! ### the parts of a slice -/
noncomputable abbrev TO := St → Hp → (Option Int → Hp → Prop) → Prop
/-- a slice's part (left out, or an int) -/
noncomputable def PO (X : Cx) (e : Option Expr) (t : TO) : Prop :=
  ∀ (pins : List (Addr × Obj)) (s : Shared) (σ : St) (H : Hp) (Q : Option Int → Hp → Prop), Inv X pins σ H s → t σ H Q →
    wpAny (model X.prog X.w) X.A (evalPart e X.env) (fun u s' => ∃ o H', Inv X pins σ H' s' ∧ IsPart u o ∧ Q o H') X.xe s
noncomputable def tNoPart : TO := fun _ H Q => Q none H
noncomputable def tPart (t : TE) : TO := fun σ H Q => t σ H fun x H1 => ∃ i, x = .int i ∧ Q (some i) H1

section
variable {X : Cx} {e : Expr} {te : TE} {lo hi : Option Expr} {tl th : TO} {pos p2 : Pos}

theorem po_none : PO X none tNoPart := by
  intro pins s σ H Q I h
  rw [evalPart_none]
  exact wpAny_pure ⟨none, H, I, .none, h⟩
theorem po_some (h : PE X e te) : PO X (some e) (tPart te) := by
  intro pins s σ H Q I hw
  rw [evalPart_some]
  refine thn (h pins s σ H _ I hw) fun u s1 ⟨x, H1, I1, r1, q1⟩ => ?_
  obtain ⟨i, rfl, q⟩ := q1
  obtain ⟨t, rfl⟩ := r1
  exact ⟨some i, H1, I1, .int i t, q⟩

/-- what a slice of a value is, by values: the slice object stands at sl -/
noncomputable def SlR (X : Cx) (r : V → Option Int → Option Int → Hp → VK → Prop) : Prop :=
  ∀ (pins : List (Addr × Obj)) (s : Shared) (σ : St) (H : Hp) (x : V) (v vl vu : Value) (lo hi : Option Int) (sl : Addr) (Q : VK), Inv X pins σ H s → RelV x v → s.heap.IsSliceOf sl vl vu .none → IsPart vl lo → IsPart vu hi → r x lo hi H Q →
    ∃ T id, typeLookup (.type T) "__getitem__" = pure (some (.builtin id)) ∧ s.TypeIs v T ∧ wpAny (model X.prog X.w) X.A (getItem v (.ref sl)) (EP X pins σ Q) X.xe s
theorem SlR.or {r r' : V → Option Int → Option Int → Hp → VK → Prop} (h : SlR X r) (h' : SlR X r') : SlR X (fun x lo hi H Q => r x lo hi H Q ∨ r' x lo hi H Q) := by
  intro pins s σ H x v vl vu lo hi sl Q I rx hs pl pu q
  rcases q with q | q
  · exact h pins s σ H x v vl vu lo hi sl Q I rx hs pl pu q
  · exact h' pins s σ H x v vl vu lo hi sl Q I rx hs pl pu q
noncomputable def tSl (r : V → Option Int → Option Int → Hp → VK → Prop) (te : TE) (tl th : TO) : TE := fun σ H Q => te σ H fun x H1 => tl σ H1 fun l H2 => th σ H2 fun u H3 => r x l u H3 Q
/-- a[lo:hi], any a -/
theorem pe_slice {r : V → Option Int → Option Int → Hp → VK → Prop} (hr : SlR X r) (he : PE X e te) (hl : PO X lo tl) (hu : PO X hi th) : PE X (.Subscript e (.Slice lo hi none p2) pos) (tSl r te tl th) := by
  intro pins s σ H Q I h
  refine Subscript_ (thn (he pins s σ H _ I h) fun v s1 ⟨x, H1, I1, r1, q1⟩ => ?_)
  refine wpAny_Slice (thn (hl pins s1 σ H1 _ I1 q1) fun vl s2 ⟨l, H2, I2, pl, q2⟩ => thn (hu pins s2 σ H2 _ I2 q2) fun vu s3 ⟨u, H3, I3, pu, q3⟩ => ?_)
  rw [evalPart_none]
  refine wpAny_pure ?_
  have I4 : Inv X pins σ H3 { s3 with heap := s3.heap.push { cls := .type "slice", data := .fields #[vl, vu, .none] } } := I3.kept (t' := s3.toks) fun b ob q => Heap.get?_push_of_some _ q
  obtain ⟨T, id, hT, ht, hg⟩ := hr pins { s3 with heap := s3.heap.push { cls := .type "slice", data := .fields #[vl, vu, .none] } } σ H3 x v vl vu l u s3.heap.objs.size Q I4 r1 (Heap.IsSliceOf.new ..) pl pu q3
  show wpAny (model X.prog X.w) X.A (subscriptTail e (.Slice lo hi none p2) v (.ref s3.heap.objs.size)) (EP X pins σ Q) X.xe { s3 with heap := s3.heap.push { cls := .type "slice", data := .fields #[vl, vu, .none] } }
  exact tail_any (ops := [.ref s3.heap.objs.size, v]) ht hT hg (by with_unfolding_all rfl)

/-- the items of xs[lo:hi] -/
noncomputable def cutV (xs : List V) (lo hi : Option Int) : List V := (xs.drop (HT.sIx xs.length 0 lo)).take (HT.sIx xs.length xs.length hi - HT.sIx xs.length 0 lo)
theorem cutV_length (xs : List V) (lo hi : Option Int) : (cutV xs lo hi).length ≤ xs.length := by
  unfold cutV
  rw [List.length_take, List.length_drop]
  omega
/-- t[lo:hi], not the whole of it (the whole would be t itself) -/
noncomputable def rSlT (K : PySem.W.Frag) : V → Option Int → Option Int → Hp → VK → Prop := fun x lo hi H Q => ∃ a xs, x = .ref a ∧ SqT K H a xs ∧
  ¬ (HT.sIx xs.length 0 lo = 0 ∧ HT.sIx xs.length xs.length hi = xs.length) ∧ ∀ p, H p = none → Q (.ref p) (upd H p (.tup (cutV xs lo hi)))
/-! ### t < u, t + u -/
noncomputable def rLtT (K : PySem.W.Frag) : R2 := fun x y H Q => ∃ a b ns ms, x = .ref a ∧ y = .ref b ∧ SqT K H a (ns.map V.int) ∧ SqT K H b (ms.map V.int) ∧ Q (.bl (HT.lexLt ns ms)) H
/-- t + u, t not empty: u empty gives t itself -/
noncomputable def rCatT (K : PySem.W.Frag) : R2 := fun x y H Q => ∃ a b xs ys, x = .ref a ∧ y = .ref b ∧ SqT K H a xs ∧ SqT K H b ys ∧ xs ≠ [] ∧ xs.length + ys.length ≤ sizeLine ∧
  (ys = [] → Q (.ref a) H) ∧ (ys ≠ [] → ∀ p, H p = none → Q (.ref p) (upd H p (.tup (xs ++ ys))))
end
end L2

namespace L2
open PySem PySem.Spec PyProof.Rows

/-! ### places -/
/-- the place that an index of any sign means -/
noncomputable def ixN (n : Nat) (i : Int) : Option Nat := if 0 ≤ i then (if i < n then some i.toNat else none) else if -(n : Int) ≤ i then some (i + n).toNat else none
noncomputable def atI {α : Type} (xs : List α) (i : Int) : Option α := (ixN xs.length i).bind fun j => xs[j]?
theorem ixN_seq {n : Nat} {i : Int} {j : Nat} (h : ixN n i = some j) : seqIndex? i n = some j ∧ j < n ∧ -(n : Int) ≤ i ∧ i < n := by
  unfold ixN at h
  by_cases h0 : 0 ≤ i
  · rw [if_pos h0] at h
    by_cases h1 : i < n
    · rw [if_pos h1] at h
      have e : i.toNat = j := Option.some.inj h
      exact ⟨by rw [seqIndex_of h0 h1, e], by omega, by omega, h1⟩
    · rw [if_neg h1] at h; cases h
  · rw [if_neg h0] at h
    by_cases h1 : -(n : Int) ≤ i
    · rw [if_pos h1] at h
      have e : (i + n).toNat = j := Option.some.inj h
      exact ⟨by rw [seqIndex_neg (by omega) h1, e], by omega, h1, by omega⟩
    · rw [if_neg h1] at h; cases h
theorem atI_get {α : Type} {xs : List α} {i : Int} {v : α} (h : atI xs i = some v) : ∃ j, seqIndex? i xs.length = some j ∧ xs[j]? = some v ∧ j < xs.length ∧ -(xs.length : Int) ≤ i ∧ i < xs.length := by
  unfold atI at h
  cases e : ixN xs.length i with
  | none => rw [e] at h; cases h
  | some j =>
    rw [e] at h
    obtain ⟨h1, h2, h3, h4⟩ := ixN_seq e
    exact ⟨j, h1, h, h2, h3, h4⟩
theorem atI_nat {α : Type} {xs : List α} {j : Nat} {v : α} (h : xs[j]? = some v) : atI xs (j : Int) = some v := by
  have hj : j < xs.length := (List.getElem?_eq_some_iff.mp h).1
  have e : ixN xs.length (j : Int) = some j := by
    unfold ixN
    rw [if_pos (by omega), if_pos (by omega)]; simp
  unfold atI; rw [e]; exact h
theorem atI_last {α : Type} (xs : List α) (v : α) : atI (xs ++ [v]) (-1) = some v := by
  have hl : (xs ++ [v]).length = xs.length + 1 := by simp
  have e : ixN (xs ++ [v]).length (-1) = some xs.length := by
    unfold ixN
    rw [hl, if_neg (by decide), if_pos (by omega)]
    congr 1
    omega
  unfold atI
  rw [e]
  show (xs ++ [v])[xs.length]? = some v
  simp

/-! ### what may be subscripted -/
/-- what stands as an index of a plain subscript -/
noncomputable def PlainIx (b : Expr) : Prop := ∀ o i, subscripted b false o i = operate [o, i] (getItem o i)
/-- a subscript by values -/
noncomputable def IxR (X : Cx) (r : R2) : Prop :=
  ∀ (value slice : Expr) (pins : List (Addr × Obj)) (s : Shared) (σ : St) (H : Hp) (x y : V) (v u : Value) (Q : VK), Inv X pins σ H s → RelV x v → RelV y u → r x y H Q →
    subscripted slice false v u = operate [v, u] (getItem v u) → wpAny (model X.prog X.w) X.A (subscriptTail value slice v u) (EP X pins σ Q) X.xe s
/-- a call of a builtin's method by values: the receiver, the arguments -/
noncomputable def MtR (X : Cx) (id : String) (r : V → List V → Hp → VK → Prop) : Prop :=
  ∀ (pins : List (Addr × Obj)) (s : Shared) (σ : St) (H : Hp) (x : V) (xs : List V) (v : Value) (us : List Value) (Q : VK), Inv X pins σ H s → RelV x v → Vals xs us → r x xs H Q →
    wpAny (model X.prog X.w) X.A (call (.builtin id) (v :: us)) (EP X pins σ Q) X.xe s
section
variable {X : Cx} {a b : Expr} {ta tb : TE} {pos : Pos}
theorem IxR.or {r r' : R2} (h : IxR X r) (h' : IxR X r') : IxR X (fun x y H Q => r x y H Q ∨ r' x y H Q) := by
  intro value slice pins s σ H x y v u Q I rx ry q hs
  rcases q with q | q
  · exact h value slice pins s σ H x y v u Q I rx ry q hs
  · exact h' value slice pins s σ H x y v u Q I rx ry q hs
theorem MtR.or {id : String} {r r' : V → List V → Hp → VK → Prop} (h : MtR X id r) (h' : MtR X id r') : MtR X id (fun x xs H Q => r x xs H Q ∨ r' x xs H Q) := by
  intro pins s σ H x xs v us Q I rx rs q
  rcases q with q | q
  · exact h pins s σ H x xs v us Q I rx rs q
  · exact h' pins s σ H x xs v us Q I rx rs q
/-- a[b] -/
theorem pe_ix {r : R2} (hr : IxR X r) (ha : PE X a ta) (hb : PE X b tb) (hs : PlainIx b) : PE X (.Subscript a b pos) (tOp r ta tb) := by
  intro pins s σ H Q I h
  exact Subscript_ (binT ha hb I h fun v u s2 x y H2 I2 rx ry q => hr a b pins s2 σ H2 x y v u Q I2 rx ry q (hs _ _))

noncomputable def rIxL (K : PySem.W.Frag) : R2 := fun x y H Q => ∃ p xs i v, x = .ref p ∧ y = .int i ∧ SqL K H p xs ∧ atI xs i = some v ∧ Q v H
noncomputable def rIxT (K : PySem.W.Frag) : R2 := fun x y H Q => ∃ p xs i v, x = .ref p ∧ y = .int i ∧ SqT K H p xs ∧ atI xs i = some v ∧ Q v H
noncomputable def rIxS : R2 := fun x y H Q => ∃ z i c, x = .str z ∧ y = .int i ∧ z.length ≤ sizeLine ∧ atI z.cps.toList i = some c ∧ Q (.str ⟨#[c]⟩) H
theorem ix_list : IxR X (rIxL X.K) := by
  intro value slice pins s σ H x y v u Q I rx ry h hs
  obtain ⟨p, xs, i, z, rfl, rfl, hq, he, q⟩ := h
  cases rx
  obtain ⟨t, rfl⟩ := ry
  obtain ⟨its, r, pl, hz⟩ := I.list hq
  obtain ⟨j, h1, h2, h3, h4, h5⟩ := atI_get he
  obtain ⟨w, ew, rw'⟩ := r.get h2
  have hl := r.length
  have hn := line63
  have fin : EP X pins σ Q w s := ⟨z, H, I, rw', q⟩
  by_cases h0 : 0 ≤ i
  · have hj : i.toNat = j := by
      rw [seqIndex_of h0 h5] at h1
      exact Option.some.inj h1
    exact item_listR pl.isList h0 (by omega) (by rw [hj]; simpa using ew) fin hs
  · have hj : (i + (its.toArray.size : Int)).toNat = j := by
      rw [seqIndex_neg (by omega) h4] at h1
      rw [List.size_toArray, ← hl]
      exact Option.some.inj h1
    exact subscriptTail_builtinR (x := w) pl.isList.typeIs slot_list_getitem.lookup
      (wpAny_getItem_list_neg (Q := fun r s' => r = w ∧ EP X pins σ Q r s') pl.isList (by omega) (by rw [List.size_toArray] <;> omega) (by omega) (by rw [hj]; simpa using ew) ⟨rfl, fin⟩) hs
theorem ix_tup : IxR X (rIxT X.K) := by
  intro value slice pins s σ H x y v u Q I rx ry h hs
  obtain ⟨p, xs, i, z, rfl, rfl, hq, he, q⟩ := h
  cases rx
  obtain ⟨t, rfl⟩ := ry
  obtain ⟨its, r, pl, hz⟩ := I.tuple hq
  obtain ⟨j, h1, h2, h3, h4, h5⟩ := atI_get he
  obtain ⟨w, ew, rw'⟩ := r.get h2
  have hl := r.length
  have hn := line63
  have fin : EP X pins σ Q w s := ⟨z, H, I, rw', q⟩
  exact subscriptTail_builtinR (x := w) pl.typeIs slot_tuple_getitem.lookup
    (getItem_tuple (j := j) (Q := fun r s' => r = w ∧ EP X pins σ Q r s') pl (by omega) (by omega) (by rw [List.size_toArray, ← hl]; exact h1) (by simpa using ew) ⟨rfl, fin⟩) hs
/-- list, tuple or str -/
noncomputable def rIx (K : PySem.W.Frag) : R2 := fun x y H Q => rIxL K x y H Q ∨ rIxT K x y H Q ∨ rIxS x y H Q
/-! ### xs[i] = v, any sign -/
/-- the list's object behind a store -/
theorem Inv.lst {pins : List (Addr × Obj)} {σ : St} {H : Hp} {s : Shared} {p : Addr} {xs : List V} (I : Inv X pins σ H s) (h : H p = some (.lst xs)) :
    ∃ (its : List Value) (n : Nat), Vals xs its ∧ s.heap.get? p = some { cls := .type "list", data := .seq its.toArray n } ∧ xs.length ≤ sizeLine := by
  obtain ⟨z, its, n, r, e⟩ := I.hok p _ h
  exact ⟨its, n, r, e, z⟩
/-- the list at p is written by an update of its object -/
noncomputable def rSetL : V → V → V → Hp → (Hp → Prop) → Prop := fun o i v H Q => ∃ p xs k j, o = .ref p ∧ i = .int k ∧ H p = some (.lst xs) ∧ ixN xs.length k = some j ∧ Q (upd H p (.lst (xs.set j v)))
/-! ### slices -/
theorem slice_bounds (lo hi : Option Int) (n : Nat) : (sliceBounds lo hi none n).1 = ((HT.sIx n 0 lo : Nat) : Int) ∧ (sliceBounds lo hi none n).2.1 = ((HT.sIx n n hi : Nat) : Int) ∧ (sliceBounds lo hi none n).2.2 = 1 := by
  refine ⟨?_, ?_, rfl⟩
  · cases lo with
    | none => simp [sliceBounds, HT.sIx]
    | some i =>
      simp only [sliceBounds, HT.sIx, Option.getD_none, show (1 : Int) > 0 by decide, if_true]
      by_cases h : i < 0
      · simp only [h, if_true] <;> omega
      · simp only [h, if_false] <;> omega
  · cases hi with
    | none => simp [sliceBounds, HT.sIx]
    | some i =>
      simp only [sliceBounds, HT.sIx, Option.getD_none, show (1 : Int) > 0 by decide, if_true]
      by_cases h : i < 0
      · simp only [h, if_true] <;> omega
      · simp only [h, if_false] <;> omega
theorem slicePick_cut (its : List Value) (lo hi : Option Int) : slicePick its.toArray lo hi none = ((its.drop (HT.sIx its.length 0 lo)).take (HT.sIx its.length its.length hi - HT.sIx its.length 0 lo)).toArray := by
  obtain ⟨h1, h2, h3⟩ := slice_bounds lo hi its.toArray.size
  unfold slicePick
  rw [h1, h2, h3]
  simp only [sliceRange_one, pick_run, List.size_toArray] <;> rfl
/-- xs[lo:hi] of a list: a new list -/
noncomputable def rSlL (K : PySem.W.Frag) : V → Option Int → Option Int → Hp → VK → Prop := fun x lo hi H Q => ∃ a xs, x = .ref a ∧ SqL K H a xs ∧ ∀ p, H p = none → Q (.ref p) (upd H p (.lst (cutV xs lo hi)))
theorem sl_list : SlR X (rSlL X.K) := by
  intro pins s σ H x v vl vu lo hi sl Q I rx hs pl pu h
  obtain ⟨a, xs, rfl, hx, q⟩ := h
  cases rx
  obtain ⟨its, r, ht, hz⟩ := I.list hx
  have hlen := r.length
  refine ⟨"list", _, slot_list_getitem.lookup, ht.isList.typeIs, ?_⟩
  refine wpAny_getItem_list_slice ht.isList hs pl pu .none (by simp) ?_ (by rw [List.size_toArray] <;> omega)
  rw [slicePick_cut, ← hlen]
  refine ⟨.ref s.heap.objs.size, _, I.laid (t' := s.toks) (o := .lst (cutV xs lo hi)) (fun b ob q => Heap.get?_push_of_some _ q) (Nat.le_refl _) ?_, rfl, q _ (I.hok.fresh (Nat.le_refl _))⟩
  exact ⟨Nat.le_trans (cutV_length xs lo hi) hz, _, 0, (r.drop (HT.sIx xs.length 0 lo)).take (HT.sIx xs.length xs.length hi - HT.sIx xs.length 0 lo), Heap.get?_push_size _ rfl⟩

/-! ### in, not in: flat items -/
noncomputable def flatV : V → Bool
  | .non => true
  | .bl _ => true
  | .int _ => true
  | .str _ => true
  | _ => false
/-- == of flat values -/
noncomputable def eqV : V → V → Bool
  | .non, .non => true
  | .bl a, .bl b => a == b
  | .bl a, .int b => (if a then 1 else 0) == b
  | .int a, .bl b => a == (if b then 1 else 0)
  | .int a, .int b => a == b
  | .str a, .str b => a == b
  | _, _ => false
/-- the items' answers, read off the values (a value's own answer does not lean on its token) -/
noncomputable def eqU (x : V) (u : Value) : Bool := match u with
  | .none => eqV .non x
  | .bool b => eqV (.bl b) x
  | .int i _ => eqV (.int i) x
  | .str z _ => eqV (.str z) x
  | _ => false
noncomputable def inV (x : V) (xs : List V) : Bool := xs.any fun y => eqV y x
/-- x in a list or tuple of flat items -/
noncomputable def rIn (K : PySem.W.Frag) (neg : Bool) : R2 := fun x y H Q => ∃ p xs, y = .ref p ∧ (SqL K H p xs ∨ SqT K H p xs) ∧ flatV x = true ∧ xs.all flatV = true ∧ Q (.bl (if neg then !inV x xs else inV x xs)) H
/-! ### len, list(x), tuple(x) of any list or tuple that is read -/
theorem call_len_seq : CallR X (.builtin "len") (fun xs H Q => ∃ p ys, xs = [.ref p] ∧ (SqL X.K H p ys ∨ SqT X.K H p ys) ∧ Q (.int ys.length) H) := by
  intro pins s σ H xs us Q I r h
  obtain ⟨p, ys, rfl, hq, q⟩ := h
  obtain ⟨u, rfl, rx⟩ := vals1 r
  cases rx
  have hn := line63
  rcases hq with hq | hq
  · obtain ⟨its, r', pl, hz⟩ := I.list hq
    have hlen := r'.length
    exact Calls.call_len_list pl.isList (by simp only [List.size_toArray] <;> omega) ⟨.int ys.length, H, I.tok _, ⟨s.toks + 1, by rw [List.size_toArray, hlen]⟩, q⟩
  · obtain ⟨its, r', pl, hz⟩ := I.tuple hq
    have hlen := r'.length
    exact len_tuple pl (by simp only [List.size_toArray] <;> omega) ⟨.int ys.length, H, I.tok _, ⟨s.toks + 1, by rw [List.size_toArray, hlen]⟩, q⟩
theorem CallR.or {f : Value} {r r' : List V → Hp → VK → Prop} (h : CallR X f r) (h' : CallR X f r') : CallR X f (fun xs H Q => r xs H Q ∨ r' xs H Q) := by
  intro pins s σ H xs us Q I rs q
  rcases q with q | q
  · exact h pins s σ H xs us Q I rs q
  · exact h' pins s σ H xs us Q I rs q
theorem call_list_of : CallR X (.type "list") (fun xs H Q => ∃ p ys, xs = [.ref p] ∧ (SqL X.K H p ys ∨ SqT X.K H p ys) ∧ ∀ l, H l = none → Q (.ref l) (upd H l (.lst ys))) := by
  intro pins s σ H xs us Q I r h
  obtain ⟨p, ys, rfl, hq, q⟩ := h
  obtain ⟨u, rfl, rx⟩ := vals1 r
  cases rx
  have fin : ∀ (its : List Value), Vals ys its → ys.length ≤ sizeLine → ∀ (h' : Heap) (c' : Nat), (∀ b o', s.heap.get? b = some o' → h'.get? b = some o') →
      h'.get? s.heap.objs.size = some { cls := .type "list", dict := none, data := .seq its.toArray c', slots := #[] } → EP X pins σ Q (.ref s.heap.objs.size) { s with heap := h' } := fun its r' hz h' c' kp e =>
    ⟨.ref s.heap.objs.size, _, I.laid (t' := s.toks) kp (Nat.le_refl _) (show ObjOk X.prog X.w _ h' _ (.lst ys) from ⟨hz, its, c', r', e⟩), rfl, q _ (I.hok.fresh (Nat.le_refl _))⟩
  rcases hq with hq | hq
  · obtain ⟨its, r', pl, hz⟩ := I.list hq
    have hlen := r'.length
    obtain ⟨o, ho, hc, n, hd⟩ := pl.isList
    exact call_list_seq p (.inl rfl) ho hc hd (fun h' c' kp e => fin its r' hz h' c' kp e) (by simp only [List.size_toArray] <;> omega)
  · obtain ⟨its, r', pl, hz⟩ := I.tuple hq
    have hlen := r'.length
    obtain ⟨o, ho, hc, n, hd⟩ := pl
    exact call_list_seq p (.inr rfl) ho hc hd (fun h' c' kp e => fin its r' hz h' c' kp e) (by simp only [List.size_toArray] <;> omega)
/-! ### the call of a builtin's method: o.m(..) -/
/-- the value is of that builtin type -/
noncomputable def tyV (K : PySem.W.Frag) (T : String) (x : V) (H : Hp) : Prop := match x with
  | .str _ => T = "str"
  | .int _ => T = "int"
  | .ref p => (T = "list" ∧ ∃ xs, SqL K H p xs) ∨ (T = "tuple" ∧ ∃ o, K.lookup p = some o ∧ o.cls = .type "tuple" ∧ o.dict = none) ∨
      (T = "dict" ∧ ((∃ kvs, H p = some (.dK kvs)) ∨ ∃ kvs, H p = some (.dT kvs))) ∨ (T = "set" ∧ ∃ S n, H p = some (.set S n))
  | _ => False
theorem tyV_is {pins : List (Addr × Obj)} {σ : St} {H : Hp} {s : Shared} {T : String} {x : V} {v : Value} (I : Inv X pins σ H s) (r : RelV x v) (ty : tyV X.K T x H) :
    s.TypeIs v T ∧ ∀ a, v = .ref a → ∃ ob, s.heap.get? a = some ob ∧ ob.dict = none := by
  cases x with
  | str z =>
    obtain ⟨t, rfl⟩ := r
    cases (show T = "str" from ty)
    exact ⟨typeIs_str s z t, fun _ e => nomatch e⟩
  | int i =>
    obtain ⟨t, rfl⟩ := r
    cases (show T = "int" from ty)
    exact ⟨typeIs_int s i t, fun _ e => nomatch e⟩
  | ref p =>
    cases r
    rcases ty with ⟨rfl, xs, hq⟩ | ⟨rfl, o, hk, hc, hd⟩ | ⟨rfl, hk⟩ | ⟨rfl, S, n, hk⟩
    · obtain ⟨its, _, pl, _⟩ := I.list hq
      refine ⟨pl.isList.typeIs, fun a e => ?_⟩
      cases e
      obtain ⟨o, n, e, c, hd, _⟩ := pl
      exact ⟨o, e, hd⟩
    · refine ⟨⟨o, I.kIn p o hk, hc⟩, fun a e => ?_⟩
      cases e
      exact ⟨o, I.kIn _ o hk, hd⟩
    · have z : ∃ o, s.heap.get? p = some o ∧ o.ExactDict := by
        rcases hk with ⟨kvs, hk⟩ | ⟨kvs, hk⟩
        · obtain ⟨_, _, _, _, o, _, _, e, ex, _⟩ := I.hok p _ hk
          exact ⟨o, e, ex⟩
        · obtain ⟨_, _, _, _, o, _, _, e, ex, _⟩ := I.hok p _ hk
          exact ⟨o, e, ex⟩
      obtain ⟨o, e, ex⟩ := z
      refine ⟨⟨o, e, ex.1⟩, fun a e2 => ?_⟩
      cases e2
      exact ⟨o, e, ex.2.1⟩
    · obtain ⟨o, _, _, _, e, ex, _⟩ := I.hok p _ hk
      refine ⟨⟨o, e, ex.1⟩, fun a e2 => ?_⟩
      cases e2
      exact ⟨o, e, ex.2.1⟩
  | _ => exact False.elim ty
noncomputable def tBM0 (K : PySem.W.Frag) (T : String) (r : V → List V → Hp → VK → Prop) (to : TE) : TE := fun σ H Q => to σ H fun x H1 => tyV K T x H1 ∧ r x [] H1 Q
noncomputable def tBM (K : PySem.W.Frag) (T : String) (r : V → List V → Hp → VK → Prop) (to : TE) (t : TA) : TE := fun σ H Q => to σ H fun x H1 => tyV K T x H1 ∧ t σ H1 fun xs H2 => r x xs H2 Q
variable {o e : Expr} {es : List Expr} {to : TE} {t : TA} {name : Str} {apos cpos : Pos} {T id : String} {r : V → List V → Hp → VK → Prop}
theorem pe_bm0 (pa : PlainAttrs T) (slot : Slot T name id) (hty : typeOf (.builtin id) = pure (.type "method_descriptor")) (hm : MtR X id r) (ho : PE X o to)
    (hbase : attributeBase o name X.env (eval o X.env) = eval o X.env := by rfl) (hline : (apos.endLine == cpos.line) = true := by rfl) : PE X (.Call (.Attribute o name apos) [] [] cpos) (tBM0 X.K T r to) := by
  intro pins s σ H Q I h
  refine wpAny_Call_method0_late hbase hline (thn (ho pins s σ H _ I h) fun v s1 ⟨x, H1, I1, r1, ty, q1⟩ => ?_)
  obtain ⟨h1, h2⟩ := tyV_is I1 r1 ty
  exact ⟨T, id, pa, slot, hty, h1, h2, Calls.callWith_builtin rfl (PySem.evalArgs_none (hm pins s1 σ H1 x [] v [] Q I1 r1 .nil q1))⟩
theorem pe_bm (pa : PlainAttrs T) (slot : Slot T name id) (hty : typeOf (.builtin id) = pure (.type "method_descriptor")) (hm : MtR X id r) (ho : PE X o to) (ha : PA X (e :: es) t)
    (hbase : attributeBase o name X.env (eval o X.env) = eval o X.env := by rfl)
    (hfew : ((backTo cpos (starEach (e :: es) X.env)).all (fun x => !x.1) && (backToKw cpos (keywordEach [] X.env)).all (fun x => x.1.isSome)
      && decide ((e :: es).length + ([] : List Keyword).length + (if ([] : List Keyword).isEmpty then 0 else 1) < 30)) = true := by rfl)
    (hline : (apos.endLine == cpos.line) = true := by rfl) (hs : starEach (e :: es) X.env = (false, eval e X.env) :: starEach es X.env := by rfl) (hplain : (backTo cpos (starEach es X.env)).any (·.1) = false := by rfl) :
    PE X (.Call (.Attribute o name apos) (e :: es) [] cpos) (tBM X.K T r to t) := by
  intro pins s σ H Q I h
  refine wpAny_Call_method_late hbase hfew hline rfl (thn (ho pins s σ H _ I h) fun v s1 ⟨x, H1, I1, r1, ty, q1⟩ => ?_)
  obtain ⟨h1, h2⟩ := tyV_is I1 r1 ty
  refine ⟨T, id, pa, slot, hty, h1, h2, ?_⟩
  have hA := ha cpos pins s1 σ H1 _ I1 q1
  rw [hs] at hA ⊢
  refine Calls.callWith_builtin (by show (false || (backTo cpos (starEach es X.env)).any (·.1)) = false; rw [hplain] <;> rfl) (Calls.evalArgs_plain ?_)
  exact thn hA fun us s2 ⟨vs, H2, I2, r2, q2⟩ => hm pins s2 σ H2 x vs v us Q I2 r1 r2 q2
/- xs.append(e), list.index on a module's tuple .. are MtR facts of 06m -/
end
end L2

namespace L2
open PySem PySem.Spec PyProof.Rows

noncomputable def MtM (X : Cx) (id : String) (r : V → List V → Hp → VK → Prop) : Prop :=
  ∀ (pins : List (Addr × Obj)) (s : Shared) (σ : St) (H : Hp) (x : V) (xs : List V) (v : Value) (us : List Value) (Q : VK), Inv X pins σ H s → RelV x v → Vals xs us → r x xs H Q →
    wpAny (model X.prog X.w) X.A (call (.builtin id) (v :: us)) (EP X pins σ Q) X.xe s

/-! ### lists of values -/
theorem Vals.one : ∀ {x : V} {us : List Value}, Vals [x] us → ∃ u, us = [u] ∧ RelV x u
  | _, _, .cons r .nil => ⟨_, rfl, r⟩
theorem Vals.two : ∀ {x y : V} {us : List Value}, Vals [x, y] us → ∃ u v, us = [u, v] ∧ RelV x u ∧ RelV y v
  | _, _, _, .cons r (.cons q .nil) => ⟨_, _, rfl, r, q⟩
theorem Vals.zero : ∀ {us : List Value}, Vals [] us → us = []
  | _, .nil => rfl
theorem Vals.dropLast {xs : List V} {us : List Value} (h : Vals xs us) : Vals xs.dropLast us.dropLast := by
  induction h with
  | nil => exact .nil
  | cons r t ih =>
    cases t with
    | nil => exact .nil
    | cons q t' => exact .cons r ih
theorem Vals.eraseIdx : ∀ {xs : List V} {us : List Value} (i : Nat), Vals xs us → Vals (xs.eraseIdx i) (us.eraseIdx i)
  | _, _, _, .nil => .nil
  | _, _, 0, .cons _ t => t
  | _, _, i + 1, .cons r t => .cons r (Vals.eraseIdx i t)
theorem Vals.reverse {xs : List V} {us : List Value} (h : Vals xs us) : Vals xs.reverse us.reverse := by
  induction h with
  | nil => exact .nil
  | cons r t ih => rw [List.reverse_cons, List.reverse_cons]; exact Vals.append ih (.cons r .nil)
theorem Vals.rep {xs : List V} {us : List Value} (h : Vals xs us) : ∀ k : Nat, Vals (List.replicate k xs).flatten (List.replicate k us).flatten
  | 0 => .nil
  | k + 1 => by
    rw [List.replicate_succ, List.replicate_succ, List.flatten_cons, List.flatten_cons]
    exact Vals.append h (Vals.rep h k)
theorem foldl_rep (its : List Value) : ∀ (k : Nat) (acc : List Value),
    List.foldl (fun x1 x2 => x1 ++ x2) acc.toArray (List.replicate k its.toArray) = (acc ++ (List.replicate k its).flatten).toArray
  | 0, acc => by simp
  | k + 1, acc => by
    have e : acc.toArray ++ its.toArray = (acc ++ its).toArray := by simp
    have e2 : (acc ++ its) ++ (List.replicate k its).flatten = acc ++ (List.replicate (k + 1) its).flatten := by
      rw [List.replicate_succ, List.flatten_cons, List.append_assoc]
    rw [← e2, ← foldl_rep its k (acc ++ its), ← e, List.replicate_succ, List.foldl_cons]

section
variable {X : Cx} {pins : List (Addr × Obj)} {σ : St} {H : Hp} {s : Shared} {l b : Addr} {xs ys zs : List V}

/-! ### the two steps: a tracked list is rewritten, a new list is laid -/
theorem Inv.lset {its its' : List Value} {n : Nat} {f : Array Value → Array Value} {t' : Nat} (I : Inv X pins σ H s) (hH : H l = some (.lst xs))
    (e : s.heap.get? l = some { cls := .type "list", data := .seq its.toArray n }) (hf : f its.toArray = its'.toArray) (hv : Vals ys its') (hz : ys.length ≤ sizeLine) :
    Inv X pins σ (upd H l (.lst ys)) { s with heap := s.heap.update l (Obj.mapSeq f), toks := t' } := by
  have q := PySem.IsL.update e f
  rw [hf] at q
  refine I.write (x := l) (e := l) (by rw [hH]; exact trivial) (.inl rfl) (fun b' u hb hu => (Heap.get?_update_other s.heap (Obj.mapSeq f) (Ne.symm hb)).trans hu) ⟨_, q⟩ ?_
  exact ⟨hz, its', _, hv, q⟩
theorem Inv.lnew {its : List Value} {t' : Nat} (I : Inv X pins σ H s) (hv : Vals ys its) (hz : ys.length ≤ sizeLine) :
    Inv X pins σ (upd H s.heap.objs.size (.lst ys)) { s with heap := s.heap.push { cls := .type "list", data := .seq its.toArray }, toks := t' } :=
  I.laid (fun _ _ q => Heap.get?_push_of_some _ q) (Nat.le_refl _) ⟨hz, its, 0, hv, Heap.get?_push_size _ rfl⟩
theorem Inv.fresh (I : Inv X pins σ H s) : H s.heap.objs.size = none := I.hok.fresh (Nat.le_refl _)
theorem Inv.lstM (I : Inv X pins σ H s) (hH : H l = some (.lst xs)) : xs.length ≤ sizeLine ∧ ∃ (its : List Value) (n : Nat), Vals xs its ∧ xs.length = its.length ∧ s.heap.get? l = some { cls := .type "list", data := .seq its.toArray n } := by
  obtain ⟨z, its, n, r, e⟩ := I.hok l _ hH
  exact ⟨z, its, n, r, r.length, e⟩

theorem notLongL {n : Nat} (h : n ≤ sizeLine) : Builtin.List.listTooLong n = false := by
  unfold Builtin.List.listTooLong
  exact decide_eq_false (by omega)
end

section
variable {X : Cx}

/-! ### methods -/
noncomputable def rAppend : V → List V → Hp → VK → Prop := fun x vs H Q => ∃ l xs y, x = .ref l ∧ vs = [y] ∧ H l = some (.lst xs) ∧ xs.length < sizeLine ∧ Q .non (upd H l (.lst (xs ++ [y])))
theorem mt_append : MtM X "list.append" rAppend := by
  intro pins s σ H x vs v us Q I rx rv h
  obtain ⟨l, xs, y, rfl, rfl, hH, hz, q⟩ := h
  cases rx
  obtain ⟨u, rfl, ru⟩ := rv.one
  obtain ⟨z, its, n, r, hl, e⟩ := I.lstM hH
  refine call_meets F.slot_list_append ⟨_, e, rfl⟩ F.entry_list_append (F.args_list_append_2 _ _) (PySem.list_append l its.toArray n u (by rw [List.size_toArray]; omega)) ⟨e, ?_⟩
  refine ⟨.non, _, I.lset (its' := its ++ [u]) hH e (by simp) (r.append (.cons ru .nil)) ?_, rfl, q⟩
  rw [List.length_append, List.length_singleton]
  omega

noncomputable def rExtend : V → List V → Hp → VK → Prop := fun x vs H Q => ∃ l b xs zs, x = .ref l ∧ vs = [.ref b] ∧ H l = some (.lst xs) ∧ H b = some (.lst zs) ∧ xs.length + zs.length ≤ sizeLine ∧ Q .non (upd H l (.lst (xs ++ zs)))
noncomputable def rPop : V → List V → Hp → VK → Prop := fun x vs H Q => ∃ l xs y, x = .ref l ∧ vs = [] ∧ H l = some (.lst xs) ∧ xs[xs.length - 1]? = some y ∧ Q y (upd H l (.lst xs.dropLast))
noncomputable def rPopAt : V → List V → Hp → VK → Prop := fun x vs H Q => ∃ l xs i k y, x = .ref l ∧ vs = [.int i] ∧ H l = some (.lst xs) ∧ -(2 ^ 63) ≤ i ∧ i < 2 ^ 63 ∧ seqIndex? i xs.length = some k ∧ xs[k]? = some y ∧ Q y (upd H l (.lst (xs.eraseIdx k)))
noncomputable def rReverse : V → List V → Hp → VK → Prop := fun x vs H Q => ∃ l xs, x = .ref l ∧ vs = [] ∧ H l = some (.lst xs) ∧ Q .non (upd H l (.lst xs.reverse))
noncomputable def rClear : V → List V → Hp → VK → Prop := fun x vs H Q => ∃ l xs, x = .ref l ∧ vs = [] ∧ H l = some (.lst xs) ∧ Q .non (upd H l (.lst []))
theorem mt_clear : MtM X "list.clear" rClear := by
  intro pins s σ H x vs v us Q I rx rv h
  obtain ⟨l, xs, rfl, rfl, hH, q⟩ := h
  cases rx
  have hus := rv.zero
  subst hus
  obtain ⟨z, its, n, r, hl, e⟩ := I.lstM hH
  refine call_meets F.slot_list_clear ⟨_, e, rfl⟩ F.entry_list_clear (F.args_list_clear_1 _) (AutoSeq1.list_clear_list_0 l its.toArray n (by rw [List.size_toArray]; omega)) ⟨e, ?_⟩
  exact ⟨.non, _, I.lset (its' := []) (ys := []) hH e rfl .nil (Nat.zero_le _), rfl, q⟩

/-! ### list + list, list += list, list * int -/
noncomputable def rCat : R2 := fun x y H Q => ∃ l b xs zs, x = .ref l ∧ y = .ref b ∧ H l = some (.lst xs) ∧ H b = some (.lst zs) ∧ xs.length + zs.length ≤ sizeLine ∧ ∀ p, H p = none → Q (.ref p) (upd H p (.lst (xs ++ zs)))
theorem op_cat : OpR X (binaryOp .Add) rCat := by
  intro pins s σ H x y v u Q I rx ry h
  obtain ⟨l, b, xs, zs, rfl, rfl, hH, hB, hz, q⟩ := h
  cases rx
  cases ry
  obtain ⟨z, its, n, r, hl, e⟩ := I.lstM hH
  obtain ⟨z2, its2, n2, r2, hl2, e2⟩ := I.lstM hB
  refine PySem.P.add_list e e2 ?_ (by rw [List.size_toArray, List.size_toArray]; omega)
  have ea : its.toArray ++ its2.toArray = (its ++ its2).toArray := by simp
  rw [ea]
  exact ⟨.ref _, _, I.lnew (t' := s.toks) (r.append r2) (by rw [List.length_append]; omega), rfl, q _ I.fresh⟩
/-- a list times an int (a negative one is nothing) -/
noncomputable def rRep : R2 := fun x y H Q => ∃ l k xs, x = .ref l ∧ y = .int k ∧ H l = some (.lst xs) ∧ -(2 ^ 63) ≤ k ∧ k < 2 ^ 63 ∧ xs.length * k.toNat ≤ sizeLine ∧
  ∀ p, H p = none → Q (.ref p) (upd H p (.lst (List.replicate k.toNat xs).flatten))
theorem len_rep {α : Type} (xs : List α) (k : Nat) : (List.replicate k xs).flatten.length = k * xs.length := by
  induction k with
  | zero => simp
  | succ k ih => rw [List.replicate_succ, List.flatten_cons, List.length_append, ih, Nat.succ_mul, Nat.add_comm]
theorem op_rep : OpR X (binaryOp .Mult) rRep := by
  intro pins s σ H x y v u Q I rx ry h
  obtain ⟨l, k, xs, rfl, rfl, hH, h1, h2, hz, q⟩ := h
  cases rx
  obtain ⟨t, rfl⟩ := ry
  obtain ⟨z, its, n, r, hl, e⟩ := I.lstM hH
  have hlen : its.toArray.size * k.toNat ≤ sizeLine := by rw [List.size_toArray, ← hl]; exact hz
  have hcap : ¬ its.toArray.size * k.toNat > (2 ^ 63 - 1) / 8 := by
    have : (sizeLine : Nat) ≤ (2 ^ 63 - 1) / 8 := by decide
    omega
  have hfit : ¬ (!Builtin.List.listFitsIndex k) = true := by
    rw [fitsIndex_both h1 h2]
    exact Bool.false_ne_true
  have hlong : ¬ Builtin.List.listTooLong (its.toArray.size * k.toNat) = true := by
    rw [notLongL hlen]
    exact Bool.false_ne_true
  have hnew : List.foldl (fun x1 x2 => x1 ++ x2) #[] (List.replicate (if its.toArray.isEmpty = true then 0 else k.toNat) its.toArray) = (List.replicate k.toNat its).flatten.toArray := by
    have f0 : ∀ m : Nat, List.foldl (fun x1 x2 => x1 ++ x2) #[] (List.replicate m its.toArray) = (List.replicate m its).flatten.toArray := fun m => by
      have := foldl_rep its m []
      rw [List.nil_append] at this
      exact this
    rw [f0]
    cases its with
    | nil => simp
    | cons a r' => rw [if_neg (by simp)]
  refine wpAny_binaryOp_repeat_ref (T := "list") (U := "int") (by decide) ⟨_, e, rfl⟩ (fun s' => typeIs_int s' k t) noFill_list_mul F.fills_int_mul F.slot_int_rmul repeat_list F.slot_int_index.lookup
    (call_meets F.slot_int_rmul (typeIs_int s k t) F.entry_int_rmul (F.args_int_rmul_2 _ _) (int___rmul___int_list k t l its.toArray n)
      ⟨e, rfl, ⟨_, e, rfl⟩, call_meets F.slot_list_mul ⟨_, e, rfl⟩ F.entry_list_mul (F.args_list_mul_2 _ _) (AutoListH.list___mul___list_int_3 l its.toArray n k t hfit hcap hlong) ⟨e, ?_⟩⟩)
  rw [hnew]
  exact ⟨.ref _, _, I.lnew (t' := s.toks) (r.rep k.toNat) (by rw [len_rep, Nat.mul_comm]; exact hz), rfl, q _ I.fresh⟩

/-! ### del xs[i] -/
end

/-! ### xs[a:b] = ys -/
section
variable {prog : Program} {w : World} {A : Around} {E : Value → Shared → Prop} {s : Shared}
set_option maxRecDepth 100000 in
end

section
variable {X : Cx}
end
end L2

namespace Att
open PySem PySem.W PySem.Calls PyProof.Rows

/-! ### the script -/
theorem ints_of_wellAll {P : Params} {h : Heap} : ∀ (ns : List Int) (vs : List Value), WellAll P h vs (ns.map WData.int) → IntsAre vs ns := by
  intro ns
  induction ns with
  | nil =>
    intro vs w
    rw [List.map_nil] at w
    cases w
    exact .nil
  | cons n ns ih =>
    intro vs w
    rw [List.map_cons] at w
    cases w with
    | cons a b =>
      cases a
      exact .cons _ _ (ih _ b)

theorem script_of {l : OpenLaw} {n : Nat} (hn : l.most = some n) {P : Params} {h : Heap} {args : List WData} {vals : List Value}
    (hpre : l.row.toRowW.claim.pre args = true) (hwl : WellAll P h vals args) :
    ∃ a vs ns, vals = [Value.ref a] ∧ args = [WData.list (ns.map WData.int)] ∧ h.get? a = some { cls := .type "list", data := .seq vs.toArray } ∧ IntsAre vs ns ∧ ns.length ≤ n := by
  have hsh : WShape.hasAll [] args [.list .int] = true := (pre_splitW hpre).1
  have hc : l.pre.holds [] { args := args } = true := (pre_splitW hpre).2
  obtain ⟨d, r, rfl, h1, h2⟩ := hasAllW_cons hsh
  obtain rfl := hasAllW_nil h2
  obtain ⟨xs, rfl, h3⟩ := hasW_list h1
  obtain ⟨ns, rfl⟩ := items_int h3
  have hlen : ns.length ≤ n := by
    unfold OpenLaw.pre at hc
    have h4 : (WTm.not (.lt (.lit (.int (n : Int))) (.len (.arg 0)))).holds [] { args := [.list (ns.map .int)] } = true := by
      have h4 := (holds_andW hc).1
      rw [hn] at h4
      exact h4
    have h5 := condW_of h4 (w_not (w_lt w_lit (w_len_list (w_arg rfl))))
    rw [List.length_map] at h5
    refine Nat.le_of_not_lt fun q => ?_
    have q' : (n : Int) < ((ns.length : Nat) : Int) := by omega
    first
      | (rw [decide_eq_true q'] at h5; exact absurd h5 (by decide))
      | (simp at h5; omega)
  cases hwl with
  | cons w1 w2 =>
    cases w2
    cases w1 with
    | list ho hall => exact ⟨_, _, ns, rfl, rfl, ho, ints_of_wellAll ns _ hall, hlen⟩

theorem post_true (l : OpenLaw) (args : List WData) : l.row.toRowW.claim.post args (.bool true) args = true :=
  postW_of (r := l.row.toRowW) (X := (true == true))
    (show WShape.has [] (.bool true) .bool = true by first | rfl | decide | simp [WShape.has, WShape.arms, WShape.armsAll])
    (show (WTm.eq .res (.lit (.bool true))).value [] { args := args, res := some (.bool true), after := args } = some (.bool (true == true)) from w_eq_bool (w_res rfl) w_lit) rfl

/-! ### the attachment: holds_open's last premise (the goal 'hc' behind k_head) from a wpAny of the law's body -/
/-- the same from a codeAny of the CALL (for a layer whose function contracts speak of calls) -/
theorem attach_call {l : OpenLaw} {n : Nat} {q : Program} {loose : List Str} {XP : (Str → Option Value) → Heap → Prop} {YP : World → Heap → Prop} {d : DefRec}
    (hn : l.most = some n) (hdf : d.params.defaults = [])
    (call : ∀ (w : World) (s₀ s₁ : Shared) (mg mb : Str → Option Value) (fa : Addr) (o : Obj) (pm cd doc : Value) (a : Addr) (vs : List Value) (ns : List Int),
      Ground q loose [] XP w s₀ mg mb s₁.heap → YP w s₁.heap →
      s₁.heap.get? fa = some o → o.data = .func (docDef d.name d.params d.body d.scope pm cd doc) → s₁.heap.CodeRec cd d.name → mg d.name = some (.ref fa) →
      s₁.heap.get? a = some { cls := .type "list", data := .seq vs.toArray } → IntsAre vs ns → ns.length ≤ n → s₁.gens = #[] →
      codeAny (model l.prog w) callerA (.call (.ref fa) ⟨[.ref a], []⟩) (fun r s' => r = .ok (.ret (.bool true)) ∧ OldK s₁.heap s'.heap ∧ s'.os = s₁.os ∧ AllBare s'.gens) s₁) :
    WalkO q loose XP YP l.row.toRowW d [] (fun f vs => PySem.call f vs) := by
  intro w s₀ s₁ mg mb G Y fa o pm cd doc dV kV ho hd hcd hD hmg hg args vals as hpre hlay hrd hwl hlo
  obtain rfl : dV = .none := Dflts.none hD hdf
  obtain rfl : kV = .none := Dflts.noKw hD
  obtain ⟨a, vs, ns, rfl, rfl, hobj, hints, hlen⟩ := script_of hn hpre hwl
  refine enter_call (codeAny_mono (call w s₀ s₁ mg mb fa o pm cd doc a vs ns G Y ho (fd_plain hd) hcd hmg hobj hints hlen hg) fun r s' hq => ?_)
  obtain ⟨rfl, h2, h3, h4⟩ := hq
  exact ⟨.inl ⟨.bool true, .bool true, [], rfl, fun _ => rfl, .bool true, post_true l _, fun _ => ⟨List.Pairwise.nil, fun _ hm => (nomatch hm)⟩⟩, h2, h3, h4⟩

/-! ### rules over ANY heap (no ledger) from facts about the written part K: the library's own take a ledger (News) for what they write -/
section
variable {prog : Program} {w : World} {A : Around} {E : Value → Shared → Prop} {s : Shared} {K : Frag}

/-! the whole heap as the ledger: makes every rule that writes through a ledger a rule over any heap -/
noncomputable def noObjs (h : Heap) : Heap := { h with objs := #[] }
noncomputable def ledger (h : Heap) (L d : Addr) : List (Addr × Obj) := (List.range h.objs.size).filterMap fun a => if a = L ∨ a = d then none else (h.get? a).map fun o => (a, o)
end
end Att

namespace L2
open PySem PySem.Spec PyProof.Rows

theorem vals_ints : ∀ {vs : List Value} {ns : List Int}, IntsAre vs ns → Vals (ns.map V.int) vs
  | _, _, .nil => .nil
  | _, _, .cons n t h => .cons ⟨t, rfl⟩ (vals_ints h)

/-- nothing is tracked but the script, known to the object (or it is an object of the module) -/
noncomputable def Only (H : Hp) : Prop := ∀ b, H b = none ∨ ∃ o xs, H b = some (.frz o (.lst xs))

/-- THE HEAD: the law's promise, at the heap behind the top. F, the promise of the law's def, may use that base is part of the heap (so K.In base, base.Ns mainGlobals mg stand in Mod) -/
theorem law_call {P : Program} {w : World} {K : PySem.W.Frag} {mg mb : Str → Option Value} {CX : CXT} {k : Nat} {fa a : Addr} {fd : FuncData} {x : Str} {sp : Sp} {s₁ : Shared} {vs : List Value} {ns : List Int}
    (KX : K.In s₁.heap) (hns : s₁.heap.Ns mainGlobals mg) (hb : s₁.heap.Ns builtinsNs mb) (hbb : ∀ x : Str, x ≠ "__name__" → mb x = bootBuiltins x) (hlim : s₁.heap.NoLimit) (hg : s₁.gens = #[])
    (ha : s₁.heap.get? a = some { cls := .type "list", data := .seq vs.toArray }) (hi : IntsAre vs ns) (hl : ns.length ≤ sizeLine) (hr : Room k callerA)
    (F : ∀ base : Heap, K.In base → base.Ns mainGlobals mg → FnOk P w K mg base CX k fa fd [x] sp) (hbind : ∀ (s : Shared) (u : Value), BindsTo s fd ⟨[u], []⟩ [(x, u)])
    (hsp : ∀ H : Hp, Only H → SqL K H a (ns.map V.int) → sp [.ref a] H (fun v _ => v = .bl true) fun _ _ _ => False)
    (hCX : ∀ H e s', CX [] H s₁ (fun _ _ _ => False) e s' → False) :
    codeAny (model P w) callerA (.call (.ref fa) ⟨[.ref a], []⟩) (fun r s' => r = .ok (.ret (.bool true)) ∧ OldK s₁.heap s'.heap ∧ s'.os = s₁.os ∧ AllBare s'.gens) s₁ := by
  have rv := vals_ints hi
  have lenV := hi.length
  -- from an abstract heap in which nothing but the script may be tracked
  have core : ∀ H : Hp, Only H → SqL K H a (ns.map V.int) → HOk P w H s₁.heap → (∀ b, H b ≠ none → b = a) → (H a ≠ none → K.lookup a = none) →
      codeAny (model P w) callerA (.call (.ref fa) ⟨[.ref a], []⟩) (fun r s' => r = .ok (.ret (.bool true)) ∧ OldK s₁.heap s'.heap ∧ s'.os = s₁.os ∧ AllBare s'.gens) s₁ := by
    intro H hO hS hok hA hK
    have base_of : ∀ {b : Addr} {o : Obj}, s₁.heap.get? b = some o → H b = none → (hidT s₁.heap H).get? b = some o := fun e n => hidT_get e n
    have noA : ∀ {b : Addr} {o : Obj} {es : Array DictEntry} {ep : Nat}, s₁.heap.get? b = some o → o.data = .dict es ep → H b = none := fun {b o es ep} e d => by
      cases q : H b with
      | none => rfl
      | some u =>
        have e' : b = a := hA b (by rw [q]; simp)
        subst e'
        rw [ha] at e; cases e
        have d' : Data.seq vs.toArray _ = Data.dict es ep := d
        cases d'
    have nsK : ∀ {b : Addr} {m : Str → Option Value}, s₁.heap.Ns b m → (hidT s₁.heap H).Ns b m := fun {b m} ⟨o, es, ep, e, d, r⟩ => ⟨o, es, ep, base_of e (noA e d), d, r⟩
    have hKb : K.In (hidT s₁.heap H) := fun b o e => base_of (KX b o e) (by
      cases q : H b with
      | none => rfl
      | some u =>
        have e' : b = a := hA b (by rw [q]; simp)
        subst e'
        rw [hK (by rw [q]; simp)] at e; cases e)
    have hM : Mod K mg (hidT s₁.heap H) := ⟨hKb, nsK hns, ⟨mb, nsK hb, hbb⟩, let ⟨mc, h1, h2⟩ := hlim; ⟨mc, nsK h1, h2⟩⟩
    have e0 : Env0 P w K mg (hidT s₁.heap H) callerA [] s₁ H := ⟨rfl, hM, fun b o e => of_hidT e, Nat.le_of_eq (hidT_size _ _), trivial, fun b hb => absurd (show b ∈ ([] : List Addr) from hb) (by simp), hok, .of_eq hg⟩
    refine codeAny_mono ((F _ hKb (nsK hns)).run callerA [] s₁ H ⟨[.ref a], []⟩ [.ref a] [.ref a] _ _ hr e0 (hbind s₁ (.ref a)) (.cons rfl .nil) (hsp H hO hS)) fun r s' h => ?_
    cases r with
    | error e => exact (hCX H e s' h).elim
    | ok fl =>
      cases fl with
      | next => exact False.elim h
      | brk => exact False.elim h
      | cont => exact False.elim h
      | ret u =>
        obtain ⟨v, H', os, bare, un, hok', r', q⟩ := h
        have q' : v = .bl true := q
        subst q'
        obtain rfl : u = Value.bool true := r'
        refine ⟨rfl, OldK.of_keep fun b o e => ?_, os, bare⟩
        cases q : H b with
        | none => exact un.keep b o e q (by intro z; exact absurd (show b ∈ ([] : List Addr) from z) (by simp)) (by simp)
        | some u =>
          rcases hO b with z | ⟨ob, xs, z⟩
          · rw [q] at z; cases z
          · have z2 := un.frzs b ob _ z
            obtain ⟨e1, _⟩ := hok b _ z
            obtain ⟨e2, _⟩ := hok' b _ z2
            rw [e] at e1; cases e1
            exact e2
  cases hk : K.lookup a with
  | some o =>
    -- the script is one of the module's own objects
    have e := KX a o hk
    rw [ha] at e
    cases e
    refine core (fun _ => none) (fun _ => .inl rfl) (.inr ⟨_, vs.toArray, _, hk, rfl, rfl, rfl, by rw [List.size_toArray, lenV]; exact hl, by simpa using rv⟩) (fun b u z => by have z' : (none : Option HO) = some u := z; cases z') (fun b z => absurd rfl z) fun z => absurd rfl z
  | none =>
    refine core (fun b => if b = a then some (.frz { cls := .type "list", data := .seq vs.toArray } (.lst (ns.map V.int))) else none) (fun b => ?_) (.inl (.inr ⟨{ cls := .type "list", data := .seq vs.toArray }, if_pos rfl⟩)) (fun b u z => ?_) (fun b z => ?_) fun _ => hk
    · by_cases hb : b = a
      · exact .inr ⟨_, _, if_pos hb⟩
      · exact .inl (if_neg hb)
    · by_cases hb : b = a
      · have z' := (if_pos hb).symm.trans z
        cases z'
        subst hb
        exact ⟨ha, by rw [List.length_map]; exact hl, vs, _, rv, ha⟩
      · have z' := (if_neg hb).symm.trans z
        cases z'
    · by_cases hb : b = a
      · exact hb
      · exact absurd (if_neg hb) z
end L2

namespace L2
open PySem PySem.Spec PyProof.Rows

noncomputable abbrev KOf {K : PySem.W.Frag} {h : Heap} (_ : K.In h) : PySem.W.Frag := K

/-- the goal that k_head leaves (case hc), from the law's promise. F gives the function object fd (K's own) once, then the promise over every base -/
theorem walk_of {l : PySem.W.OpenLaw} {n k : Nat} {q : Program} {loose : List Str} {XP : (Str → Option Value) → Heap → Prop} {YP : World → Heap → Prop} {d : DefRec} {K : Params → PySem.W.Frag} {CX : World → CXT} {sp : World → Sp} {x : Str}
    (hn : l.most = some n) (hn2 : n ≤ sizeLine) (hdf : d.params.defaults = []) (hr : Room k callerA)
    (hY : ∀ (w : World) (h : Heap), YP w h → (K w.params).In h)
    (F : ∀ (w : World) (mg : Str → Option Value) (fa : Addr) (h : Heap), (K w.params).In h → h.Ns mainGlobals mg → mg d.name = some (.ref fa) →
      ∃ fd : FuncData, (∀ (s : Shared) (u : Value), BindsTo s fd ⟨[u], []⟩ [(x, u)]) ∧
        ∀ base : Heap, (K w.params).In base → base.Ns mainGlobals mg → FnOk l.prog w (K w.params) mg base (CX w) k fa fd [x] (sp w))
    (hsp : ∀ (w : World) (H : Hp) (a : Addr) (ns : List Int), ns.length ≤ n → Only H → SqL (K w.params) H a (ns.map V.int) → sp w [.ref a] H (fun v _ => v = .bl true) fun _ _ _ => False)
    (hCX : ∀ (w : World) (H : Hp) (s : Shared) (e : Value) (s' : Shared), CX w [] H s (fun _ _ _ => False) e s' → False) :
    PySem.W.WalkO q loose XP YP l.row.toRowW d [] (fun f vs => PySem.call f vs) := by
  refine Att.attach_call hn hdf fun w s₀ s₁ mg mb fa o pm cd doc a vs ns G Y ho hd hcd hmg hobj hints hlen hg => ?_
  have KX := hY w _ Y
  obtain ⟨fd, hb, hF⟩ := F w mg fa _ KX G.T.g hmg
  exact law_call KX G.T.g G.T.b G.T.builtins G.T.nolimit hg hobj hints (Nat.le_trans hlen hn2) hr hF hb (fun H hO hS => hsp w H a ns hlen hO hS) fun H e s' => hCX w H s₁ e s'
end L2

/- THE LAST THEOREM (shape; LID, My.* are yours):
   My.Adr: a structure of the addresses that your layer names (classes, functions); My.Txt K t: a structure (Prop) of the equations over K;
   My.txt_mk : {K} {implicit addresses ..} (e1 : nsIn K mainGlobals "law" = some (some (.ref f))) (e2 : K.lookup f = some ⟨oc, od, .func (fnOf "law" "law" params body scope dV kV doc pm an cdv ct), sl⟩) (e3 : codeIn K cdv "law" = true) .. : ∃ t, My.Txt K t

set_option maxRecDepth 100000 in
set_option maxHeartbeats 0 in
theorem PySem.Challenge.cw_LID_holds : PySem.Challenge.rw_LID.Holds := by
  w_on; o_law; k_head; (case hw => w_witness2)
  k_fill
  refine L2.walk_of (l := PySem.Challenge.rw_LID) (n := 63) (k := 40) (x := "script") (CX := fun w => ..) (sp := fun _ => My.sp_law) rfl (by decide) rfl ⟨rfl, by decide, by decide⟩ (fun w h Y => PySem.W.kIn_of Y) ?F ?S ?C
  case F =>
    intro w mg fa h KX G hmg
    have T : ∃ t, My.Txt (L2.KOf KX) t := by
      dsimp only [L2.KOf]                          -- K must stand as «<heap const> w.params» for k_is
      refine' My.txt_mk ?e1 ?e2 ?e3 ..
      (case e1 => PySem.W.k_is)                    -- in the order: a name -> its address -> its object -> its parts
      (case e2 => PySem.W.k_is)
      ..
    obtain ⟨t, T⟩ := T
    have e0 := hmg.symm.trans (PySem.W.mg_of KX G T.law)
    cases e0                                       -- fa is the law's own address
    exact ⟨_, fun s u => .of_eq rfl, fun base kb nb => My.law_fn T kb nb⟩     -- if «.of_eq rfl» comes too early: refine' ⟨_, ?b, fun base kb nb => My.law_fn T kb nb⟩; exact fun s u => .of_eq rfl
  case S => exact fun w H a ns hl hO hS => ..
  case C => exact ..
(the tactic k_is has no namespace: write k_is) -/

/-! SHORT WORDS over the layer: a def of the text, its body, what a loop and a test want. -/
namespace L2
open PySem PySem.Spec PyProof.Rows

/-! ### the text by places -/
/-- the j-th statement of a class's body -/
noncomputable def inClass (s : Stmt) (j : Nat) : Stmt := match s with
  | .ClassDef _ _ _ body _ _ _ _ _ _ _ => body.getD j (.Pass ⟨0, 0, 0, 0⟩)
  | _ => .Pass ⟨0, 0, 0, 0⟩
noncomputable def defArgs (s : Stmt) : Arguments := match s with
  | .FunctionDef _ a _ _ _ _ _ _ _ _ => a
  | _ => { posonlyargs := [], args := [], vararg := none, kwonlyargs := [], kw_defaults := [], kwarg := none, defaults := [] }
noncomputable def defBody (s : Stmt) : List Stmt := match s with
  | .FunctionDef _ _ b _ _ _ _ _ _ _ => b
  | _ => []
noncomputable def defScope (s : Stmt) : Scope := match s with
  | .FunctionDef _ _ _ _ _ _ sc _ _ _ => sc
  | _ => { kind := .function, names := [], isGenerator := false, isCoroutine := false }

/-! ### no exception leaves a def -/
noncomputable abbrev CX0 : CXT := fun _ _ _ _ _ _ => False
noncomputable abbrev E0 : XK := fun _ _ _ => False
theorem pass0 {X : Cx} : Passes CX0 X E0 := fun _ _ _ _ _ _ _ h => h.elim

/-! ### a def (or method) of the text as it stands behind the top -/
structure Fun (K : PySem.W.Frag) (x qual : Str) (st : Stmt) (f : Addr) (fd : FuncData) : Prop where
  ex : ∃ (oc : Value) (od : Option Addr) (kV doc pm : Value) (an : Option Addr) (cdv ct : Value) (osl : Array (Option Value)),
    fd = PySem.W.fnOf x qual (defArgs st) (defBody st) (defScope st) .none kV doc pm an cdv ct ∧ K.lookup f = some ⟨oc, od, .func fd, osl⟩ ∧ PySem.W.codeIn K cdv qual = true
  kp : PySem.W.keepIn K (.ref f) = true
section
variable {P : Program} {w : World} {K : PySem.W.Frag} {mg : Str → Option Value} {base : Heap}
/-- THE RULE for a def: its body as a term of rules, and the reading of that term -/
theorem Fun.ok {x qual : Str} {st : Stmt} {f : Addr} {fd : FuncData} {N ps : List Str} {k : Nat} {sp : Sp} (F : Fun K x qual st f fd) (S : FnScope N ps (defScope st)) (len : ∀ vs H Q E, sp vs H Q E → vs.length = ps.length)
    (hbody : ∀ (cdv : Value) (A : Around) (outer : List Env) (s : Shared) (H : Hp) (vs : List V) (Q : VK) (E : XK), Room k (A.deeper (envOfC qual (defScope st) s.heap.objs.size f cdv)) → sp vs H Q E →
      ∃ t, PSs (cxOf CX0 P w K mg base N qual (defScope st) f cdv A outer s H E).nox (defBody st) t ∧ t { nx := fun _ H' => Q .non H', rt := Q } (start N vs) H) : FnOk P w K mg base CX0 (k + 1) f fd ps sp := by
  obtain ⟨oc, od, kV, doc, pm, an, cdv, ct, osl, rfl, lk, hcd⟩ := F.ex
  refine fn_of lk hcd S len fun A outer s H vs Q E hr hsp => ?_
  obtain ⟨t, h, q⟩ := hbody cdv A outer s H vs Q E hr hsp
  exact ⟨t, h.nox, q⟩
/-- how its arguments bind (no defaults): h is «fun _ _ _ _ _ _ us hl => match us, hl with | [_, _], _ => rfl», one _ a parameter -/
theorem Fun.binds {x qual : Str} {st : Stmt} {f : Addr} {fd : FuncData} {ps : List Str} (F : Fun K x qual st f fd)
    (h : ∀ (kV doc pm : Value) (an : Option Addr) (cdv ct : Value) (us : List Value), us.length = ps.length → bindArgs (PySem.W.fnOf x qual (defArgs st) (defBody st) (defScope st) .none kV doc pm an cdv ct) ⟨us, []⟩ = pure (ps.zip us)) : Binds K fd ps [] := by
  obtain ⟨oc, od, kV, doc, pm, an, cdv, ct, osl, rfl, lk, hcd⟩ := F.ex
  exact .all (h kV doc pm an cdv ct)
theorem fun_mk {x qual : Str} {st : Stmt} {f : Addr} {oc : Value} {od an : Option Addr} {osl : Array (Option Value)} {kV doc pm cdv ct : Value} (l : K.lookup f = some ⟨oc, od, .func (PySem.W.fnOf x qual (defArgs st) (defBody st) (defScope st) .none kV doc pm an cdv ct), osl⟩)
    (c : PySem.W.codeIn K cdv qual = true) (k : PySem.W.keepIn K (.ref f) = true) : Fun K x qual st f (PySem.W.fnOf x qual (defArgs st) (defBody st) (defScope st) .none kV doc pm an cdv ct) := ⟨⟨oc, od, kV, doc, pm, an, cdv, ct, osl, rfl, l, c⟩, k⟩
end
/-! ### expressions in short: the name that stands in the i-th slot -/
section
variable {X : Cx}
theorem pv (i : Nat) {x : Str} {pos : Pos} (hN : X.N[i]? = some x := by rfl) (hv : Vis X.env.scope x := by first | exact Or.inl rfl | exact Or.inr (Or.inl rfl) | exact Or.inr (Or.inr rfl)) (hd : (x == ("__debug__" : Str)) = false := by decide)
    (hcd : (x == ("__classdict__" : Str)) = false := by decide) : PE X (.Name x pos) (tVar i) := pe_var hN hv hd hcd
end

/-! ### tests -/
theorem iteF {A B : Prop} (h : B) : if false = true then A else B := by
  rw [if_neg Bool.false_ne_true]
  exact h
theorem iteNS {c A B : Prop} [Decidable c] (hc : c) (h : B) : if (!decide c) = true then A else B := by
  rw [decide_eq_true hc]
  exact iteF h

/-! ### heaps -/
/-- all that was tracked is as it was -/
noncomputable def Same (H H' : Hp) : Prop := ∀ b o, H b = some o → H' b = some o
theorem Same.refl (H : Hp) : Same H H := fun _ _ h => h
theorem Same.trans {H H1 H2 : Hp} (a : Same H H1) (b : Same H1 H2) : Same H H2 := fun c o h => b c o (a c o h)
theorem Same.free {H H' : Hp} (e : Same H H') {l : Addr} (h : H' l = Option.none) : H l = Option.none := by
  cases q : H l with
  | none => rfl
  | some o =>
    rw [e l o q] at h
    cases h
theorem Same.seq {K : PySem.W.Frag} {H H' : Hp} {a : Addr} {xs : List V} (e : Same H H') (h : SqL K H a xs) : SqL K H' a xs := by
  rcases h with (h | ⟨o, h⟩) | h
  · exact .inl (.inl (e _ _ h))
  · exact .inl (.inr ⟨o, e _ _ h⟩)
  · exact .inr h

end L2

namespace Cv
/-! sizes -/
structure Sz (n : Nat) (x : Int) : Prop where
  lt : x.natAbs < 2 ^ n
theorem Sz.mono {n m : Nat} {x : Int} (h : Sz n x) (hm : n ≤ m) : Sz m x := ⟨Nat.lt_of_lt_of_le h.lt (Nat.pow_le_pow_right (by decide) hm)⟩
theorem Sz.le {n : Nat} {x y : Int} (h : Sz n x) (hy : y.natAbs ≤ x.natAbs) : Sz n y := ⟨Nat.lt_of_le_of_lt hy h.lt⟩
theorem Sz.mul {n m : Nat} {x y : Int} (h : Sz n x) (k : Sz m y) : Sz (n + m) (x * y) := by
  refine ⟨?_⟩
  rw [Int.natAbs_mul, Nat.pow_add]
  exact Nat.mul_lt_mul'' h.lt k.lt
theorem Sz.add {n m : Nat} {x y : Int} (h : Sz n x) (k : Sz m y) : Sz (max n m + 1) (x + y) := by
  refine ⟨?_⟩
  have h1 := (h.mono (Nat.le_max_left n m)).lt
  have h2 := (k.mono (Nat.le_max_right n m)).lt
  have h3 := Int.natAbs_add_le x y
  rw [Nat.pow_succ]
  omega
theorem Sz.neg {n : Nat} {x : Int} (h : Sz n x) : Sz n (-x) := ⟨by rw [Int.natAbs_neg]; exact h.lt⟩
theorem Sz.sub {n m : Nat} {x y : Int} (h : Sz n x) (k : Sz m y) : Sz (max n m + 1) (x - y) := by
  rw [Int.sub_eq_add_neg]
  exact h.add k.neg
theorem Sz.one : Sz 1 1 := ⟨by decide⟩
theorem Sz.zero : Sz 0 0 := ⟨by decide⟩
/-! a fraction's size -/
structure Bd (n : Nat) (q : Rat) : Prop where
  num : Sz n q.num
  den : Sz n (q.den : Int)
theorem Bd.mono {n m : Nat} {q : Rat} (h : Bd n q) (hm : n ≤ m) : Bd m q := ⟨h.num.mono hm, h.den.mono hm⟩
theorem num_le (a b : Int) (hb : b ≠ 0) : (Rat.divInt a b).num.natAbs ≤ a.natAbs ∧ (Rat.divInt a b).den ≤ b.natAbs := by
  refine ⟨?_, ?_⟩
  · rw [Rat.num_divInt]
    have h2 : (b.sign * a).natAbs = a.natAbs := by
      rw [Int.natAbs_mul, Int.natAbs_sign_of_ne_zero hb, Nat.one_mul]
    have hd : (b.gcd a : Int) ∣ b.sign * a := Int.dvd_mul_of_dvd_right (Int.gcd_dvd_right ..)
    rw [← h2]
    have := Int.natAbs_ediv_of_dvd hd
    rw [this]
    exact Nat.div_le_self _ _
  · rw [Rat.den_divInt, if_neg hb]
    exact Nat.div_le_self _ _
theorem Bd.of {n m : Nat} {a b : Int} (ha : Sz n a) (hb : Sz m b) (h0 : b ≠ 0) : Bd (max n m) (Rat.divInt a b) :=
  ⟨(ha.mono (Nat.le_max_left n m)).le (num_le a b h0).1, (hb.mono (Nat.le_max_right n m)).le (by rw [Int.natAbs_natCast]; exact (num_le a b h0).2)⟩
theorem den_ne (q : Rat) : (q.den : Int) ≠ 0 := by have := q.den_pos; omega
theorem add_eq (a b : Rat) : Rat.divInt (a.num * b.den + b.num * a.den) ((a.den : Int) * b.den) = a + b := by
  have := Rat.divInt_add_divInt a.num b.num (den_ne a) (den_ne b)
  rw [Rat.num_divInt_den, Rat.num_divInt_den] at this
  exact this.symm
theorem sub_eq (a b : Rat) : Rat.divInt (a.num * b.den - b.num * a.den) ((a.den : Int) * b.den) = a - b := by
  have := Rat.divInt_sub_divInt a.num b.num (den_ne a) (den_ne b)
  rw [Rat.num_divInt_den, Rat.num_divInt_den] at this
  exact this.symm
theorem mul_eq (a b : Rat) : Rat.divInt (a.num * b.num) ((a.den : Int) * b.den) = a * b := by
  have := Rat.divInt_mul_divInt a.num b.num (d₁ := a.den) (d₂ := b.den)
  rw [Rat.num_divInt_den, Rat.num_divInt_den] at this
  exact this.symm
theorem den_mul_ne (a b : Rat) : (a.den : Int) * b.den ≠ 0 := Int.mul_ne_zero (den_ne a) (den_ne b)
theorem Bd.add {n m : Nat} {a b : Rat} (h : Bd n a) (k : Bd m b) : Bd (n + m + 1) (a + b) := by
  rw [← add_eq]
  exact (Bd.of ((h.num.mul k.den).add (k.num.mul h.den)) (h.den.mul k.den) (den_mul_ne a b)).mono (by omega)
theorem Bd.sub {n m : Nat} {a b : Rat} (h : Bd n a) (k : Bd m b) : Bd (n + m + 1) (a - b) := by
  rw [← sub_eq]
  exact (Bd.of ((h.num.mul k.den).sub (k.num.mul h.den)) (h.den.mul k.den) (den_mul_ne a b)).mono (by omega)
theorem Bd.mul {n m : Nat} {a b : Rat} (h : Bd n a) (k : Bd m b) : Bd (n + m) (a * b) := by
  rw [← mul_eq]
  exact (Bd.of (h.num.mul k.num) (h.den.mul k.den) (den_mul_ne a b)).mono (by omega)
/-! the share of two whole numbers, as it is reckoned -/
theorem share_pos (t b : Int) (hb : 0 < b) : t.fdiv (Int.gcd t b) = (Rat.divInt t b).num ∧ b.fdiv (Int.gcd t b) = ((Rat.divInt t b).den : Int) := by
  rw [Rat.num_divInt, Rat.den_divInt, if_neg (by omega), Int.sign_eq_one_of_pos hb, Int.one_mul, Int.gcd_comm b t]
  refine ⟨Int.fdiv_eq_ediv_of_nonneg _ (Int.natCast_nonneg _), ?_⟩
  rw [Int.fdiv_eq_ediv_of_nonneg _ (Int.natCast_nonneg _), Int.natCast_ediv, Int.natAbs_of_nonneg (Int.le_of_lt hb)]
theorem gcd_step (a b : Int) : Int.gcd b (a.fmod b) = Int.gcd a b := by
  rw [Int.fmod_def, Int.sub_eq_add_neg, ← Int.mul_neg, Int.gcd_add_mul_left_right, Int.gcd_comm]
theorem fmod_lt (a b : Int) (hb : b ≠ 0) : (a.fmod b).natAbs < b.natAbs := by
  rw [Int.fmod_eq_emod]
  have h1 := Int.emod_nonneg a hb
  have h2 := Int.emod_lt a hb
  by_cases h : 0 ≤ b ∨ b ∣ a
  · rw [if_pos h]; omega
  · rw [if_neg h]
    have h3 : a % b ≠ 0 := fun z => h (.inr (Int.dvd_of_emod_eq_zero z))
    omega
theorem gcd_zero (a : Int) : (if a < 0 then -a else a) = (Int.gcd a 0 : Int) := by
  rw [Int.gcd_zero]
  split <;> omega
theorem gcd_pos' (t b : Int) (hb : b ≠ 0) : (Int.gcd t b : Int) ≠ 0 := by
  have := Int.gcd_pos_of_ne_zero_right t hb
  omega
end Cv
namespace Cv
theorem divInt_cast (a b : Int) : Rat.divInt a b = (a : Rat) / (b : Rat) := Rat.divInt_eq_div a b
theorem num_cast (q : Rat) : (q.num : Rat) = q * ((q.den : Int) : Rat) := by
  have h := Rat.num_divInt_den q
  rw [Rat.divInt_eq_div] at h
  have hd : ((q.den : Int) : Rat) ≠ 0 := by
    intro z
    exact den_ne q (by exact_mod_cast z)
  conv => rhs; rw [← h]
  grind
theorem den_cast_ne (q : Rat) : ((q.den : Int) : Rat) ≠ 0 := by
  intro z
  exact den_ne q (by exact_mod_cast z)
/-- a quotient of whole numbers, by what it is worth -/
theorem eq_divInt {q : Rat} {t b : Int} (hb : b ≠ 0) (h : q * (b : Rat) = (t : Rat)) : q = Rat.divInt t b := by
  rw [Rat.divInt_eq_div]
  have hb' : (b : Rat) ≠ 0 := by
    intro z
    exact hb (by exact_mod_cast z)
  grind
end Cv

namespace Cv
open PySem PySem.Spec PyProof.Rows L2
section
variable {X : Cx}
/-! ### products and quotients of greater numbers -/
noncomputable def CMulB (i j : Int) : Prop := ∃ n m, Sz n i ∧ Sz m j ∧ n + m ≤ 100000000
noncomputable def CDivB (_i j : Int) : Prop := j ≠ 0 ∧ Sz 9000 j
theorem op_fdivB : OpR X (binaryOp .FloorDiv) (rI CDivB fun i j => .int (i.fdiv j)) := opI fun i j _ _ _ _ _ hc q => by
  obtain ⟨h0, h1⟩ := hc
  refine floordiv_int h0 q (.inl (PyProof.noPylong_of_log2 ?_))
  have hp : j.natAbs ≠ 0 := by omega
  exact (Nat.log2_lt hp).mpr h1.lt
/-! ### isinstance -/
theorem vals_one {x : V} {us : List Value} (r : Vals [x] us) : ∃ u, us = [u] ∧ RelV x u := by
  cases r with
  | cons p q => cases q; exact ⟨_, rfl, p⟩
theorem vals_two {x y : V} {us : List Value} (r : Vals [x, y] us) : ∃ u v, us = [u, v] ∧ RelV x u ∧ RelV y v := by
  cases r with
  | cons p q =>
    obtain ⟨v, rfl, p'⟩ := vals_one q
    exact ⟨_, _, rfl, p, p'⟩
theorem call_isi : CallR X (.builtin "isinstance") (fun xs H Q => ∃ x T t b, xs = [x, .ty T] ∧ TyOf X.K H x t ∧ PySem.W.kitOne X.K t (.type T) = some b ∧ Q (.bl b) H) := by
  intro pins s σ H xs us Q I r h
  obtain ⟨x, T, t, b, rfl, ty, e, q⟩ := h
  obtain ⟨u, v, rfl, ru, rv⟩ := vals_two r
  cases rv
  exact isinst_ok I ru ty e fun tk => ⟨.bl b, H, I.tok tk, rfl, q⟩
/-! ### data -/
mutual
/-- v is the data d -/
noncomputable def Dn (K : PySem.W.Frag) (H : Hp) : PySem.W.Dat → V → Prop
  | .none, v => v = .non
  | .bool b, v => v = .bl b
  | .int i, v => v = .int i
  | .str x, v => v = .str x
  | .bytes _, _ => False
  | .tuple ds, v => ∃ a xs, v = .ref a ∧ SqT K H a xs ∧ DnAll K H ds xs
  | .list ds, v => ∃ a xs, v = .ref a ∧ SqL K H a xs ∧ DnAll K H ds xs
noncomputable def DnAll (K : PySem.W.Frag) (H : Hp) : List PySem.W.Dat → List V → Prop
  | [], xs => xs = []
  | d :: ds, xs => ∃ y ys, xs = y :: ys ∧ Dn K H d y ∧ DnAll K H ds ys
end
mutual
theorem dn_reads {pins : List (Addr × Obj)} {σ : L2.St} {H : Hp} {s : Shared} (I : Inv X pins σ H s) : ∀ (n : Nat) (d : PySem.W.Dat) (v : V) (u : Value), Dn X.K H d v → RelV v u → PySem.W.kqdOk n d = true → ∃ as, Reads s.heap u (PySem.W.kqdP d) as
  | n, .none, v, u, h, r, _ => by
    cases (show v = .non from by simpa [Dn] using h); cases r
    rw [PySem.W.kqdP]; exact ⟨_, Reads.none⟩
  | n, .bool b, v, u, h, r, _ => by
    cases (show v = .bl b from by simpa [Dn] using h); cases r
    rw [PySem.W.kqdP]; exact ⟨_, Reads.bool b⟩
  | n, .int i, v, u, h, r, _ => by
    cases (show v = .int i from by simpa [Dn] using h)
    obtain ⟨t, rfl⟩ := r
    rw [PySem.W.kqdP]; exact ⟨_, Reads.int i t⟩
  | n, .str x, v, u, h, r, _ => by
    cases (show v = .str x from by simpa [Dn] using h)
    obtain ⟨t, rfl⟩ := r
    rw [PySem.W.kqdP]; exact ⟨_, Reads.str x t⟩
  | n, .bytes b, v, u, h, r, _ => by simp [Dn] at h
  | 0, .tuple ds, v, u, h, r, hk => by simp [PySem.W.kqdOk] at hk
  | 0, .list ds, v, u, h, r, hk => by simp [PySem.W.kqdOk] at hk
  | n + 1, .tuple ds, v, u, h, r, hk => by
    rw [Dn] at h
    obtain ⟨a, xs, rfl, hs, hd⟩ := h
    cases r
    obtain ⟨its, rv, ⟨o, ho, hc, m, hdt⟩, hz⟩ := I.tuple hs
    obtain ⟨as, q⟩ := dn_readsAll I n ds xs its hd rv (by simpa [PySem.W.kqdOk] using hk)
    rw [PySem.W.kqdP]
    exact ⟨as, reads_tuple_at ho hc hdt (by simpa using q)⟩
  | n + 1, .list ds, v, u, h, r, hk => by
    rw [Dn] at h
    obtain ⟨a, xs, rfl, hs, hd⟩ := h
    cases r
    obtain ⟨its, rv, pl, hz⟩ := I.list hs
    obtain ⟨o, ho, hc, m, hdt⟩ := pl.isList
    obtain ⟨as, q⟩ := dn_readsAll I n ds xs its hd rv (by simpa [PySem.W.kqdOk] using hk)
    rw [PySem.W.kqdP]
    exact ⟨_, reads_list_at ho hc hdt (by simpa using q)⟩
theorem dn_readsAll {pins : List (Addr × Obj)} {σ : L2.St} {H : Hp} {s : Shared} (I : Inv X pins σ H s) : ∀ (n : Nat) (ds : List PySem.W.Dat) (xs : List V) (us : List Value), DnAll X.K H ds xs → Vals xs us → (∀ d ∈ ds, PySem.W.kqdOk n d = true) → ∃ as, ReadsAll s.heap us (PySem.W.kqdPs ds) as
  | n, [], xs, us, h, r, _ => by
    cases (show xs = [] from by simpa [DnAll] using h)
    cases r
    rw [PySem.W.kqdPs]; exact ⟨_, ReadsAll.nil⟩
  | n, d :: ds, xs, us, h, r, hk => by
    rw [DnAll] at h
    obtain ⟨y, ys, rfl, h1, h2⟩ := h
    cases r with
    | cons p q =>
      obtain ⟨as, r1⟩ := dn_reads I n d y _ h1 p (hk d (.head _))
      obtain ⟨bs, r2⟩ := dn_readsAll I n ds ys _ h2 q fun e he => hk e (.tail _ he)
      rw [PySem.W.kqdPs]
      exact ⟨_, ReadsAll.cons r1 r2⟩
end
theorem shaped_ok {d : PySem.W.Dat} (h : PySem.W.kqdOk 8 d = true) : SeqAt.shaped (PySem.W.kqdP d) = true := by
  have la := PySem.W.kqd_lay 8 d h
  unfold SeqAt.shaped; rw [la.1, Bool.true_and]; exact decide_eq_true (Nat.le_trans la.2 (by decide))
noncomputable def rEqD (K : PySem.W.Frag) : R2 := fun x y H Q => ∃ d e, Dn K H d x ∧ Dn K H e y ∧ PySem.W.kqdOk 8 d = true ∧ PySem.W.kqdOk 8 e = true ∧ ∀ b : Bool, (b = true ↔ d = e) → Q (.bl b) H
noncomputable def rNeD (K : PySem.W.Frag) : R2 := fun x y H Q => ∃ d e, Dn K H d x ∧ Dn K H e y ∧ PySem.W.kqdOk 8 d = true ∧ PySem.W.kqdOk 8 e = true ∧ ∀ b : Bool, (b = true ↔ d = e) → Q (.bl (!b)) H
theorem op_eqD (hu : X.A.units + 64 < cLine) : OpR X (compareOp .Eq) (rEqD X.K) := by
  intro pins s σ H x y v u Q I rx ry h
  obtain ⟨d, e, hd, he, k1, k2, q⟩ := h
  obtain ⟨as, r1⟩ := dn_reads I 8 d x v hd rx k1
  obtain ⟨bs, r2⟩ := dn_reads I 8 e y u he ry k2
  exact eq_dataH r1 r2 (shaped_ok k1) (shaped_ok k2) hu ⟨.bl _, H, I, rfl, q _ (PySem.W.kqd_eqv 8 d e 8 k1 k2)⟩
theorem op_neD (hu : X.A.units + 64 < cLine) : OpR X (compareOp .NotEq) (rNeD X.K) := by
  intro pins s σ H x y v u Q I rx ry h
  obtain ⟨d, e, hd, he, k1, k2, q⟩ := h
  obtain ⟨as, r1⟩ := dn_reads I 8 d x v hd rx k1
  obtain ⟨bs, r2⟩ := dn_reads I 8 e y u he ry k2
  exact ne_dataH r1 r2 (shaped_ok k1) (shaped_ok k2) hu ⟨.bl _, H, I, rfl, q _ (PySem.W.kqd_eqv 8 d e 8 k1 k2)⟩
end
/-! ### shares -/
noncomputable def ShV (H : Hp) (v : V) (q : Rat) : Prop := ∃ a, v = .ref a ∧ H a = some (.tup [.int q.num, .int (q.den : Int)])
theorem ShV.same {H H' : Hp} {v : V} {q : Rat} (h : ShV H v q) (e : Same H H') : ShV H' v q := by
  obtain ⟨a, rfl, h⟩ := h
  exact ⟨a, rfl, e _ _ h⟩
noncomputable def datSh (q : Rat) : PySem.W.Dat := .tuple [.int q.num, .int (q.den : Int)]
theorem datSh_ok (q : Rat) (n : Nat) : PySem.W.kqdOk (n + 1) (datSh q) = true := by
  cases n <;> simp [datSh, PySem.W.kqdOk]
theorem ShV.dn {K : PySem.W.Frag} {H : Hp} {v : V} {q : Rat} (h : ShV H v q) : Dn K H (datSh q) v := by
  obtain ⟨a, rfl, h⟩ := h
  unfold datSh
  simp only [Dn, DnAll]
  exact ⟨a, _, rfl, SqT.of h, _, _, rfl, rfl, _, _, rfl, rfl, rfl⟩
theorem Same.new {H : Hp} {p : Addr} {o : HO} (h : H p = none) : Same H (upd H p o) := fun b u e => by
  rw [upd_ne (ne_of_none e h)]; exact e
theorem SqT.same {K : PySem.W.Frag} {H H' : Hp} {a : Addr} {xs : List V} (e : Same H H') (h : SqT K H a xs) : SqT K H' a xs := by
  rcases h with (h | ⟨o, h⟩) | h
  · exact .inl (.inl (e _ _ h))
  · exact .inl (.inr ⟨o, e _ _ h⟩)
  · exact .inr h
end Cv

namespace Cv
open PySem PySem.Spec PyProof.Rows L2
/-! ### a def of the text, in one word -/
/-- a def of the module as the top left it -/
structure FunAt (K : PySem.W.Frag) (mg : Str → Option Value) (x : Str) (st : Stmt) (ps : List Str) : Prop where
  ex : ∃ (f : Addr) (fd : FuncData), Fun K x x st f fd ∧ mg x = some (.ref f) ∧ Binds K fd ps []
structure DefOk (P : Program) (w : World) (K : PySem.W.Frag) (mg : Str → Option Value) (base : Heap) (CX : CXT) (k : Nat) (x : Str) (ps : List Str) (sp : Sp) : Prop where
  ex : ∃ (f : Addr) (fd : FuncData), FnOk P w K mg base CX k f fd ps sp ∧ mg x = some (.ref f) ∧ PySem.W.keepIn K (.ref f) = true ∧ Binds K fd ps [] ∧
    ∃ (oc : Value) (od : Option Addr) (osl : Array (Option Value)), K.lookup f = some ⟨oc, od, .func fd, osl⟩
/-- the names that the module leaves to the builtins -/
structure Blt (mg : Str → Option Value) : Prop where
  len : mg "len" = none
  abs : mg "abs" = none
  range : mg "range" = none
  max : mg "max" = none
  min : mg "min" = none
  any : mg "any" = none
  all : mg "all" = none
  sum : mg "sum" = none
  isinstance : mg "isinstance" = none
  int : mg "int" = none
  bool : mg "bool" = none
  tuple : mg "tuple" = none
  list : mg "list" = none
  str : mg "str" = none
  ValueError : mg "ValueError" = none
  zip : mg "zip" = none
  reversed : mg "reversed" = none
  enumerate : mg "enumerate" = none
  sorted : mg "sorted" = none
  dict : mg "dict" = none
section
variable {P : Program} {w : World} {K : PySem.W.Frag} {mg : Str → Option Value} {base : Heap}
theorem FunAt.mk' {x : Str} {st : Stmt} {ps : List Str} {f : Addr} {oc : Value} {od an : Option Addr} {osl : Array (Option Value)} {kV doc pm cdv ct : Value} (hm : mg x = some (.ref f))
    (l : K.lookup f = some ⟨oc, od, .func (PySem.W.fnOf x x (defArgs st) (defBody st) (defScope st) .none kV doc pm an cdv ct), osl⟩)
    (c : PySem.W.codeIn K cdv x = true) (k : PySem.W.keepIn K (.ref f) = true)
    (h : ∀ (kV doc pm : Value) (an : Option Addr) (cdv ct : Value) (us : List Value), us.length = ps.length → bindArgs (PySem.W.fnOf x x (defArgs st) (defBody st) (defScope st) .none kV doc pm an cdv ct) ⟨us, []⟩ = pure (ps.zip us)) : FunAt K mg x st ps := by
  have F := fun_mk (st := st) l c k
  exact ⟨_, _, F, hm, F.binds h⟩
theorem def_ok {x : Str} {st : Stmt} {N ps : List Str} {k : Nat} {sp : Sp} (F : FunAt K mg x st ps) (S : FnScope N ps (defScope st)) (len : ∀ vs H Q E, sp vs H Q E → vs.length = ps.length)
    (hbody : ∀ (f : Addr) (cdv : Value) (A : Around) (outer : List Env) (s : Shared) (H : Hp) (vs : List V) (Q : VK) (E : XK), Room k (A.deeper (envOfC x (defScope st) s.heap.objs.size f cdv)) → sp vs H Q E →
      ∃ t, PSs (cxOf CX0 P w K mg base N x (defScope st) f cdv A outer s H E).nox (defBody st) t ∧ t { nx := fun _ H' => Q .non H', rt := Q } (start N vs) H) : DefOk P w K mg base CX0 (k + 1) x ps sp := by
  obtain ⟨f, fd, F, hm, hb⟩ := F.ex
  exact ⟨f, fd, F.ok S len fun cdv A outer s H vs Q E hr h => hbody f cdv A outer s H vs Q E hr h, hm, F.kp, hb, let ⟨oc, od, _, _, _, _, _, _, osl, _, l, _⟩ := F.ex; ⟨oc, od, osl, l⟩⟩
end
section
variable {X : Cx} {CX : CXT} {k j : Nat} {ps : List Str} {sp : Sp} {E : XK} {x : Str} {p pos : Pos} {e : Expr} {es : List Expr} {t : TA}
noncomputable def tFn (sp : Sp) (E : XK) (t : TA) : TE := fun σ H Q => t σ H fun vs H1 => sp vs H1 Q E
theorem pe_fn (D : DefOk X.prog X.w X.K X.mg X.base CX k x ps sp) (hr : Room j X.A) (hx : Passes CX X E) (ha : PA X (e :: es) t) (hk : k ≤ j := by decide) (hg : Gl X x := by rfl)
    (hdb : (x == ("__debug__" : Str)) = false := by decide) (he : starEach (e :: es) X.env = (false, eval e X.env) :: starEach es X.env := by rfl) (hpl : (backTo pos (starEach es X.env)).any (·.1) = false := by rfl) :
    PE X (.Call (.Name x p) (e :: es) [] pos) (tFn sp E t) := by
  obtain ⟨f, fd, F, hm, kp, hb, _⟩ := D.ex
  intro pins s σ H Q I h
  have q := pe_call (X := X) (p := p) (pos := pos) F (hr.mono hk) hg hm kp hb .nil hx ha hdb he hpl
  refine q pins s σ H Q I ?_
  unfold tCall
  have e : (fun (vs : List V) (H1 : Hp) => sp (vs ++ []) H1 Q E) = fun vs H1 => sp vs H1 Q E := by
    funext vs H1
    rw [List.append_nil]
  rw [e]
  exact h
end
end Cv

namespace Cv
open PySem PySem.Spec PyProof.Rows L2
section
variable {X : Cx}
noncomputable def CMulA (i j : Int) : Prop := CMul i j ∨ CMulB i j
theorem op_mulA : OpR X (binaryOp .Mult) (rI CMulA fun i j => .int (i * j)) := opI fun i j _ _ _ _ _ hc q => by
  rcases hc with hc | ⟨n, m, h1, h2, h3⟩
  · exact mul_int q hc.ok
  · exact mul_int q (IntMulOk.of_le (PySem.intBits_le_iff.mpr h1.lt) (PySem.intBits_le_iff.mpr h2.lt) (by omega))
end
theorem mulL {i j : Int} (h1 : -(2 ^ 64) < i) (h2 : i < 2 ^ 64) : CMulA i j := .inl (.inl ⟨h1, h2⟩)
theorem mulR {i j : Int} (h1 : -(2 ^ 64) < j) (h2 : j < 2 ^ 64) : CMulA i j := .inl (.inr ⟨h1, h2⟩)
theorem mulB {n m : Nat} {i j : Int} (h1 : Sz n i) (h2 : Sz m j) (h : n + m ≤ 100000000 := by decide) : CMulA i j := .inr ⟨n, m, h1, h2, h⟩
/-! ### the promises -/
noncomputable def spGcd : Sp := fun vs H Q _ => ∃ a b : Int, vs = [.int a, .int b] ∧ Q (.int (Int.gcd a b)) H
noncomputable def spShare : Sp := fun vs H Q _ => ∃ t b : Int, vs = [.int t, .int b] ∧ b ≠ 0 ∧ Sz 9000 b ∧ ∀ v H', Same H H' → ShV H' v (Rat.divInt t b) → Q v H'
noncomputable def spBin (f : Rat → Rat → Rat) (ok : Rat → Prop) : Sp := fun vs H Q _ => ∃ x y p q, vs = [x, y] ∧ ShV H x p ∧ ShV H y q ∧ Bd 4000 p ∧ Bd 4000 q ∧ ok q ∧ ∀ v H', Same H H' → ShV H' v (f p q) → Q v H'
noncomputable def spPlus : Sp := spBin (fun p q => p + q) fun _ => True
noncomputable def spMinus : Sp := spBin (fun p q => p - q) fun _ => True
noncomputable def spTimes : Sp := spBin (fun p q => p * q) fun _ => True
noncomputable def spOver : Sp := spBin (fun p q => p / q) fun q => q ≠ 0
noncomputable def spUnder : Sp := fun vs H Q _ => ∃ x y p q, vs = [x, y] ∧ ShV H x p ∧ ShV H y q ∧ Bd 4000 p ∧ Bd 4000 q ∧ Q (.bl (decide (p < q))) H
noncomputable def spBetween : Sp := fun vs H Q _ => ∃ x y z p q t, vs = [x, y, z] ∧ ShV H x p ∧ ShV H y q ∧ ShV H z t ∧ Bd 4000 p ∧ Bd 4000 q ∧ Bd 4000 t ∧ Bd 4000 (q - p) ∧ Bd 4000 (t * (q - p)) ∧
  ∀ v H', Same H H' → ShV H' v (p + t * (q - p)) → Q v H'
/-! the law's own helpers -/
noncomputable def spCell (K : PySem.W.Frag) : Sp := fun vs H Q _ => ∃ (a : Addr) (ns : List Int) (k : Int), vs = [.ref a, .int k] ∧ SqL K H a (ns.map V.int) ∧ 0 ≤ k ∧ ∀ z, Q (.int z) H
noncomputable def spStream : Sp := fun vs H Q _ => ∃ c p : Int, vs = [.int c, .int p] ∧ ∀ (l : Addr) (xs : List Int) (H' : Hp), Same H H' → H' l = some (.lst (xs.map V.int)) → xs.length = 24 → (∀ x ∈ xs, 0 ≤ x) → Q (.ref l) H'
noncomputable def spWhole : Sp := fun vs H Q _ => ∃ i : Int, vs = [.int i] ∧ Q (.bl true) H
noncomputable def spPart : Sp := fun vs H Q _ => ∃ a b : Int, vs = [.int a, .int b] ∧ 0 ≤ a ∧ 0 ≤ b ∧ Q (.int (Int.gcd a b)) H
noncomputable def spLShare : Sp := fun vs H Q _ => ∃ t b : Int, vs = [.int t, .int b] ∧ 0 < b ∧ Sz 9000 b ∧ ∀ v H', Same H H' → ShV H' v (Rat.divInt t b) → Q v H'
noncomputable def spIsShare : Sp := fun vs H Q _ => ∃ x q, vs = [x] ∧ ShV H x q ∧ Q (.bl true) H
noncomputable def spDrawn : Sp := fun vs H Q _ => ∃ c p : Int, vs = [.int c, .int p] ∧ ∀ v q H', Same H H' → ShV H' v q → Bd 101 q → Q v H'
noncomputable def spGood : Sp := fun vs H Q _ => ∃ x q t b, vs = [x, .int t, .int b] ∧ ShV H x q ∧ Bd 9000 q ∧ Sz 50000 t ∧ Sz 50000 b ∧ Q (.bl (decide (q.num * b = t * q.den))) H
noncomputable def spLaw (K : PySem.W.Frag) : Sp := fun vs H Q _ => ∃ (a : Addr) (ns : List Int), vs = [.ref a] ∧ SqL K H a (ns.map V.int) ∧ ns.length ≤ 63 ∧ ∀ H', Q (.bl true) H'
/-! ### tests -/
theorem ite_dec {c : Prop} [Decidable c] {A B : Prop} (h1 : c → A) (h2 : ¬ c → B) : if decide c = true then A else B := by
  by_cases h : c
  · rw [if_pos (decide_eq_true h)]; exact h1 h
  · rw [if_neg (by simp [h])]; exact h2 h
theorem ifT {b : Bool} {A B : Prop} (h : b = true) (k : A) : if b = true then A else B := by rw [if_pos h]; exact k
theorem ifF {b : Bool} {A B : Prop} (h : b = false) (k : B) : if b = true then A else B := by rw [if_neg (by rw [h]; decide)]; exact k
theorem ifB {b : Bool} {A B : Prop} (h1 : b = true → A) (h2 : b = false → B) : if b = true then A else B := by
  cases b
  · exact ifF rfl (h2 rfl)
  · exact ifT rfl (h1 rfl)
end Cv
namespace Cv
open PySem PySem.Spec PyProof.Rows L2
/-- the law's function is the one that the top left -/
theorem DefOk.law {P : Program} {w : World} {K : PySem.W.Frag} {mg : Str → Option Value} {base : Heap} {CX : CXT} {k : Nat} {x : Str} {ps : List Str} {sp : Sp} {f : Addr} {fd : FuncData} {oc : Value} {od : Option Addr} {osl : Array (Option Value)}
    (D : DefOk P w K mg base CX k x ps sp) (l : K.lookup f = some ⟨oc, od, .func fd, osl⟩) (hm : mg x = some (.ref f)) : FnOk P w K mg base CX k f fd ps sp := by
  obtain ⟨f', fd', FO, hm', _, _, oc', od', osl', l'⟩ := D.ex
  have e := hm.symm.trans hm'
  cases e
  have e2 := l.symm.trans l'
  have e3 : Data.func fd = Data.func fd' := congrArg (fun (o : Obj) => o.data) (Option.some.inj e2)
  cases e3
  exact FO
theorem walk {l : PySem.W.OpenLaw} {k : Nat} {CX : CXT} {sp : PySem.W.Frag → Sp} {q : Program} {loose : List Str} {XP : (Str → Option Value) → Heap → Prop} {YP : World → Heap → Prop} {d : DefRec} {K : Params → PySem.W.Frag} {x : Str} (hn : l.most = some 63) (hdf : d.params.defaults = []) (hr : Room k callerA)
    (hY : ∀ (w : World) (h : Heap), YP w h → (K w.params).In h)
    (F : ∀ (w : World) (mg : Str → Option Value) (fa : Addr) (h : Heap), (K w.params).In h → h.Ns mainGlobals mg → mg d.name = some (.ref fa) →
      ∃ fd : FuncData, (∀ (s : Shared) (u : Value), BindsTo s fd ⟨[u], []⟩ [(x, u)]) ∧ ∀ (P : Program) (base : Heap), (K w.params).In base → base.Ns mainGlobals mg → FnOk P w (K w.params) mg base CX k fa fd [x] (sp (K w.params)))
    (hsp : ∀ (K : PySem.W.Frag) (H : Hp) (a : Addr) (ns : List Int), ns.length ≤ 63 → Only H → SqL K H a (ns.map V.int) → sp K [.ref a] H (fun v _ => v = .bl true) fun _ _ _ => False)
    (hCX : ∀ (H : Hp) (s : Shared) (e : Value) (s' : Shared), CX [] H s (fun _ _ _ => False) e s' → False) :
    PySem.W.WalkO q loose XP YP l.row.toRowW d [] (fun f vs => PySem.call f vs) :=
  L2.walk_of (n := 63) (k := k) (x := x) (CX := fun _ => CX) (sp := fun w => sp (K w.params)) hn (by decide) hdf hr hY
    (fun w mg fa h a b c => let ⟨fd, h1, h2⟩ := F w mg fa h a b c; ⟨fd, h1, fun base => h2 l.prog base⟩) (fun w H a ns => hsp (K w.params) H a ns) fun _ H s e s' => hCX H s e s'
end Cv

namespace Cv
open PySem PySem.Spec PyProof.Rows L2
/-! small facts for the readings -/
theorem pl {j : Int} (h : 0 < j := by decide) : 0 < j := h
theorem at_map (xs : List Int) (k : Nat) (h : k < xs.length) : atI (xs.map V.int) (k : Int) = some (V.int (xs.getD k 0)) := by
  refine atI_nat ?_
  rw [List.getElem?_map, List.getElem?_eq_getElem h]
  simp [List.getD_eq_getElem?_getD, List.getElem?_eq_getElem h]
theorem at_mapZ (xs : List Int) (k : Int) (h0 : 0 ≤ k) (h : k < (xs.length : Int)) : atI (xs.map V.int) k = some (V.int (xs.getD k.toNat 0)) := by
  have e : k = ((k.toNat : Nat) : Int) := by omega
  have q := at_map xs k.toNat (by omega)
  rw [← e] at q
  exact q
theorem getD_nn {xs : List Int} (h : ∀ x ∈ xs, 0 ≤ x) (k : Nat) : 0 ≤ xs.getD k 0 := by
  rw [List.getD_eq_getElem?_getD]
  cases e : xs[k]? with
  | none => simp
  | some v => exact h v (List.mem_of_getElem? e)
theorem p30 : (10 : Int) ^ (30 : Int).toNat = 1000000000000000000000000000000 := by decide
theorem pos30 : (0 : Int) < (10 : Int) ^ (30 : Int).toNat := by rw [p30]; decide
theorem sz_of {n : Nat} {x : Int} {b : Nat} (h1 : x.natAbs ≤ b) (h2 : b < 2 ^ n) : Sz n x := ⟨Nat.lt_of_le_of_lt h1 h2⟩
/-- a drawn top -/
theorem gcd_abs (t b : Int) : Int.gcd (if t < 0 then -t else t) b = Int.gcd t b := by
  split
  · rw [Int.neg_gcd]
  · rfl
theorem emod_gcd (a b : Int) (hb : 0 < b) : Int.gcd b (a % b) = Int.gcd a b := by
  have := gcd_step a b
  rw [Int.fmod_eq_emod_of_nonneg a (by omega)] at this
  exact this
theorem dec_int_ne {a b : Int} (h : a ≠ b) : (!decide (V.int a = V.int b)) = true := by simp [h]
theorem kit_ii (K : PySem.W.Frag) : PySem.W.kitOne K (.type "int") (.type "int") = some true := rfl
theorem kit_ib (K : PySem.W.Frag) : PySem.W.kitOne K (.type "int") (.type "bool") = some false := rfl
theorem kit_tt (K : PySem.W.Frag) : PySem.W.kitOne K (.type "tuple") (.type "tuple") = some true := rfl
theorem kit_bb (K : PySem.W.Frag) : PySem.W.kitOne K (.type "bool") (.type "bool") = some true := rfl
theorem kit_ll (K : PySem.W.Frag) : PySem.W.kitOne K (.type "list") (.type "list") = some true := rfl
end Cv

namespace Cv
open PySem PySem.Spec PyProof.Rows L2
/-! ### an exception on its way, with none ahead of it -/
structure TrX (h B : Heap) (e : Addr) (cls fl : Value) : Prop where
  ex : ∃ (oe : Obj) (vs : Array Value) (T : Addr) (oT : Obj) (ts : Array Value), (h.get? e = some oe ∧ oe.cls = cls ∧ oe.data = .fields vs ∧ oe.dict = none) ∧ (vs[2]? = some .none ∧ vs[1]? = some (.ref T)) ∧ (B.get? T = none ∧ T ≠ e) ∧ h.get? T = some oT ∧ oT.data = .fields ts ∧ ts[3]? = some fl
structure FlyX (B : Heap) (l : List Env) (e : Addr) (cls fl : Value) (h : Heap) : Prop where
  stays : B.StaysIn h
  new : B.get? e = none
  frames : h.FunFrames B l
  tr : TrX h B e cls fl
theorem FlyX.there {B h : Heap} {l : List Env} {e : Addr} {cls fl : Value} (x : FlyX B l e cls fl h) : ∃ o vs, h.get? e = some o ∧ o.cls = cls ∧ o.data = .fields vs ∧ vs[2]? = some .none ∧ o.dict = none := by
  obtain ⟨o, vs, _, _, _, ⟨a, b, c, f⟩, ⟨d, _⟩, _⟩ := x.tr.ex
  exact ⟨o, vs, a, b, c, d, f⟩
section
variable {M : Model} {A : Around} {E : Value → Shared → Prop} {s : Shared} {B : Heap} {env : Env} {outer : List Env} {L e : Addr}
/-- the next frame is noted -/
theorem FlyX.tail {cls fl : Value} {h : Heap} (x : FlyX B (env :: outer) e cls fl h) : FlyX B outer e cls fl h := by
  obtain ⟨a, b, ⟨_, _, c⟩, d⟩ := x
  exact ⟨a, b, c, d⟩
end
end Cv

namespace Cv
open PySem PySem.Spec PyProof.Rows L2
/-! ### an exception that flies -/
/-- from a call's entry (H, h) to the flight: B holds all that stays, frames aside; h' is the heap of the flight -/
structure UnB (fs : List Addr) (H H' : Hp) (h B h' : Heap) : Prop where
  keep : ∀ b o, h.get? b = some o → H b = none → b ∉ fs → B.get? b = some o
  slot : ∀ b o, h.get? b = some o → H b = none → b ∈ fs → ∃ sl, h'.get? b = some { o with slots := sl }
  free : ∀ b o, h.get? b = some o → H b = none → H' b = none
  there : ∀ b o, h.get? b = some o → b ∉ fs → ∃ o', B.get? b = some o'
  tups : ∀ b xs, H b = some (.tup xs) → H' b = some (.tup xs)
  frzs : ∀ b o u, H b = some (.frz o u) → H' b = some (.frz o u)
  tbls : ∀ b ps, H b = some (.tbl ps) → ∃ more, H' b = some (.tbl (ps ++ more))
theorem UnB.un {fs : List Addr} {H H' : Hp} {h B h' : Heap} (u : UnB fs H H' h B h') (hB : B.StaysIn h') (hf : ∀ b ∈ fs, H b = none) : Un fs [] H H' h h' where
  keep := fun b o e n hb _ => hB b o (u.keep b o e n hb)
  slot := fun b o e n hb _ => u.slot b o e n hb
  free := fun b o e n _ => u.free b o e n
  there := fun b o e _ => by
    by_cases hb : b ∈ fs
    · obtain ⟨sl, q⟩ := u.slot b o e (hf b hb) hb
      exact ⟨_, q⟩
    · obtain ⟨o', q⟩ := u.there b o e hb
      exact ⟨o', hB b o' q⟩
  tups := u.tups
  frzs := u.frzs
  tbls := u.tbls
/-- the flight goes on: slots may change -/
theorem UnB.on {fs : List Addr} {H H' : Hp} {h B h' h'' : Heap} (u : UnB fs H H' h B h') (hf : ∀ b ∈ fs, ∀ o, h.get? b = some o → ∀ vs, o.data ≠ .fields vs) (up : h'.UpToSlots h'') : UnB fs H H' h B h'' where
  keep := u.keep
  slot := fun b o e n hb => by
    obtain ⟨sl, q⟩ := u.slot b o e n hb
    obtain ⟨sl', q'⟩ := up b _ q (hf b hb o e)
    exact ⟨sl', q'⟩
  free := u.free
  there := u.there
  tups := u.tups
  frzs := u.frzs
  tbls := u.tbls
noncomputable def CXx (P : Program) (w : World) : CXT := fun outer H s E e s' => ∃ (x : Addr) (cls : Value) (H' : Hp) (B : Heap), e = .ref x ∧ s'.os = s.os ∧ AllBare s'.gens ∧ UnB (frs outer) H H' s.heap B s'.heap ∧
  HOk P w H' B ∧ FlyX B outer x cls .none s'.heap ∧ E cls none H'
/-- a raise in the body of X reaches what X wants -/
noncomputable def Throws (X : Cx) (E : XK) : Prop := ∀ (pins : List (Addr × Obj)) (σ : L2.St) (H : Hp) (s : Shared) (e : Addr) (h' : Heap) (cls : Value) (vs : List Value), Inv X pins σ H s → Heap.MadeExcOf s.heap h' e cls vs → E cls none H → X.xe (.ref e) { s with heap := h' }
section
variable {X : Cx} {pins : List (Addr × Obj)} {σ : L2.St} {H H' : Hp} {s : Shared}
end
section
variable {P : Program} {w : World} {K : PySem.W.Frag} {mg : Str → Option Value} {base : Heap} {N : List Str} {qual : Str} {scope : Scope} {f : Addr} {cd : Value} {A : Around} {outer : List Env} {s : Shared} {H : Hp} {E : XK}
end

/-! ### a def whose exceptions fly on -/
section
variable {P : Program} {w : World} {K : PySem.W.Frag} {mg : Str → Option Value} {base : Heap}
end
/-! ### the classes of refusals -/
noncomputable abbrev mroV : List Value := [.type "ValueError", .type "Exception", .type "BaseException", .type "object"]
/-- an own class of exceptions, as the top left it -/
structure XCls (K : PySem.W.Frag) (mg : Str → Option Value) (x : Str) (C : Addr) : Prop where
  bound : mg x = some (.ref C)
  obj : ∃ nm q N bs bm hdct sn sub ab col dd k0 k1 k2 k3 k5, K.lookup C = some (excClassObj nm q C N bs bm hdct sn sub ab col dd k0 k1 k2 k3 k5 "ValueError.__new__") ∧
    PySem.W.nsOkIn K N = true ∧ PySem.W.nsIn K N "__init__" = some none ∧ PySem.W.tailIn K mroV bm = true
theorem XCls.own {K : PySem.W.Frag} {mg : Str → Option Value} {x : Str} {C : Addr} {h : Heap} (c : XCls K mg x C) (X : K.In h) : OwnCls x C mroV "ValueError.__new__" mg h := by
  obtain ⟨nm, q, N, bs, bm, hdct, sn, sub, ab, col, dd, k0, k1, k2, k3, k5, l, h1, h2, h3⟩ := c.obj
  exact ⟨c.bound, bm, N, nm, q, bs, hdct, sn, sub, ab, col, dd, k0, k1, k2, k3, k5, _, X _ _ l, .of_isNs (PySem.W.isNs_of_in X h1), PySem.W.nsMap_none_of_in X h1 h2, PySem.W.tail_of_in X h3⟩
section
variable {X : Cx} {x : Str} {C : Addr} {np cpos pos : Pos} {E : XK} {e₀ : Expr} {ta : TA}
/-- raise x(e₀) -/
noncomputable def tRaise (E : XK) (C : Addr) (ta : TA) : TS := fun _ σ H => ta σ H fun vs H1 => vs.length ≤ sizeLine ∧ E (.ref C) none H1
end

/-! ### try, except C as n -/
noncomputable abbrev tryX (X : Cx) (xe : Value → Shared → Prop) (pn : List (Addr × Obj)) : Cx := { X with xe := xe, pn := pn }
noncomputable abbrev suiteX (X : Cx) (x : Addr) : Cx := { X with A := X.A.mark (some (.ref x)), calm := false, xe := fun _ _ => False }
section
variable {X : Cx} {pins pins' : List (Addr × Obj)} {σ : L2.St} {H H' : Hp} {s : Shared}
end
/-- an exception that was caught -/
noncomputable def ExcO (x : Addr) (cls : Value) : HO := .ext fun h => ∃ o vs, h.get? x = some o ∧ o.cls = cls ∧ o.data = .fields vs ∧ vs[2]? = some .none ∧ o.dict = none
noncomputable def tTry (K : PySem.W.Frag) (n : Nat) (SC : Addr) (tb : XK → TS) (ts : Addr → TS) : TS := fun D σ H => ∃ Ex : XK, tb Ex D σ H ∧ ∀ cls x H' (σ' : L2.St), Ex cls none H' → H' x = none → σ'.length = σ.length →
  PySem.W.exmOne K cls (.ref SC) = some true ∧ ts x { nx := fun _ _ => False, rt := D.rt } (σ'.set n (some (.ref x))) (upd H' x (ExcO x cls))
section
variable {X : Cx}
end
end Cv

namespace Cv
open PySem PySem.Spec PyProof.Rows L2
/-! ### isinstance of a caught exception -/
/-- what is told of a class of exceptions, for what is none of another one -/
structure XNot (K : PySem.W.Frag) (C : Addr) : Prop where
  hg : PySem.W.findIn K (.ref C) "__getattribute__" = some (some (.builtin "BaseException.__getattribute__"))
  hk : PySem.W.findIn K (.ref C) "__getattr__" = some none
  hd : (PySem.W.clsIn K C).isSome = true
  ha : PySem.W.findIn K (.ref C) "__class__" = some (some (.builtin "object.__class__"))
  hn : PySem.W.specialIn K (.builtin "object.__class__") "__get__" = some (some (.builtin "getset_descriptor.__get__"))
  ht : PySem.W.takesIn K (.builtin "object.__class__") = some true
  hm : PySem.W.mroIn K C (.type "object") = some true
  hb : PySem.W.mroIn K C (.type "BaseException") = some true
/-- an exception of an own class, as it lies there -/
noncomputable def XAt (x C : Addr) (h : Heap) : Prop := ∃ o vs, h.get? x = some o ∧ o.cls = .ref C ∧ o.data = .fields vs ∧ vs[2]? = some .none ∧ o.dict = none
section
variable {X : Cx}
/-- a class, as a value: one of the text's or a built-in one -/
noncomputable def clsOf : V → Option Value
  | .ref a => some (.ref a)
  | .ty n => some (.type n)
  | _ => none
end
end Cv
namespace Cv
open PySem PySem.Spec PyProof.Rows L2
/-! ### promises with refusals -/
noncomputable def spShareX (CN : Addr) : Sp := fun vs H Q E => ∃ t b : Int, vs = [.int t, .int b] ∧ ((b ≠ 0 ∧ Sz 9000 b ∧ ∀ v H', Same H H' → ShV H' v (Rat.divInt t b) → Q v H') ∨ (b = 0 ∧ E (.ref CN) none H))
noncomputable def spOverX (CN : Addr) : Sp := fun vs H Q E => ∃ x y p q, vs = [x, y] ∧ ShV H x p ∧ ShV H y q ∧ Bd 4000 p ∧ Bd 4000 q ∧ ((q ≠ 0 ∧ ∀ v H', Same H H' → ShV H' v (p / q) → Q v H') ∨ (q = 0 ∧ E (.ref CN) none H))
noncomputable def spRefused : Sp := fun vs H Q _ => ∃ x q, vs = [x] ∧ ShV H x q ∧ Bd 4000 q ∧ ∀ H', Same H H' → Q (.bl true) H'
theorem Bd.zero : Bd 4000 (0 : Rat) := ⟨Sz.zero.mono (by decide), Sz.one.mono (by decide)⟩
theorem Bd.one : Bd 4000 (1 : Rat) := ⟨Sz.one.mono (by decide), Sz.one.mono (by decide)⟩
end Cv

namespace Cv
open PySem PySem.Spec PyProof.Rows L2
/-! ### a list comprehension: one clause, no test -/
noncomputable abbrev cxComp (X : Cx) (scope : Scope) (cl : List (Str × Addr)) (Nc : List Str) (C : Addr) (s0 : Shared) (H0 : Hp) (fp : List Addr) : Cx where
  prog := X.prog
  w := X.w
  K := X.K
  mg := X.mg
  base := X.base
  A := X.A
  N := Nc
  s₀ := s0
  H₀ := H0
  env := compEnvC scope cl C X.env
  outer := X.stack
  stack := X.stack
  ex := fp
  fn := fun _ => false
  calm := X.calm
  pn := []
  xe := fun _ _ => False
noncomputable def capd (σ : L2.St) (ix : List Nat) : L2.St := ix.map fun j => (σ[j]?).getD none
/-- W: turn, measure, the items so far, the heap; the list stands at D -/
noncomputable def tComp (wi : TI) (te : TE) (ix : List Nat) : TE := fun σ H Q => wi σ H fun J H1 => ∀ D, H1 D = none → ∃ W : Nat → Nat → List V → Hp → Prop, (∃ m, W 0 m [] (upd H1 D (.lst []))) ∧
  ∀ i m ys H2, W i m ys H2 → (J.stop i H2 ∧ Q (.ref D) H2) ∨ (J.go i H2 ∧ ∀ x H', J.yld i H2 x H' → te (some x :: capd σ ix) H' fun v H3 => H3 D = some (.lst ys) ∧ ys.length < sizeLine ∧ ∃ m', m' < m ∧ W (i + 1) m' (ys ++ [v]) (upd H3 D (.lst (ys ++ [v]))))
section
variable {X : Cx}
end
end Cv

namespace Cv
open PySem PySem.Spec PyProof.Rows L2
/-! ### closures of a comprehension's block -/
theorem closure_go {env : Env} : ∀ (names : List (Str × NameKind)) (acc : List (Str × Addr)), (∀ y ∈ names, y.2 = .free → ∃ c, env.cells.lookup y.1 = some c) →
    ∃ cl, (forIn names acc fun (x : Str × NameKind) (r : List (Str × Addr)) => if (x.2 == NameKind.free) = true then (do let c ← cellOf env x.1; pure (ForInStep.yield ((x.1, c) :: r))) else pure (ForInStep.yield r) : Sem (List (Str × Addr))) = pure cl ∧
      ((∀ y c, acc.lookup y = some c → env.cells.lookup y = some c) → ∀ y c, cl.lookup y = some c → env.cells.lookup y = some c) ∧
      (∀ y, (∃ c, acc.lookup y = some c) → ∃ c, cl.lookup y = some c) ∧ ∀ y ∈ names, y.2 = .free → ∃ c, cl.lookup y.1 = some c
  | [], acc, _ => ⟨acc, by simp, fun h => h, fun _ h => h, fun _ h => nomatch h⟩
  | (n, k) :: r, acc, h => by
    rw [List.forIn_cons]
    by_cases hk : k = .free
    · subst hk
      obtain ⟨c, hc⟩ := h (n, .free) (.head _) rfl
      obtain ⟨cl, e, h1, h2, h3⟩ := closure_go (env := env) r ((n, c) :: acc) fun y hy => h y (.tail _ hy)
      refine ⟨cl, ?_, fun ha => h1 fun y d hd => ?_, fun y hy => h2 y ?_, fun y hy hf => ?_⟩
      · have ec : cellOf env n = pure c := by
          unfold cellOf
          have hc' : env.cells.lookup n = some c := hc
          rw [hc']
        simp only [ec]
        exact e
      · rw [List.lookup_cons] at hd
        by_cases hy : y == n
        · rw [hy] at hd
          cases hd
          rw [eq_of_beq hy]; exact hc
        · rw [Bool.not_eq_true] at hy
          rw [hy] at hd
          exact ha y d hd
      · rw [List.lookup_cons]
        by_cases hyn : y == n
        · rw [hyn]; exact ⟨_, rfl⟩
        · rw [Bool.not_eq_true] at hyn
          rw [hyn]; exact hy
      · rcases List.mem_cons.mp hy with rfl | hy
        · exact h2 n ⟨c, by rw [List.lookup_cons]; simp⟩
        · exact h3 y hy hf
    · obtain ⟨cl, e, h1, h2, h3⟩ := closure_go (env := env) r acc fun y hy => h y (.tail _ hy)
      refine ⟨cl, ?_, h1, h2, fun y hy hf => ?_⟩
      · have hk' : (k == NameKind.free) = false := by
          cases k <;> first | rfl | exact absurd rfl hk
        simp only [hk']
        exact e
      · rcases List.mem_cons.mp hy with rfl | hy
        · exact absurd hf hk
        · exact h3 y hy hf
theorem closure_of {scope : Scope} {env : Env} (h : ∀ y ∈ scope.names, y.2 = .free → ∃ c, env.cells.lookup y.1 = some c) :
    ∃ cl, closureFor scope env = pure cl ∧ (∀ y c, cl.lookup y = some c → env.cells.lookup y = some c) ∧ ∀ y ∈ scope.names, y.2 = .free → ∃ c, cl.lookup y.1 = some c := by
  obtain ⟨cl, e, h1, _, h3⟩ := closure_go (env := env) scope.names [] h
  refine ⟨cl, ?_, h1 (fun _ _ z => nomatch z), h3⟩
  unfold closureFor
  have := congrArg (fun (m : Sem (List (Str × Addr))) => m >>= fun r => pure r) e
  first
    | exact e
    | simpa using e
    | (simp only [bind_pure] at this ⊢; exact this)
/-- the names of the block, by their kinds in the def around it -/
theorem relabel_lookup {env : Env} : ∀ {names : List (Str × NameKind)} {y : Str} {k : NameKind}, (∀ z ∈ names, z.2 ≠ .cell) →
    (names.map fun (n, k) => if (k == NameKind.free && env.scope.kind == .function && env.kindOf n == some .cell) then (n, NameKind.cell) else (n, k)).lookup y = some k → (k = .cell ∨ k = .free) → (y, NameKind.free) ∈ names
  | [], _, _, _, h, _ => by simp at h
  | (n, q) :: r, y, k, hc, h, hk => by
    rw [List.map_cons] at h
    by_cases hy : y == n
    · have e : y = n := eq_of_beq hy
      subst e
      by_cases ht : (q == NameKind.free && env.scope.kind == .function && env.kindOf y == some .cell) = true
      · have : q = .free := by
          simp only [Bool.and_eq_true] at ht
          exact eq_of_beq ht.1.1
        rw [this]; exact .head _
      · simp only [ht] at h
        rw [List.lookup_cons] at h
        simp at h
        subst h
        rcases hk with rfl | rfl
        · exact absurd rfl (hc _ (.head _))
        · exact .head _
    · rw [Bool.not_eq_true] at hy
      refine .tail _ (relabel_lookup (env := env) (fun z hz => hc z (.tail _ hz)) ?_ hk)
      by_cases ht : (q == NameKind.free && env.scope.kind == .function && env.kindOf n == some .cell) = true
      · simp only [ht] at h
        rw [List.lookup_cons] at h
        have h' := h
        (simp [hy] at h'; simpa using h')
      · simp only [ht] at h
        rw [List.lookup_cons] at h
        have h' := h
        (simp [hy] at h'; simpa using h')
section
variable {prog : Program} {w : World} {A : Around} {R : Result → Shared → Prop} {s : Shared}
theorem compLoop_listG {elt target iter : Expr} {scope : Scope} {pos : Pos} {it acc : Value} {env : Env} (I : Nat → Shared → Prop)
    (turn : ∀ n s, I n s → wpAny (model prog w) A (pyNext it) (fun r s₁ => match r with
      | none => R (.ok .next) s₁
      | some v => wpAny (model prog w) A (letOwnedTupleGo target it v) (fun _ s₁' => wpAny (model prog w) A (assign target env v) (fun _ s₂ => wpAny (model prog w) A (eval elt env) (fun x s₃ =>
          wpAny (model prog w) A (call (.builtin "list.append") [acc, x]) (fun _ s₄ => ∃ m, m < n ∧ I m s₄) (notedBy (model prog w) A env fun e s' => R (.error e) s') s₃)
          (notedBy (model prog w) A env fun e s' => R (.error e) s') s₂) (notedBy (model prog w) A env fun e s' => R (.error e) s') s₁') (notedBy (model prog w) A env fun e s' => R (.error e) s') s₁) (notedBy (model prog w) A env fun e s' => R (.error e) s') s)
    (n : Nat) (h : I n s) :
    codeAny (model prog w) A (.compLoop (.ListComp elt [⟨target, iter, [], 0⟩] scope pos) 0 it acc env) R s := by
  refine codeAny_loop rfl I (fun n s hI => ?_) n h
  show wpAny _ _ ((compTurn (.ListComp elt [⟨target, iter, [], 0⟩] scope pos) 0 it acc env).onRaise (fun x => do noteFrame x env; theTreesLotGoes x)) _ _ s
  refine wpAny_noted ?_
  rw [compTurn_list1]
  refine wpAny_bind (wpAny_standAt (wpAny_bind (wpAny_mono (turn n s hI) (fun r s₁ h₁ => ?_) fun _ _ h' => h')))
  cases r with
  | none => exact wpAny_pure h₁
  | some v =>
    refine wpAny_bind (wpAny_mono h₁ (fun _ s₁' h₁' => ?_) fun _ _ h' => h')
    exact wpAny_bind (wpAny_mono h₁' (fun _ s₂ h₂ => wpAny_bind (wpAny_bind (wpAny_mono h₂ (fun x s₃ h₃ => wpAny_bind (wpAny_mono h₃
      (fun _ s₄ h₄ => wpAny_pure (wpAny_pure ⟨rfl, h₄⟩)) fun _ _ h' => h')) fun _ _ h' => h'))) fun _ _ h' => h')
end
noncomputable def CompGoal (k : Nat) (J : It) (H1 : Hp) (g : TG) (te : TE) (cs : L2.St) (Q : VK) : Prop := ∀ D, H1 D = none → ∃ W : Nat → Nat → List V → Hp → Prop, (∃ m, W 0 m [] (upd H1 D (.lst []))) ∧
  ∀ i m ys H2, W i m ys H2 → (J.stop i H2 ∧ Q (.ref D) H2) ∨ (J.go i H2 ∧ ∀ x H', J.yld i H2 x H' → ∀ own : L2.St, own.length = k → g x (own ++ cs) H' fun σ2 H4 => (∃ own' : L2.St, own'.length = k ∧ σ2 = own' ++ cs) ∧
    te σ2 H4 fun v H3 => H3 D = some (.lst ys) ∧ ys.length < sizeLine ∧ ∃ m', m' < m ∧ W (i + 1) m' (ys ++ [v]) (upd H3 D (.lst (ys ++ [v]))))
noncomputable def tCompG (k : Nat) (wi : TI) (g : TG) (te : TE) (ix : List Nat) : TE := fun σ H Q => wi σ H fun J H1 => CompGoal k J H1 g te (capd σ ix) Q
section
variable {X : Cx}
theorem comp_core {tg elt iter : Expr} {os : List Str} {pos ipos : Pos} {scope : Scope} {wi : TI} {g : TG} {te : TE} {caps : List (Nat × Str)} {pins : List (Addr × Obj)} {s : Shared} {σ : L2.St} {H : Hp} {Q : VK} {use : Option (Value → Sem Unit)} {R : Value → Shared → Prop} (hi : PI X tg iter wi)
    (hg : ∀ cl C s0 H0 fp, PG (cxComp X scope cl (os ++ caps.map (·.2)) C s0 H0 fp) tg g)
    (he : ∀ cl C s0 H0 fp, PE (cxComp X scope cl (os ++ caps.map (·.2)) C s0 H0 fp) elt te)
    (hfree : ∀ y ∈ scope.names, y.2 = .free → X.env.kindOf y.1 = some .cell)
    (hcap : ∀ p ∈ caps, X.N[p.1]? = some p.2 ∧ X.env.kindOf p.2 = some .cell ∧ ((relabel scope X.env).names.lookup p.2 = some .cell ∨ (relabel scope X.env).names.lookup p.2 = some .free))
    (hkind : scope.kind = .function) (hcell : ∀ y ∈ scope.names, y.2 ≠ .cell)
    (hnames : ∀ y ∈ scope.names, y.2 = .local → scope.names.lookup y.1 = some .local) (hc : X.calm = true) (hfs : ∀ v, foldedSetIterable iter X.env v = pure v)
    (hfin : ∀ D C H5 s6 m6, Inv X pins σ H5 s6 → s6.heap.Ns C m6 → FpOk X pins H5 C → Q (.ref D) H5 → compPost (model X.prog X.w) X.A X.xe use R (.ref D) C (.ok .next) s6)
    (I : Inv X pins σ H s) (h : tCompG os.length wi g te (caps.map (·.1)) σ H Q) :
    wpAny (model X.prog X.w) X.A (comprehension (.ListComp elt [⟨tg, iter, [], 0⟩] scope pos) scope X.env ipos (newList []) false (eval iter X.env) use) R X.xe s := by
  obtain ⟨cl, hclos, hcl, hin⟩ := closure_of (scope := scope) (env := X.env) fun y hy hf => I.ok.has y.1 (.inl (hfree y hy hf))
  have hhas : ∀ y, ((relabel scope X.env).names.lookup y = some .cell ∨ (relabel scope X.env).names.lookup y = some .free) → ∃ c, cl.lookup y = some c := fun y hy => by
    rcases hy with hy | hy
    · exact hin (y, .free) (relabel_lookup (env := X.env) hcell hy (.inl rfl)) rfl
    · exact hin (y, .free) (relabel_lookup (env := X.env) hcell hy (.inr rfl)) rfl
  refine wpAny_comprehension_free (use := use) rfl hfs hclos hkind hnames ?_
  refine thn (hi pins s σ H _ I h) fun v s1 h1 => thn h1 fun itv s2 h2 => ?_
  obtain ⟨it, fp, tn, J, H1, rfl, I2, T, st2, f2, rd⟩ := h2
  refine wpAny_newObj_type ?_ (by show 0 ≤ sizeLine; decide)
  have hD : H1 s2.heap.objs.size = none := I2.hok.fresh (Nat.le_refl _)
  obtain ⟨W, ⟨m0, w0⟩, turn⟩ := rd s2.heap.objs.size hD
  generalize eD : s2.heap.objs.size = D at hD w0 turn
  have I3 : Inv X pins σ (upd H1 D (.lst [])) { s2 with heap := s2.heap.push { cls := .type "list", data := .seq ([] : List Value).toArray } } := by
    subst eD
    exact I2.laid (t' := s2.toks) (fun b u e => Heap.get?_push_of_some _ e) (Nat.le_refl _) ⟨Nat.zero_le _, [], 0, .nil, Heap.get?_push_size _ rfl⟩
  generalize e3 : ({ s2 with heap := s2.heap.push { cls := .type "list", data := .seq ([] : List Value).toArray } } : Shared) = s3 at I3
  have hs3 : s3.heap.objs.size = D + 1 := by rw [← e3, ← eD]; simp
  have k23 : ∀ b o, s2.heap.get? b = some o → s3.heap.get? b = some o := fun b o e => by rw [← e3]; exact Heap.get?_push_of_some _ e
  refine wpAny_newFunctionEnv hcell (by intro y hy; simp at hy) (fun h4 hn4 hs4 => ?_) hkind
  have k34 : ∀ b o, s3.heap.get? b = some o → h4.get? b = some o := fun b o e => (hs4.2 b (Nat.ne_of_lt (Heap.lt_size e))).trans (Heap.get?_push_of_some _ e)
  generalize eC : s3.heap.objs.size = C at hn4 hs4
  have hfpC : ∀ b ∈ fp, b ≠ C := fun b hb z => by
    obtain ⟨o, e, _⟩ := T.obj 0 _ st2 b hb
    have h1 := Heap.lt_size e
    rw [z, ← eC, hs3, eD] at h1
    exact absurd h1 (Nat.not_lt.mpr (Nat.le_succ D))
  have hfps : ∀ b ∈ fp, b ∉ frs X.stack := fun b hb z => by
    rcases List.mem_cons.mp (I2.stkSub b z) with q | q
    · exact (f2 b hb).2.1 q
    · exact (f2 b hb).2.2.1 q
  have hfpD : ∀ b ∈ fp, b ≠ D := fun b hb z => by
    obtain ⟨o, e, _⟩ := T.obj 0 _ st2 b hb
    have h1 := Heap.lt_size e
    rw [z, eD] at h1
    exact Nat.lt_irrefl _ h1
  have okc : (cxComp X scope cl (os ++ caps.map (·.2)) C s3 (upd H1 D (.lst [])) fp).Ok := by
    refine ⟨I3.ok.mod, hkind, I3.ok.glob, I3.ok.blt, Nat.le_of_eq eC, fun y z c h1 h2 => I3.ok.inj y z c (hcl y c h1) (hcl z c h2), fun y hy => hhas y hy, fun y c hf => absurd hf Bool.false_ne_true, I3.ok.hd, I3.ok.frames, .inl rfl,
      fun b hb => ⟨hfpC b hb, fun y c e => (f2 b hb).2.2.2.2.1 y c (hcl y c e)⟩, I3.bs, Nat.le_trans I3.ok.bsz I3.sz, fun b o e hb => ?_, fun b hb => hfps b hb, I3.stack, I3.stkFree⟩
    rcases (f2 b hb).2.2.2.1 with z | z
    · exact I3.ok.noex b o e z
    · exact Nat.lt_irrefl _ (Nat.lt_of_lt_of_le (Heap.lt_size (I3.ok.bs b o e).1) z)
  have capS : (capd σ (caps.map (·.1))).length = caps.length := by unfold capd; rw [List.length_map, List.length_map]
  have Ic : Inv (cxComp X scope cl (os ++ caps.map (·.2)) C s3 (upd H1 D (.lst [])) fp) [] (List.replicate os.length none ++ capd σ (caps.map (·.1))) (upd H1 D (.lst [])) { s3 with heap := h4, toks := s3.toks + ([] : List (Str × Value)).length } := by
    refine ⟨okc, rfl, I3.bare, Un.kept k34, ⟨_, hn4, fun i y v e1 e2 e3' => ?_⟩, fun y c e => ?_, I3.hok.fresh (Nat.le_of_eq eC), fun y c e => I3.freeC y c (hcl y c e), fun p hp => absurd hp (by simp), I3.hok.kept k34, ?_⟩
    · by_cases hik : i < os.length
      · rw [List.getElem?_append_left (by rw [List.length_replicate]; exact hik), List.getElem?_replicate] at e2
        split at e2 <;> cases e2
      · have e1' : (caps.map (·.2))[i - os.length]? = some y := by
          have z : (os ++ caps.map (·.2))[i]? = some y := e1
          rw [List.getElem?_append_right (by omega)] at z
          exact z
        have e2' : (capd σ (caps.map (·.1)))[i - os.length]? = some (some v) := by
          rw [List.getElem?_append_right (by rw [List.length_replicate]; omega), List.length_replicate] at e2
          exact e2
        generalize i - os.length = i at e1' e2'
        rw [List.getElem?_map] at e1'
        unfold capd at e2'
        rw [List.getElem?_map, List.getElem?_map] at e2'
        cases q : caps[i]? with
        | none => rw [q] at e1'; cases e1'
        | some p =>
          rw [q] at e1' e2'
          have ey : p.2 = y := Option.some.inj e1'
          have ev : (σ[p.1]?).getD none = some v := Option.some.inj e2'
          have es : σ[p.1]? = some (some v) := by
            cases z : σ[p.1]? with
            | none => rw [z] at ev; cases ev
            | some w' => rw [z] at ev; exact congrArg some ev
          obtain ⟨hN, hk, hv⟩ := hcap p (List.mem_of_getElem? q)
          obtain ⟨m, _, hl⟩ := I3.loc
          obtain ⟨u, r, lk⟩ := hl p.1 p.2 v hN es (.inr (.inl hk))
          rw [ey] at hk hv lk
          refine ⟨u, r, .inr ⟨hv, ?_⟩⟩
          obtain ⟨c, hc'⟩ := hhas y hv
          rcases lk with ⟨z, _⟩ | ⟨_, c2, z, ic⟩
          · rw [hk] at z; cases z
          · have ec := (hcl y c hc').symm.trans z
            cases ec
            obtain ⟨o, ho, hd⟩ := ic
            exact ⟨c, hc', o, k34 _ _ ho, hd⟩
    · obtain ⟨v, o, ho, hd⟩ := I3.cell y c (hcl y c e)
      exact ⟨v, o, k34 _ _ ho, hd⟩
    · show (List.replicate os.length (none : Option V) ++ capd σ (caps.map fun p => p.1)).length = (os ++ caps.map fun p => p.2).length
      rw [List.length_append, List.length_append, List.length_replicate, capS, List.length_map]
  have fpc : ∀ H', (∀ b ∈ fp, H' b = none) → ∀ b ∈ fp, FpOk (cxComp X scope cl (os ++ caps.map (·.2)) C s3 (upd H1 D (.lst [])) fp) [] H' b := fun H' hn b hb =>
    ⟨hn b hb, hfpC b hb, hfps b hb, .inl hb, fun y c e => (f2 b hb).2.2.2.2.1 y c (hcl y c e), fun p hp => absurd hp (by simp)⟩
  have st4 : tn 0 h4 := T.keep _ _ _ (T.keep _ _ _ st2 fun b _ o e => k23 b o e) fun b _ o e => k34 b o e
  have fp0 : ∀ b ∈ fp, (upd H1 D (.lst [])) b = none := fun b hb => by rw [upd_ne (hfpD b hb)]; exact (f2 b hb).1
  have loop : codeAny (model X.prog X.w) X.A (.compLoop (.ListComp elt [⟨tg, iter, [], 0⟩] scope pos) 0 (.ref it) (.ref D) (compEnvC scope cl C X.env)) (compPost (model X.prog X.w) X.A X.xe use R (.ref D) C)
      { s3 with heap := h4, toks := s3.toks + ([] : List (Str × Value)).length } := by
    refine compLoop_listG (fun n s' => ∃ i ys own H', own.length = os.length ∧ Inv (cxComp X scope cl (os ++ caps.map (·.2)) C s3 (upd H1 D (.lst [])) fp) [] (own ++ capd σ (caps.map (·.1))) H' s' ∧ tn i s'.heap ∧ (∀ b ∈ fp, H' b = none) ∧ W i n ys H') ?_ m0 ⟨0, [], List.replicate os.length none, _, List.length_replicate, Ic, st4, fp0, w0⟩
    rintro n s5 ⟨i, ys, own, H5, ho5, I5, st5, fr5, w5⟩
    rcases turn i n ys H5 w5 with ⟨stop, qn⟩ | ⟨go, step⟩
    · refine thn (T.done (cxComp X scope cl (os ++ caps.map (·.2)) C s3 (upd H1 D (.lst [])) fp) rfl rfl rfl hc i [] s5 _ H5 _ I5 (fpc H5 fr5) st5 stop) fun r s6 ⟨hr, I6⟩ => ?_
      subst hr
      obtain ⟨m6, hn6, _⟩ := I6.loc
      have hs' : Heap.SameBut C s6.heap s6.heap := ⟨rfl, fun _ _ => rfl⟩
      generalize eh' : s6.heap = h' at hs'
      have hs' : Heap.SameBut C s6.heap h' := by rw [eh']; exact hs'
      have neC : ∀ b o, s3.heap.get? b = some o → b ≠ C := fun b o e => Nat.ne_of_lt (eC ▸ Heap.lt_size e)
      have ns : ∀ b o, s2.heap.get? b = some o → b ≠ D := fun b o e => Nat.ne_of_lt (eD ▸ Heap.lt_size e)
      have B := I6.base
      have uu : Un (frs X.stack) fp H1 H5 s2.heap h' := by
        refine ⟨fun b o e nn hb hf => ?_, fun b o e nn hb hf => ?_, fun b o e nn hf => ?_, fun b o e hf => ?_, fun b xs e => ?_, fun b o u' e => ?_, fun b ps e => ?_⟩
        · exact (hs'.2 b (neC b o (k23 b o e))).trans (B.keep b o (k23 b o e) (by show (upd H1 D _) b = none; rw [upd_ne (ns b o e)]; exact nn) hb hf)
        · obtain ⟨sl, z⟩ := B.slot b o (k23 b o e) (by show (upd H1 D _) b = none; rw [upd_ne (ns b o e)]; exact nn) hb hf
          exact ⟨sl, (hs'.2 b (neC b o (k23 b o e))).trans z⟩
        · exact B.free b o (k23 b o e) (by show (upd H1 D _) b = none; rw [upd_ne (ns b o e)]; exact nn) hf
        · obtain ⟨o', z⟩ := B.there b o (k23 b o e) hf
          exact ⟨o', (hs'.2 b (neC b o (k23 b o e))).trans z⟩
        · exact B.tups b xs (by show (upd H1 D _) b = _; rw [upd_ne (ne_of_none e hD)]; exact e)
        · exact B.frzs b o u' (by show (upd H1 D _) b = _; rw [upd_ne (ne_of_none e hD)]; exact e)
        · exact B.tbls b ps (by show (upd H1 D _) b = _; rw [upd_ne (ne_of_none e hD)]; exact e)
      have hok' : HOk X.prog X.w H5 h' := fun b o e => by
        refine (I6.hok b o e).stay (fun c' u' hc' z => (hs'.2 c' fun zz => ?_).trans z) (fun _ z => z) fun _ _ z => z
        have fr : H5 C = none := I6.free
        rcases hc' with hc' | hc'
        · rw [← zz, hc', e] at fr; cases fr
        · rw [← zz, hc'] at fr; cases fr
      have ho6 : s6.os = s2.os := I6.os.trans (by show s3.os = s2.os; rw [← e3])
      subst eh'
      have hC2 : s2.heap.objs.size ≤ C := by rw [← eC, hs3, eD]; exact Nat.le_succ D
      exact hfin D C H5 s6 m6 (I2.call' (s' := s6) (ch := fp) ho6 uu hok' I6.bare (fun b hb => ⟨(f2 b hb).2.2.2.1, (f2 b hb).2.1, (f2 b hb).2.2.2.2.1, (f2 b hb).2.2.2.2.2⟩)) hn6 (I2.fpOk hC2 I6.free) qn
    · refine thn (T.item (cxComp X scope cl (os ++ caps.map (·.2)) C s3 (upd H1 D (.lst [])) fp) rfl rfl rfl hc i [] s5 _ H5 _ I5 (fpc H5 fr5) st5 go) fun r s6 ⟨u, hr, h6⟩ => ?_
      subst hr
      refine (thn h6 fun _ s7 ⟨y, H7, I7, r7, y7, st7, fr7⟩ => ?_)
      have I7' := I7.pinned (fpc H7 fr7) (T.obj _ _ st7)
      refine wpAny_mono (hg cl C s3 _ fp _ s7 _ H7 y u _ I7' r7 (step y H7 y7 own ho5)) (fun _ s8 ⟨σ8, H8, I8, ⟨own', ho8, e8⟩, q8⟩ => ?_) fun _ _ z => z.elim
      subst e8
      refine wpAny_mono (he cl C s3 _ fp _ s8 _ H8 _ I8 q8) (fun xv s9 ⟨v9, H9, I9, r9, d9, l9, m9, lt9, w9⟩ => ?_) fun _ _ z => z.elim
      refine wpAny_mono (mt_append (X := (cxComp X scope cl (os ++ caps.map (·.2)) C s3 (upd H1 D (.lst [])) fp)) _ s9 _ H9 (.ref D) [v9] (.ref D) [xv] (fun _ H10 => H10 = upd H9 D (.lst (ys ++ [v9]))) I9 rfl (.cons r9 .nil) ⟨D, ys, v9, rfl, rfl, d9, l9, rfl⟩) (fun _ s10 ⟨_, H10, I10, _, e10⟩ => ?_) fun _ _ z => z.elim
      subst e10
      refine ⟨m9, lt9, i + 1, ys ++ [v9], own', _, ho8, I10.unpinned, T.keep _ _ _ st7 fun b hb o e => (I10.pin (b, o) (List.mem_append_right _ (List.mem_append_right _ (mem_pinsAt hb e)))).1, fun b hb => ?_, w9⟩
      obtain ⟨o, e, _⟩ := T.obj _ _ st7 b hb
      exact (I10.pin (b, o) (List.mem_append_right _ (List.mem_append_right _ (mem_pinsAt hb e)))).2.1
  exact codeAny_compStart_list loop (T.self _ 0 _ _ _ st4 loop)

theorem pe_compG {tg elt iter : Expr} {os : List Str} {pos : Pos} {scope : Scope} {wi : TI} {g : TG} {te : TE} {caps : List (Nat × Str)} (hi : PI X tg iter wi)
    (hg : ∀ cl C s0 H0 fp, PG (cxComp X scope cl (os ++ caps.map (·.2)) C s0 H0 fp) tg g)
    (he : ∀ cl C s0 H0 fp, PE (cxComp X scope cl (os ++ caps.map (·.2)) C s0 H0 fp) elt te)
    (hfree : ∀ y ∈ scope.names, y.2 = .free → X.env.kindOf y.1 = some .cell)
    (hcap : ∀ p ∈ caps, X.N[p.1]? = some p.2 ∧ X.env.kindOf p.2 = some .cell ∧ ((relabel scope X.env).names.lookup p.2 = some .cell ∨ (relabel scope X.env).names.lookup p.2 = some .free))
    (hkind : scope.kind = .function) (hcell : ∀ y ∈ scope.names, y.2 ≠ .cell)
    (hnames : ∀ y ∈ scope.names, y.2 = .local → scope.names.lookup y.1 = some .local) (hc : X.calm = true) (hfs : ∀ v, foldedSetIterable iter X.env v = pure v) :
    PE X (.ListComp elt [⟨tg, iter, [], 0⟩] scope pos) (tCompG os.length wi g te (caps.map (·.1))) := by
  intro pins s σ H Q I h
  rw [eval_ListComp]
  refine comp_core (Q := Q) (use := none) (R := EP X pins σ Q) hi hg he hfree hcap hkind hcell hnames hc hfs (fun D C H5 s6 m6 I6 n6 f6 q6 => ?_) I h
  refine ⟨m6, n6, fun h' hs' => ⟨.ref D, H5, ?_, rfl, q6⟩⟩
  exact I6.turned (t' := s6.toks) (fun b o hb e => (hs'.2 b hb).trans e) f6.1 f6.2.1 f6.2.2.2.1 f6.2.2.2.2.1 f6.2.2.2.2.2
/-- name = a comprehension, the name a plain local: the store comes ahead of the letting go -/
theorem ps_compG {tg elt iter : Expr} {os : List Str} {i : Nat} {y : Str} {py pos spos : Pos} {scope : Scope} {wi : TI} {g : TG} {te : TE} {caps : List (Nat × Str)} (hN : X.N.Nodup) (hy : X.N[i]? = some y) (hl : X.env.kindOf y = some .local) (hi : PI X tg iter wi)
    (hg : ∀ cl C s0 H0 fp, PG (cxComp X scope cl (os ++ caps.map (·.2)) C s0 H0 fp) tg g)
    (he : ∀ cl C s0 H0 fp, PE (cxComp X scope cl (os ++ caps.map (·.2)) C s0 H0 fp) elt te)
    (hfree : ∀ y ∈ scope.names, y.2 = .free → X.env.kindOf y.1 = some .cell)
    (hcap : ∀ p ∈ caps, X.N[p.1]? = some p.2 ∧ X.env.kindOf p.2 = some .cell ∧ ((relabel scope X.env).names.lookup p.2 = some .cell ∨ (relabel scope X.env).names.lookup p.2 = some .free))
    (hkind : scope.kind = .function) (hcell : ∀ y ∈ scope.names, y.2 ≠ .cell)
    (hnames : ∀ y ∈ scope.names, y.2 = .local → scope.names.lookup y.1 = some .local) (hc : X.calm = true) (hfs : ∀ v, foldedSetIterable iter X.env v = pure v)
    (hsw : swapsWith (.ListComp elt [⟨tg, iter, [], 0⟩] scope pos) (some (.Name y py)) spos.line X.env = pure true) :
    PS X (.Assign [.Name y py] (.ListComp elt [⟨tg, iter, [], 0⟩] scope pos) spos) (tAsg (tCompG os.length wi g te (caps.map (·.1))) (gName i)) := by
  intro pins s σ H D I h
  rw [exec_Assign_Name_used _ _ _ _ hsw]
  refine wpAny_bind (wpAny_standAt (wpAny_bind ?_))
  show wpAny _ X.A (do let _ ← comprehension (.ListComp elt [⟨tg, iter, [], 0⟩] scope pos) scope X.env _ (newList []) false (eval iter X.env) (some (assign (.Name y py) X.env))) _ _ s
  refine wpAny_bind (wpAny_mono (comp_core (Q := fun x H1 => gName i x σ H1 D.nx) (use := some (assign (.Name y py) X.env)) (R := fun _ s' => SP X pins D .next s') hi hg he hfree hcap hkind hcell hnames hc hfs (fun D' C H5 s6 m6 I6 n6 f6 q6 => ?_) I h) (fun _ s' hq => wpAny_pure (wpAny_pure hq)) fun _ _ e => e)
  show wpAny _ X.A (assign (.Name y py) X.env (.ref D')) _ _ s6
  obtain ⟨oC, es, ep, hoC, rC⟩ := n6
  have dC : ∀ v, oC.data ≠ .cell v := fun v z => by
    first
      | (rw [rC.2.1] at z; cases z)
      | (obtain ⟨_, hd, _⟩ := rC; rw [hd] at z; cases z)
      | (obtain ⟨hd, _⟩ := rC; rw [hd] at z; cases z)
  have Ip : Inv X (pins ++ [(C, oC)]) σ H5 s6 := I6.pins_of fun p hp => (List.mem_append.mp hp).elim (fun z => I6.pin p (List.mem_append_right _ z)) fun z => by
    have e : p = (C, oC) := by simpa using z
    subst e
    exact ⟨hoC, f6.1, f6.2.1, f6.2.2.1, dC⟩
  refine wpAny_assign_Name (store_ok Ip hN hy (.inl hl) (v := .ref D') rfl (fun s7 I7 => ?_) (.inr hl))
  have h7 := (I7.pin (C, oC) (List.mem_append_right _ (List.mem_append_right _ (by simp)))).1
  refine ⟨m6, ⟨oC, es, ep, h7, rC⟩, fun h' hs' => ⟨_, H5, ?_, q6⟩⟩
  have I8 := I7.unpinned
  exact I8.turned (t' := s7.toks) (fun b o hb e => (hs'.2 b hb).trans e) f6.1 f6.2.1 f6.2.2.2.1 f6.2.2.2.2.1 f6.2.2.2.2.2
end
end Cv

namespace Cv
open PySem PySem.Spec PyProof.Rows L2
/-! ### what a comprehension asks of the scopes, by one reckoning -/
noncomputable def compOk (N : List Str) (sc scope : Scope) (caps : List (Nat × Str)) : Bool :=
  decide (scope.kind = .function) && scope.names.all (fun y => decide (y.2 ≠ .cell) && (!decide (y.2 = .free) || decide (sc.names.lookup y.1 = some .cell)) && (!decide (y.2 = .local) || decide (scope.names.lookup y.1 = some .local))) &&
    caps.all fun p => decide (N[p.1]? = some p.2) && decide (sc.names.lookup p.2 = some .cell) && decide (scope.names.lookup p.2 = some .free)
theorem relabel_free {env : Env} : ∀ {names : List (Str × NameKind)} {y : Str}, names.lookup y = some .free →
    (names.map fun (n, k) => if (k == NameKind.free && env.scope.kind == .function && env.kindOf n == some .cell) then (n, NameKind.cell) else (n, k)).lookup y = some .cell ∨
    (names.map fun (n, k) => if (k == NameKind.free && env.scope.kind == .function && env.kindOf n == some .cell) then (n, NameKind.cell) else (n, k)).lookup y = some .free
  | [], _, h => by simp at h
  | (n, q) :: r, y, h => by
    rw [List.lookup_cons] at h
    rw [List.map_cons]
    by_cases hy : y == n
    · rw [hy] at h
      cases h
      by_cases ht : (NameKind.free == NameKind.free && env.scope.kind == .function && env.kindOf n == some .cell) = true
      · left; simp only [ht]; rw [List.lookup_cons]; simp [eq_of_beq hy]
      · right; simp only [ht]; rw [List.lookup_cons]; simp [eq_of_beq hy]
    · rw [Bool.not_eq_true] at hy
      rw [hy] at h
      have ih := relabel_free (env := env) h
      by_cases ht : (q == NameKind.free && env.scope.kind == .function && env.kindOf n == some .cell) = true
      · simp only [ht]; rw [List.lookup_cons]; simpa [hy] using ih
      · simp only [ht]; rw [List.lookup_cons]; simpa [hy] using ih
section
variable {X : Cx}
theorem pe_compS {tg elt iter : Expr} {os : List Str} {pos : Pos} {scope : Scope} {wi : TI} {g : TG} {te : TE} {caps : List (Nat × Str)} (N : List Str) (sc : Scope) (hi : PI X tg iter wi)
    (hg : ∀ cl C s0 H0 fp, PG (cxComp X scope cl (os ++ caps.map (·.2)) C s0 H0 fp) tg g)
    (he : ∀ cl C s0 H0 fp, PE (cxComp X scope cl (os ++ caps.map (·.2)) C s0 H0 fp) elt te)
    (ok : compOk N sc scope caps = true) (hN : X.N = N := by rfl) (hsc : X.env.scope = sc := by rfl) (hc : X.calm = true := by rfl) (hfs : ∀ v, foldedSetIterable iter X.env v = pure v := by intro _; rfl) :
    PE X (.ListComp elt [⟨tg, iter, [], 0⟩] scope pos) (tCompG os.length wi g te (caps.map (·.1))) := by
  subst hN hsc
  unfold compOk at ok
  simp only [Bool.and_eq_true, List.all_eq_true, decide_eq_true_eq, Bool.or_eq_true, Bool.not_eq_true', decide_eq_false_iff_not] at ok
  obtain ⟨⟨h1, h2⟩, h3⟩ := ok
  refine pe_compG hi hg he (fun y hy hf => ?_) (fun p hp => ?_) h1 (fun y hy => (h2 y hy).1.1) (fun y hy hl => ?_) hc hfs
  · rcases (h2 y hy).1.2 with z | z
    · exact absurd hf z
    · exact z
  · obtain ⟨⟨a, b⟩, c⟩ := h3 p hp
    exact ⟨a, b, relabel_free c⟩
  · rcases (h2 y hy).2 with z | z
    · exact absurd hl z
    · exact z
theorem ps_compS {tg elt iter : Expr} {os : List Str} {i : Nat} {y : Str} {py pos spos : Pos} {scope : Scope} {wi : TI} {g : TG} {te : TE} {caps : List (Nat × Str)} (N : List Str) (sc : Scope) (hNd : X.N.Nodup) (hy : X.N[i]? = some y) (hl : X.env.kindOf y = some .local) (hi : PI X tg iter wi)
    (hg : ∀ cl C s0 H0 fp, PG (cxComp X scope cl (os ++ caps.map (·.2)) C s0 H0 fp) tg g)
    (he : ∀ cl C s0 H0 fp, PE (cxComp X scope cl (os ++ caps.map (·.2)) C s0 H0 fp) elt te)
    (ok : compOk N sc scope caps = true) (hN : X.N = N := by rfl) (hsc : X.env.scope = sc := by rfl) (hc : X.calm = true := by rfl) (hfs : ∀ v, foldedSetIterable iter X.env v = pure v := by intro _; rfl)
    (hsw : swapsWith (.ListComp elt [⟨tg, iter, [], 0⟩] scope pos) (some (.Name y py)) spos.line X.env = pure true := by rfl) :
    PS X (.Assign [.Name y py] (.ListComp elt [⟨tg, iter, [], 0⟩] scope pos) spos) (tAsg (tCompG os.length wi g te (caps.map (·.1))) (gName i)) := by
  subst hN hsc
  unfold compOk at ok
  simp only [Bool.and_eq_true, List.all_eq_true, decide_eq_true_eq, Bool.or_eq_true, Bool.not_eq_true', decide_eq_false_iff_not] at ok
  obtain ⟨⟨h1, h2⟩, h3⟩ := ok
  refine ps_compG hNd hy hl hi hg he (fun y hy hf => ?_) (fun p hp => ?_) h1 (fun y hy => (h2 y hy).1.1) (fun y hy hl => ?_) hc hfs hsw
  · rcases (h2 y hy).1.2 with z | z
    · exact absurd hf z
    · exact z
  · obtain ⟨⟨a, b⟩, c⟩ := h3 p hp
    exact ⟨a, b, relabel_free c⟩
  · rcases (h2 y hy).2 with z | z
    · exact absurd hl z
    · exact z
end
/-! ### tuples never change -/
noncomputable def Tup (H H' : Hp) : Prop := ∀ b xs, H b = some (.tup xs) → H' b = some (.tup xs)
theorem _root_.L2.Same.tup {H H' : Hp} (h : Same H H') : Tup H H' := fun b xs e => h b _ e
theorem Tup.refl (H : Hp) : Tup H H := fun _ _ e => e
theorem Tup.trans {H H1 H2 : Hp} (a : Tup H H1) (b : Tup H1 H2) : Tup H H2 := fun c xs e => b c xs (a c xs e)
theorem Tup.lst {H : Hp} {D : Addr} {ys : List V} {o : HO} (h : H D = some (.lst ys)) : Tup H (upd H D o) := fun b xs e => by
  rw [upd_ne (fun z => by rw [z, h] at e; cases e)]; exact e
theorem Tup.new {H : Hp} {D : Addr} {o : HO} (h : H D = none) : Tup H (upd H D o) := L2.Same.tup (Same.new h)
theorem ShV.tup {H H' : Hp} {v : V} {q : Rat} (h : ShV H v q) (e : Tup H H') : ShV H' v q := by
  obtain ⟨a, rfl, h⟩ := h
  exact ⟨a, rfl, e _ _ h⟩
/-! ### comprehensions by what their items are -/
/-- an iterator of n items that are known ahead -/
noncomputable def Plain1 (J : It) (H1 : Hp) (n : Nat) (f : Nat → V) : Prop := ∀ H2, Same H1 H2 → ∀ i, (i < n → J.go i H2 ∧ ∀ x H', J.yld i H2 x H' → H' = H2 ∧ x = f i) ∧ (i = n → J.stop i H2)
/-- .. of n pairs (tuples that are new, or known ahead) -/
noncomputable def Plain2 (K : PySem.W.Frag) (J : It) (H1 : Hp) (n : Nat) (f g : Nat → V) : Prop := ∀ H2, Same H1 H2 → ∀ i, (i < n → J.go i H2 ∧ ∀ x H', J.yld i H2 x H' → Same H2 H' ∧ ∃ a, x = .ref a ∧ SqT K H' a [f i, g i]) ∧ (i = n → J.stop i H2)
theorem plain_range (lo : Int) (n : Nat) (H1 : Hp) : Plain1 (Itr lo n) H1 n fun i => .int (lo + i) := fun H2 _ i =>
  ⟨fun hi => ⟨hi, fun x H' y => ⟨y.1, y.2⟩⟩, fun e => by subst e; exact Nat.le_refl _⟩
theorem plain_list {K : PySem.W.Frag} {a : Addr} {xs : List V} {H1 : Hp} (h : SqL K H1 a xs) : Plain1 (Itl K a) H1 xs.length fun i => (xs[i]?).getD .non := fun H2 s i =>
  ⟨fun hi => ⟨⟨xs, xs[i], s.seq h, by simp [hi]⟩, fun x H' y => ⟨y.1, by show x = (xs[i]?).getD .non; rw [y.2 xs (s.seq h)]; rfl⟩⟩, fun e => by subst e; exact ⟨xs, s.seq h, Nat.le_refl _⟩⟩
theorem small_line {n : Nat} (h : n ≤ 100000) : n < sizeLine := Nat.lt_of_le_of_lt h (by rw [sizeLine_eq]; decide)
section
variable {K : PySem.W.Frag} {J : It} {H1 : Hp} {te : TE} {cs : L2.St} {Q : VK} {n : Nat}
theorem comp1 {f : Nat → V} (hJ : Plain1 J H1 n f) (hn : n ≤ 100000) (R : Nat → V → Hp → Prop) (hR : ∀ i v H H', Tup H H' → R i v H → R i v H')
    (he : ∀ i H2 (k : VK), i < n → Same H1 H2 → (∀ v H3, Same H2 H3 → R i v H3 → k v H3) → te (some (f i) :: cs) H2 k)
    (hq : ∀ D ys H2, H1 D = none → Same H1 H2 → H2 D = some (.lst ys) → ys.length = n → (∀ i v, ys[i]? = some v → R i v H2) → Q (.ref D) H2) :
    CompGoal 1 J H1 (gName 0) te cs Q := by
  intro D hD
  refine ⟨fun i m ys H2 => m = n - i ∧ i ≤ n ∧ ys.length = i ∧ Same H1 H2 ∧ H2 D = some (.lst ys) ∧ ∀ j v, ys[j]? = some v → R j v H2, ⟨n, by simp, Nat.zero_le _, rfl, Same.new hD, upd_same, fun j v e => by simp at e⟩, ?_⟩
  rintro i m ys H2 ⟨rfl, hi, hl, s2, d2, r2⟩
  by_cases hlt : i < n
  · refine .inr ⟨((hJ H2 s2 i).1 hlt).1, fun x H' y own ho => ?_⟩
    obtain ⟨rfl, rfl⟩ := ((hJ H2 s2 i).1 hlt).2 x H' y
    cases own with
    | nil => cases ho
    | cons o1 r =>
      cases r with
      | cons _ _ => cases ho
      | nil =>
        refine ⟨⟨[some (f i)], rfl, rfl⟩, he i _ _ hlt s2 fun v H3 s3 r3 => ⟨s3 _ _ d2, small_line (by omega), n - (i + 1), by omega, rfl, hlt, by rw [List.length_append, hl]; rfl, fun b o e => ?_, upd_same, fun j w e => ?_⟩⟩
        · rw [upd_ne (ne_of_none e hD)]; exact s3 _ _ (s2 _ _ e)
        · have t3 : Tup H3 (upd H3 D (.lst (ys ++ [v]))) := Tup.lst (s3 _ _ d2)
          by_cases hj : j < ys.length
          · rw [List.getElem?_append_left hj] at e
            exact hR _ _ _ _ (s3.tup.trans t3) (r2 j w e)
          · rw [List.getElem?_append_right (by omega)] at e
            have hj0 : j - ys.length = 0 := by
              cases q : j - ys.length with
              | zero => rfl
              | succ k => rw [q] at e; simp at e
            rw [hj0] at e
            have e' : v = w := by simpa using e
            have hji : j = i := by omega
            rw [← e', hji]
            exact hR _ _ _ _ t3 r3
  · have e : i = n := by omega
    subst e
    exact .inl ⟨(hJ H2 s2 i).2 rfl, hq D ys H2 hD s2 d2 hl r2⟩
theorem comp2 {f g : Nat → V} (hJ : Plain2 K J H1 n f g) (hn : n ≤ 100000) (R : Nat → V → Hp → Prop) (hR : ∀ i v H H', Tup H H' → R i v H → R i v H')
    (he : ∀ i H2 (k : VK), i < n → Same H1 H2 → (∀ v H3, Same H2 H3 → R i v H3 → k v H3) → te (some (f i) :: some (g i) :: cs) H2 k)
    (hq : ∀ D ys H2, H1 D = none → Same H1 H2 → H2 D = some (.lst ys) → ys.length = n → (∀ i v, ys[i]? = some v → R i v H2) → Q (.ref D) H2) :
    CompGoal 2 J H1 (gTup K 2 (gCons (gName 0) (gCons (gName 1) gNil))) te cs Q := by
  intro D hD
  refine ⟨fun i m ys H2 => m = n - i ∧ i ≤ n ∧ ys.length = i ∧ Same H1 H2 ∧ H2 D = some (.lst ys) ∧ ∀ j v, ys[j]? = some v → R j v H2, ⟨n, by simp, Nat.zero_le _, rfl, Same.new hD, upd_same, fun j v e => by simp at e⟩, ?_⟩
  rintro i m ys H2 ⟨rfl, hi, hl, s2, d2, r2⟩
  by_cases hlt : i < n
  · refine .inr ⟨((hJ H2 s2 i).1 hlt).1, fun x H' y own ho => ?_⟩
    obtain ⟨s2', a, rfl, ht⟩ := ((hJ H2 s2 i).1 hlt).2 x H' y
    cases own with
    | nil => cases ho
    | cons o1 r =>
      cases r with
      | nil => cases ho
      | cons o2 r =>
        cases r with
        | cons _ _ => cases ho
        | nil =>
          refine ⟨a, _, rfl, ht, rfl, _, _, rfl, _, _, rfl, rfl, ⟨[some (f i), some (g i)], rfl, rfl⟩, he i _ _ hlt (s2.trans s2') fun v H3 s3 r3 => ⟨s3 _ _ (s2' _ _ d2), small_line (by omega), n - (i + 1), by omega, rfl, hlt, by rw [List.length_append, hl]; rfl, fun b o e => ?_, upd_same, fun j w e => ?_⟩⟩
          · rw [upd_ne (ne_of_none e hD)]; exact s3 _ _ (s2' _ _ (s2 _ _ e))
          · have t3 : Tup H3 (upd H3 D (.lst (ys ++ [v]))) := Tup.lst (s3 _ _ (s2' _ _ d2))
            by_cases hj : j < ys.length
            · rw [List.getElem?_append_left hj] at e
              exact hR _ _ _ _ ((s2'.trans s3).tup.trans t3) (r2 j w e)
            · rw [List.getElem?_append_right (by omega)] at e
              have hj0 : j - ys.length = 0 := by
                cases q : j - ys.length with
                | zero => rfl
                | succ k => rw [q] at e; simp at e
              rw [hj0] at e
              have e' : v = w := by simpa using e
              have hji : j = i := by omega
              rw [← e', hji]
              exact hR _ _ _ _ t3 r3
  · have e : i = n := by omega
    subst e
    exact .inl ⟨(hJ H2 s2 i).2 rfl, hq D ys H2 hD s2 d2 hl r2⟩
end
/-! ### rules that name K plainly (a comprehension's block hands on no context) -/
section
variable {X : Cx}
theorem ix_listK (K : PySem.W.Frag) (h : X.K = K := by rfl) : IxR X (rIxL K) := by subst h; exact ix_list
theorem ix_tupK (K : PySem.W.Frag) (h : X.K = K := by rfl) : IxR X (rIxT K) := by subst h; exact ix_tup
theorem sl_listK (K : PySem.W.Frag) (h : X.K = K := by rfl) : SlR X (rSlL K) := by subst h; exact sl_list
theorem op_eqDK (K : PySem.W.Frag) (hu : X.A.units + 64 < cLine) (h : X.K = K := by rfl) : OpR X (compareOp .Eq) (rEqD K) := by subst h; exact op_eqD hu
theorem op_neDK (K : PySem.W.Frag) (hu : X.A.units + 64 < cLine) (h : X.K = K := by rfl) : OpR X (compareOp .NotEq) (rNeD K) := by subst h; exact op_neD hu
theorem call_lenK (K : PySem.W.Frag) (h : X.K = K := by rfl) : CallR X (.builtin "len") (fun xs H Q => ∃ p ys, xs = [.ref p] ∧ (SqL K H p ys ∨ SqT K H p ys) ∧ Q (.int ys.length) H) := by subst h; exact call_len_seq
theorem call_isiK (K : PySem.W.Frag) (h : X.K = K := by rfl) : CallR X (.builtin "isinstance") (fun xs H Q => ∃ x T t b, xs = [x, .ty T] ∧ TyOf K H x t ∧ PySem.W.kitOne K t (.type T) = some b ∧ Q (.bl b) H) := by subst h; exact call_isi
theorem pg_tupK (K : PySem.W.Frag) {es : List Expr} {k : Nat} {t : TGs} {n : Nat} {pos : Pos} (hc : X.calm = true) (h : PGs X es t) (hK : X.K = K := by rfl)
    (hn : (assignEach es X.env).length = n := by rfl) (hst : (assignEach es X.env).findIdx? (·.1) = none := by rfl) : PG X (.Tuple es k pos) (gTup K n t) := by subst hK; exact pg_tup hc h hn hst
end
end Cv

namespace Cv
open PySem PySem.Spec PyProof.Rows L2
/-! ### reversed of a list, walked -/
noncomputable def Itv (K : PySem.W.Frag) (a : Addr) (n : Nat) : It :=
  ⟨fun i H => ∃ xs x, SqL K H a xs ∧ xs.length = n ∧ i < n ∧ xs[n - 1 - i]? = some x, fun i H x H' => H' = H ∧ ∀ xs, SqL K H a xs → xs[n - 1 - i]? = some x, fun i H => n = i⟩
section
variable {X : Cx} {tg : Expr}
noncomputable def iRev (K : PySem.W.Frag) (ta : TA) : TI := fun σ H R => ta σ H fun vs H1 => ∃ (a : Addr) (xs : List V), vs = [.ref a] ∧ SqL K H1 a xs ∧ R (Itv K a xs.length) H1
end
end Cv

namespace Cv
open PySem PySem.Spec PyProof.Rows L2
section
variable {prog : Program} {w : World} {A : Around} {E : Value → Shared → Prop} {s : Shared}
end
section
variable {X : Cx}
/-- list(reversed(e)) -/
noncomputable def tRevL (K : PySem.W.Frag) (ta : TA) : TE := fun σ H Q => ta σ H fun vs H1 => ∃ (a : Addr) (xs : List V), vs = [.ref a] ∧ SqL K H1 a xs ∧ ∀ l, H1 l = none → Q (.ref l) (upd H1 l (.lst xs.reverse))
/-- e[::-1], a list -/
noncomputable def tBack (K : PySem.W.Frag) (te : TE) (ts : TO) : TE := fun σ H Q => te σ H fun x H1 => ts σ H1 fun o H2 => o = some (-1) ∧ ∃ (a : Addr) (xs : List V), x = .ref a ∧ SqL K H2 a xs ∧ ∀ l, H2 l = none → Q (.ref l) (upd H2 l (.lst xs.reverse))
end
end Cv

namespace Cv
open PySem PySem.Spec PyProof.Rows L2
section
variable {X : Cx} {pins : List (Addr × Obj)} {σ : L2.St} {H : Hp} {s : Shared} {h' : Heap}
/-- untracked records of ours have turned, a new object is laid and tracked -/
theorem turnedLay {t' : Nat} {ch : List Addr} {a : Addr} {o : HO} (I : Inv X pins σ H s) (hf : ∀ b ∈ ch, FpOk X pins H b) (k : ∀ b o, b ∉ ch → s.heap.get? b = some o → h'.get? b = some o)
    (ha : s.heap.objs.size ≤ a) (new : ObjOk X.prog X.w (upd H a o) h' a o) : Inv X pins σ (upd H a o) { s with heap := h', toks := t' } := by
  have hna : H a = none := I.hok.fresh ha
  have nit : ∀ b u, H b = some u → b ∉ ch := fun b u e z => by rw [(hf b z).1] at e; cases e
  have up : ∀ b u, H b = some u → upd H a o b = some u := fun b u e => by rw [upd_ne (ne_of_none e hna)]; exact e
  refine I.step (g' := s.gens) (d' := s.drawn) (ch := ch) (fun b hb => ⟨(hf b hb).2.2.2.1, (hf b hb).2.1, (hf b hb).2.2.2.2.1, (hf b hb).2.2.2.2.2⟩) (fun b o _ _ hc e _ => k b o hc e) (fun b o _ _ hc e _ => ⟨o.slots, k b o hc e⟩) (fun b o _ e n => ?_)
    (fun b o hc e => ⟨o, k b o hc e⟩) (fun _ _ e => up _ _ e) (fun _ _ _ e => up _ _ e) (fun b ps e => ⟨#[], by rw [up _ _ e]; simp⟩) (fun m hm => ?_) (fun b u e => ?_) I.bare
  · rw [upd_ne (fun z => by rw [z] at e; exact absurd (Heap.lt_size e) (Nat.not_lt.mpr ha))]; exact n
  · obtain ⟨o, es, ep, ho, r⟩ := hm
    exact ⟨o, es, ep, k _ o (fun z => (hf _ z).2.1 rfl) ho, r⟩
  · by_cases hb : b = a
    · subst hb
      rw [upd_same] at e
      cases e
      exact new
    · rw [upd_ne hb] at e
      refine (I.hok b u e).stay (fun c v hc q => k c v ?_ q) (fun _ q => up _ _ q) fun _ _ q => up _ _ q
      rcases hc with z | z
      · rw [z]; exact nit b u e
      · exact nit c _ z
theorem turnedL {t' : Nat} {ch : List Addr} (I : Inv X pins σ H s) (hf : ∀ b ∈ ch, FpOk X pins H b) (k : ∀ b o, b ∉ ch → s.heap.get? b = some o → h'.get? b = some o) : Inv X pins σ H { s with heap := h', toks := t' } := by
  have nit : ∀ b u, H b = some u → b ∉ ch := fun b u e z => by rw [(hf b z).1] at e; cases e
  refine I.step (g' := s.gens) (d' := s.drawn) (ch := ch) (fun b hb => ⟨(hf b hb).2.2.2.1, (hf b hb).2.1, (hf b hb).2.2.2.2.1, (hf b hb).2.2.2.2.2⟩) (fun b o _ _ hc e _ => k b o hc e) (fun b o _ _ hc e _ => ⟨o.slots, k b o hc e⟩) (fun _ _ _ _ n => n)
    (fun b o hc e => ⟨o, k b o hc e⟩) (fun _ _ e => e) (fun _ _ _ e => e) (fun b ps e => ⟨#[], by rw [e]; simp⟩) (fun m hm => ?_) (fun b u e => ?_) I.bare
  · obtain ⟨o, es, ep, ho, r⟩ := hm
    exact ⟨o, es, ep, k _ o (fun z => (hf _ z).2.1 rfl) ho, r⟩
  · refine (I.hok b u e).stay (fun c v hc q => k c v ?_ q) (fun _ q => q) fun _ _ q => q
    rcases hc with z | z
    · rw [z]; exact nit b u e
    · exact nit c _ z
end
/-! ### zip of two lists, walked by pairs of names -/
noncomputable def Itz (K : PySem.W.Frag) (l1 l2 : Addr) : It :=
  ⟨fun i H => ∃ xs ys x y, SqL K H l1 xs ∧ SqL K H l2 ys ∧ xs[i]? = some x ∧ ys[i]? = some y,
   fun i H v H' => ∃ T a b, v = .ref T ∧ H T = none ∧ H' = upd H T (.tup [a, b]) ∧ (∀ xs, SqL K H l1 xs → xs[i]? = some a) ∧ ∀ ys, SqL K H l2 ys → ys[i]? = some b,
   fun i H => ∃ xs ys, SqL K H l1 xs ∧ SqL K H l2 ys ∧ (xs[i]? = none ∨ ys[i]? = none)⟩
theorem turn_zip {P : Program} {w : World} {K : PySem.W.Frag} {elts : List Expr} {k0 : Nat} {pos : Pos} {z TI TO i1 i2 l1 l2 : Addr} (D : ZipApart z TI TO i1 i2 l1 l2) : Turn P w K (.Tuple elts k0 pos) (Itz K l1 l2) [z, TI, TO, i1, i2] z
    (fun i h => IsZip h z TI TO .none ∧ IsPair h TI (.ref i1) (.ref i2) ∧ (∃ a b, IsPair h TO a b) ∧ h.IsListIter i1 l1 i ∧ h.IsListIter i2 l2 i) where
  mem := by simp
  obj := fun i h st b hb => by
    obtain ⟨hz, hTI, ⟨a, b', hTO⟩, ⟨o1, e1, c1, d1⟩, ⟨o2, e2, c2, d2⟩⟩ := st
    simp only [List.mem_cons, List.not_mem_nil, or_false] at hb
    rcases hb with rfl | rfl | rfl | rfl | rfl
    · exact ⟨_, hz, fun v q => by have q' : Data.fields _ = Data.cell v := q; cases q'⟩
    · exact ⟨_, hTI, fun v q => by have q' : Data.seq _ _ = Data.cell v := q; cases q'⟩
    · exact ⟨_, hTO, fun v q => by have q' : Data.seq _ _ = Data.cell v := q; cases q'⟩
    · exact ⟨_, e1, fun v q => by rw [d1] at q; cases q⟩
    · exact ⟨_, e2, fun v q => by rw [d2] at q; cases q⟩
  keep := fun i h h' st k => by
    obtain ⟨hz, hTI, ⟨a, b, hTO⟩, h1, h2⟩ := st
    exact ⟨k z (by simp) _ hz, k TI (by simp) _ hTI, ⟨a, b, k TO (by simp) _ hTO⟩, h1.at fun o e => k i1 (by simp) o e, h2.at fun o e => k i2 (by simp) o e⟩
  item := by
    intro X hP hw hK hc i pins s σ H E I hf st hg
    subst hP hw hK
    obtain ⟨xs, ys, x, y, hq1, hq2, hx, hy⟩ := hg
    obtain ⟨hz, hTI, ⟨a, b, hTO⟩, h1, h2⟩ := st
    obtain ⟨its1, rv1, p1, hz1⟩ := I.list hq1
    obtain ⟨its2, rv2, p2, hz2⟩ := I.list hq2
    obtain ⟨u1, hu1, ru1⟩ := rv1.get hx
    obtain ⟨u2, hu2, ru2⟩ := rv2.get hy
    refine wpAny_pyNext_zip_item D hz hTI hTO h1 h2 p1.isList p2.isList (x := u1) (y := u2) (by simpa using hu1) (by simpa using hu2) fun h' a1 a2 a3 a4 a5 a6 a7 => ?_
    refine ⟨_, rfl, wpAny_letOwnedTupleGo_zip a1 fun h'' b1 b2 => ?_⟩
    have hT : H s.heap.objs.size = none := I.hok.fresh (Nat.le_refl _)
    have neT : ∀ {c o}, s.heap.get? c = some o → c ≠ s.heap.objs.size := fun e => Nat.ne_of_lt (Heap.lt_size e)
    have kk : ∀ b o, b ∉ [z, TI, TO, i1, i2] → s.heap.get? b = some o → h''.get? b = some o := fun b o hb e => by
      simp only [List.mem_cons, List.not_mem_nil, or_false, not_or] at hb
      exact b2.extBut b o hb.1 (a7 b o hb.1 hb.2.2.1 hb.2.2.2.1 hb.2.2.2.2 e)
    have tT : h''.get? s.heap.objs.size = some { cls := .type "tuple", data := .seq #[u1, u2] } := b2.extBut _ _ (Ne.symm (neT hz)) a5
    have I1 := turnedLay (t' := s.toks) (a := s.heap.objs.size) (o := .tup [x, y]) (h' := h'') I hf kk (Nat.le_refl _) ⟨by show 2 ≤ sizeLine; decide, [u1, u2], .cons ru1 (.cons ru2 .nil), ⟨_, tT, rfl, _, rfl⟩⟩
    refine ⟨.ref s.heap.objs.size, _, I1, rfl, ⟨s.heap.objs.size, x, y, rfl, hT, rfl, fun xs' hx' => by rw [I.list_inj hx' hq1]; exact hx, fun ys' hy' => by rw [I.list_inj hy' hq2]; exact hy⟩, ?_, fun c hc => ?_⟩
    · exact ⟨b1, b2.extBut _ _ D.TIz (a7 _ _ D.TIz D.TITO D.TIi1 D.TIi2 hTI), ⟨_, _, b2.extBut _ _ D.TOz a2⟩, a3.extBut b2.extBut D.i1z, a4.extBut b2.extBut D.i2z⟩
    · have e0 := (hf c hc).1
      rw [upd_ne ?_]
      · exact e0
      · intro q
        obtain ⟨o1, e1, _⟩ := h1
        obtain ⟨o2, e2, _⟩ := h2
        simp only [List.mem_cons, List.not_mem_nil, or_false] at hc
        rcases hc with rfl | rfl | rfl | rfl | rfl
        · exact neT hz q
        · exact neT hTI q
        · exact neT hTO q
        · exact neT e1 q
        · exact neT e2 q
  done := by
    intro X hP hw hK hc i pins s σ H E I hf st hg
    subst hP hw hK
    obtain ⟨xs, ys, hq1, hq2, hend⟩ := hg
    obtain ⟨hz, hTI, ⟨a, b, hTO⟩, h1, h2⟩ := st
    obtain ⟨its1, rv1, p1, hz1⟩ := I.list hq1
    obtain ⟨its2, rv2, p2, hz2⟩ := I.list hq2
    refine wpAny_pyNext_zip_end (I.ok.hd hc) D hz hTI hTO h1 h2 p1.isList p2.isList (hend.imp (fun e => by simpa using rv1.none_of e) fun e => by simpa using rv2.none_of e) fun h' kk => ⟨rfl, turnedL (t' := s.toks) I hf fun b o hb e => ?_⟩
    simp only [List.mem_cons, List.not_mem_nil, or_false, not_or] at hb
    exact kk b o hb.1 hb.2.2.1 hb.2.2.2.1 hb.2.2.2.2 e
  self := fun _ _ _ _ _ st h => wpAny_pyIter_zip st.1 h
section
variable {X : Cx}
noncomputable def iZip (K : PySem.W.Frag) (ta : TA) : TI := fun σ H R => ta σ H fun vs H1 => ∃ l1 l2, vs = [.ref l1, .ref l2] ∧ (∃ xs, SqL K H1 l1 xs) ∧ (∃ ys, SqL K H1 l2 ys) ∧ R (Itz K l1 l2) H1
theorem pi_zip {a b : Expr} {ta : TA} {p pos ppos : Pos} {elts : List Expr} {k0 : Nat} (hg : Gl X "zip") (hm : X.mg "zip" = none) (ha : PA X [a, b] ta) (he : starEach [a, b] X.env = (false, eval a X.env) :: starEach [b] X.env := by rfl)
    (hpl : (backTo pos (starEach [b] X.env)).any (·.1) = false := by rfl) : PI X (.Tuple elts k0 ppos) (.Call (.Name "zip" p) [a, b] [] pos) (iZip X.K ta) := by
  intro pins s σ H R I h
  refine wpAny_Call_Name_kw (ld_blt I hg hm boot_zip ?_ (by decide) (by decide))
  refine PyProof.Rows.callWith_type1 (thn (ha pos pins s σ H _ I h) fun us s1 ⟨vs, H1, I1, r1, q1⟩ => ?_) he hpl
  obtain ⟨l1, l2, rfl, ⟨xs, hq1⟩, ⟨ys, hq2⟩, q⟩ := q1
  obtain ⟨u1, u2, rfl, e1, e2⟩ := vals_two r1
  cases e1; cases e2
  obtain ⟨its1, rv1, p1, hz1⟩ := I1.list hq1
  obtain ⟨its2, rv2, p2, hz2⟩ := I1.list hq2
  have a1 : l1 < s1.heap.objs.size := by obtain ⟨_, e, _⟩ := p1.isList; exact Heap.lt_size e
  have a2 : l2 < s1.heap.objs.size := by obtain ⟨_, e, _⟩ := p2.isList; exact Heap.lt_size e
  refine call_zip_2 p1.isList p2.isList fun h' hz hTI hTO hi1 hi2 _ hk => ?_
  refine wpAny_pyIter_zip hz ?_
  refine ⟨_, [s1.heap.objs.size + 4, s1.heap.objs.size + 2, s1.heap.objs.size + 3, s1.heap.objs.size, s1.heap.objs.size + 1], _, _, H1, rfl, I1.kept (t' := s1.toks) hk, turn_zip (zipApart_new a1 a2), ⟨hz, hTI, ⟨_, _, hTO⟩, hi1, hi2⟩, fun c hc => ?_, q⟩
  have hge : s1.heap.objs.size ≤ c := by
    simp only [List.mem_cons, List.not_mem_nil, or_false] at hc
    rcases hc with rfl | rfl | rfl | rfl | rfl <;> omega
  exact I1.fpOk hge (I1.hok.fresh hge)
theorem plain_zip {K : PySem.W.Frag} {l1 l2 : Addr} {xs ys : List V} {H1 : Hp} (h1 : SqL K H1 l1 xs) (h2 : SqL K H1 l2 ys) : Plain2 K (Itz K l1 l2) H1 (min xs.length ys.length) (fun i => (xs[i]?).getD .non) (fun i => (ys[i]?).getD .non) := fun H2 s i => by
  refine ⟨fun hi => ⟨⟨xs, ys, xs[i]'(by omega), ys[i]'(by omega), s.seq h1, s.seq h2, by simp [show i < xs.length by omega], by simp [show i < ys.length by omega]⟩, fun x H' y => ?_⟩, fun e => ⟨xs, ys, s.seq h1, s.seq h2, ?_⟩⟩
  · obtain ⟨T, a, b, rfl, hT, rfl, e1, e2⟩ := y
    refine ⟨Same.new hT, T, rfl, ?_⟩
    show SqT K _ T [(xs[i]?).getD .non, (ys[i]?).getD .non]
    rw [e1 xs (s.seq h1), e2 ys (s.seq h2)]
    exact SqT.of upd_same
  · rcases Nat.le_total xs.length ys.length with h | h
    · exact .inl (List.getElem?_eq_none (by omega))
    · exact .inr (List.getElem?_eq_none (by omega))
/-! ### all, any of a list of truths -/
end
end Cv

namespace Cv
open PySem PySem.Spec PyProof.Rows L2
/-! ### the end of a list while an exception is handled; any of a list of truths there -/
section
variable {prog : Program} {w : World} {A : Around} {E : Value → Shared → Prop} {s : Shared}
end
section
variable {X : Cx}
end
end Cv

namespace Cv
open PySem PySem.Spec PyProof.Rows L2
/-! ### promises of what is refused -/
noncomputable def spNumber : Sp := fun vs H Q _ => ∃ c p : Int, vs = [.int c, .int p] ∧ ∀ z H', Same H H' → Sz 100 z → Q (.int z) H'
noncomputable def spRefT : Sp := fun vs H Q _ => ∃ t : Int, vs = [.int t] ∧ ∀ H', Same H H' → Q (.bl true) H'
theorem st2 {l : L2.St} (h : l.length = 2) : ∃ a b, l = [a, b] := by
  match l, h with
  | [a, b], _ => exact ⟨a, b, rfl⟩
theorem st3 {l : L2.St} (h : l.length = 3) : ∃ a b c, l = [a, b, c] := by
  match l, h with
  | [a, b, c], _ => exact ⟨a, b, c, rfl⟩
theorem st4 {l : L2.St} (h : l.length = 4) : ∃ a b c d, l = [a, b, c, d] := by
  match l, h with
  | [a, b, c, d], _ => exact ⟨a, b, c, d, rfl⟩
/-! ### is, is not of two truths -/
section
variable {X : Cx}
end
end Cv
namespace Cv
open PySem PySem.Spec PyProof.Rows L2
/-! ### what goes on is read once -/
end Cv

namespace Cv
open PySem PySem.Spec PyProof.Rows L2
section
set_option autoImplicit true
@[irreducible] noncomputable def PEi (X : Cx) (e : Expr) (t : TE) : Prop := PE X e t
@[irreducible] noncomputable def PAi (X : Cx) (e : List Expr) (t : TA) : Prop := PA X e t
@[irreducible] noncomputable def PTi (X : Cx) (e : Expr) (t : TT) : Prop := PT X e t
@[irreducible] noncomputable def PWi (X : Cx) (e : Expr) (t : TT) : Prop := PW X e t
@[irreducible] noncomputable def PSi (X : Cx) (e : Stmt) (t : TS) : Prop := PS X e t
@[irreducible] noncomputable def PSsi (X : Cx) (e : List Stmt) (t : TS) : Prop := PSs X e t
@[irreducible] noncomputable def PGi (X : Cx) (e : Expr) (t : TG) : Prop := PG X e t
@[irreducible] noncomputable def PGsi (X : Cx) (e : List Expr) (t : TGs) : Prop := PGs X e t
@[irreducible] noncomputable def PIi (X : Cx) (tg e : Expr) (t : TI) : Prop := PI X tg e t
@[irreducible] noncomputable def POi (X : Cx) (e : Option Expr) (t : TO) : Prop := PO X e t
theorem pvI  (i : Nat) {x : Str} {pos : Pos} (hN : X.N[i]? = some x := by rfl) (hv : Vis X.env.scope x := by first | exact Or.inl rfl | exact Or.inr (Or.inl rfl) | exact Or.inr (Or.inr rfl)) (hd : (x == ("__debug__" : Str)) = false := by decide) (hcd : (x == ("__classdict__" : Str)) = false := by decide) : PEi X (.Name x pos) (tVar i) := by with_unfolding_all exact pv (i := i) (hN := hN) (hv := hv) (hd := hd) (hcd := hcd)
theorem pe_intI  {i j pos} : PEi X (.Constant (.int i) j pos) (tC (.int i)) := by with_unfolding_all exact pe_int 
theorem pe_blI  {b j pos} : PEi X (.Constant (.bool b) j pos) (tC (.bl b)) := by with_unfolding_all exact pe_bl 
theorem pe_bltnI  {x : Str} {v : V} {u : Value} {pos : Pos} (hg : Gl X x) (hm : X.mg x = none) (hv : bootBuiltins x = some u) (r : RelV v u) (hn : x ≠ "__name__" := by decide) (hd : (x == ("__debug__" : Str)) = false := by decide) : PEi X (.Name x pos) (tC v) := by with_unfolding_all exact pe_bltn (hg := hg) (hm := hm) (hv := hv) (r := r) (hn := hn) (hd := hd)
theorem pe_opI  {op : Operator} {r : R2} (ho : OpR X (binaryOp op) r) (ha : PEi X a ta) (hb : PEi X b tb) : PEi X (.BinOp a op b pos) (tOp r ta tb) := by with_unfolding_all exact pe_op (ho := ho) (ha := ha) (hb := hb)
theorem pe_unI  {op : UnaryOp} {r : V → Hp → VK → Prop} (ho : UnR X (unaryOp op) r) (ha : PEi X a ta) : PEi X (.UnaryOp op a pos) (tUn r ta) := by with_unfolding_all exact pe_un (ho := ho) (ha := ha)
theorem pe_cmpRI  {op : CmpOp} {r : R2} (ho : OpR X (compareOp op) r) (ha : PEi X a ta) (hb : PEi X b tb) (hm : behindInMarks op b = false) : PEi X (.Compare a [op] [b] pos) (tOp r ta tb) := by with_unfolding_all exact pe_cmpR (ho := ho) (ha := ha) (hb := hb) (hm := hm)
theorem pe_andI {rest : List Expr} (ha : PEi X a ta) (hb : PEi X (.BoolOp .And (b :: rest) pos) tb) : PEi X (.BoolOp .And (a :: b :: rest) pos) (tAndV ta tb) := by with_unfolding_all exact pe_and (ha := ha) (hb := hb)
theorem pe_oneI  {op} {t : TE} (h : PEi X a t) : PEi X (.BoolOp op [a] pos) t := by with_unfolding_all exact pe_one (h := h)
theorem pe_fnI  (D : DefOk X.prog X.w X.K X.mg X.base CX k x ps sp) (hr : Room j X.A) (hx : Passes CX X E) (ha : PAi X (e :: es) t) (hk : k ≤ j := by decide) (hg : Gl X x := by rfl) (hdb : (x == ("__debug__" : Str)) = false := by decide) (he : starEach (e :: es) X.env = (false, eval e X.env) :: starEach es X.env := by rfl) (hpl : (backTo pos (starEach es X.env)).any (·.1) = false := by rfl) : PEi X (.Call (.Name x p) (e :: es) [] pos) (tFn sp E t) := by with_unfolding_all exact pe_fn (D := D) (hr := hr) (hx := hx) (ha := ha) (hk := hk) (hg := hg) (hdb := hdb) (he := he) (hpl := hpl)
theorem pe_callBI {id : String} (hc : CallR X (.builtin id) r) (hg : Gl X x) (hm : X.mg x = none) (hv : bootBuiltins x = some (.builtin id)) (ha : PAi X (e :: es) t) (hn : x ≠ "__name__" := by decide) (hdb : (x == ("__debug__" : Str)) = false := by decide) (he : starEach (e :: es) X.env = (false, eval e X.env) :: starEach es X.env := by rfl) (hpl : (backTo pos (starEach es X.env)).any (·.1) = false := by rfl) : PEi X (.Call (.Name x p) (e :: es) [] pos) (tCB r t) := by with_unfolding_all exact pe_callB (hc := hc) (hg := hg) (hm := hm) (hv := hv) (ha := ha) (hn := hn) (hdb := hdb) (he := he) (hpl := hpl)
theorem pe_callTyI  (hc : CallR X (.type T) r) (hg : Gl X x) (hm : X.mg x = none) (hv : bootBuiltins x = some (.type T)) (ha : PAi X (e :: es) t) (hn : x ≠ "__name__" := by decide) (hdb : (x == ("__debug__" : Str)) = false := by decide) (he : starEach (e :: es) X.env = (false, eval e X.env) :: starEach es X.env := by rfl) (hpl : (backTo pos (starEach es X.env)).any (·.1) = false := by rfl) : PEi X (.Call (.Name x p) (e :: es) [] pos) (tCB r t) := by with_unfolding_all exact pe_callTy (hc := hc) (hg := hg) (hm := hm) (hv := hv) (ha := ha) (hn := hn) (hdb := hdb) (he := he) (hpl := hpl)
theorem pe_bmI {id : String} (pa : PlainAttrs T) (slot : Slot T name id) (hty : typeOf (.builtin id) = pure (.type "method_descriptor")) (hm : MtR X id r) (ho : PEi X o to) (ha : PAi X (e :: es) t) (hbase : attributeBase o name X.env (eval o X.env) = eval o X.env := by rfl) (hfew : ((backTo cpos (starEach (e :: es) X.env)).all (fun x => !x.1) && (backToKw cpos (keywordEach [] X.env)).all (fun x => x.1.isSome)
      && decide ((e :: es).length + ([] : List Keyword).length + (if ([] : List Keyword).isEmpty then 0 else 1) < 30)) = true := by rfl) (hline : (apos.endLine == cpos.line) = true := by rfl) (hs : starEach (e :: es) X.env = (false, eval e X.env) :: starEach es X.env := by rfl) (hplain : (backTo cpos (starEach es X.env)).any (·.1) = false := by rfl) : PEi X (.Call (.Attribute o name apos) (e :: es) [] cpos) (tBM X.K T r to t) := by with_unfolding_all exact pe_bm (pa := pa) (slot := slot) (hty := hty) (hm := hm) (ho := ho) (ha := ha) (hbase := hbase) (hfew := hfew) (hline := hline) (hs := hs) (hplain := hplain)
theorem pe_bm0I {id : String} (pa : PlainAttrs T) (slot : Slot T name id) (hty : typeOf (.builtin id) = pure (.type "method_descriptor")) (hm : MtR X id r) (ho : PEi X o to) (hbase : attributeBase o name X.env (eval o X.env) = eval o X.env := by rfl) (hline : (apos.endLine == cpos.line) = true := by rfl) : PEi X (.Call (.Attribute o name apos) [] [] cpos) (tBM0 X.K T r to) := by with_unfolding_all exact pe_bm0 (pa := pa) (slot := slot) (hty := hty) (hm := hm) (ho := ho) (hbase := hbase) (hline := hline)
theorem pe_ixI  {r : R2} (hr : IxR X r) (ha : PEi X a ta) (hb : PEi X b tb) (hs : PlainIx b) : PEi X (.Subscript a b pos) (tOp r ta tb) := by with_unfolding_all exact pe_ix (hr := hr) (ha := ha) (hb := hb) (hs := hs)
theorem pe_sliceI {lo hi : Option Expr} {r : V → Option Int → Option Int → Hp → VK → Prop} (hr : SlR X r) (he : PEi X e te) (hl : POi X lo tl) (hu : POi X hi th) : PEi X (.Subscript e (.Slice lo hi none p2) pos) (tSl r te tl th) := by with_unfolding_all exact pe_slice (hr := hr) (he := he) (hl := hl) (hu := hu)
theorem pe_tupI  {x1} (h : PAi X es t) : PEi X (.Tuple es x1 pos) (tTup t) := by with_unfolding_all exact pe_tup (h := h)
theorem pe_lstI  (h : PAi X es t) : PEi X (.List es pos) (tLst t) := by with_unfolding_all exact pe_lst (h := h)
theorem pe_compSI  {tg elt iter : Expr} {os : List Str} {pos : Pos} {scope : Scope} {wi : TI} {g : TG} {te : TE} {caps : List (Nat × Str)} (N : List Str) (sc : Scope) (hi : PIi X tg iter wi) (hg : ∀ cl C s0 H0 fp, PGi (cxComp X scope cl (os ++ caps.map (·.2)) C s0 H0 fp) tg g) (he : ∀ cl C s0 H0 fp, PEi (cxComp X scope cl (os ++ caps.map (·.2)) C s0 H0 fp) elt te) (ok : compOk N sc scope caps = true) (hN : X.N = N := by rfl) (hsc : X.env.scope = sc := by rfl) (hc : X.calm = true := by rfl) (hfs : ∀ v, foldedSetIterable iter X.env v = pure v := by intro _; rfl) : PEi X (.ListComp elt [⟨tg, iter, [], 0⟩] scope pos) (tCompG os.length wi g te (caps.map (·.1))) := by with_unfolding_all exact pe_compS (N := N) (sc := sc) (hi := hi) (hg := hg) (he := he) (ok := ok) (hN := hN) (hsc := hsc) (hc := hc) (hfs := hfs)
theorem pa_nilI   : PAi X [] tNil := by with_unfolding_all exact pa_nil 
theorem pa_consI  (ha : PEi X e te) (hr : PAi X es t) (hs : starEach (e :: es) X.env = (false, eval e X.env) :: starEach es X.env := by rfl) : PAi X (e :: es) (tCons te t) := by with_unfolding_all exact pa_cons (ha := ha) (hr := hr) (hs := hs)
theorem pt_cmpRI  {op : CmpOp} {r : R2} (ho : OpR X (compareOp op) r) (ha : PEi X a ta) (hb : PEi X b tb) (hm : behindInMarks op b = false) : PTi X (.Compare a [op] [b] pos) (tTest (tOp r ta tb)) := by with_unfolding_all exact pt_cmpR (ho := ho) (ha := ha) (hb := hb) (hm := hm)
theorem pt_notI  (ha : PTi X a tA) : PTi X (.UnaryOp .Not a pos) (tNot tA) := by with_unfolding_all exact pt_not (ha := ha)
theorem pt_valI  {e : Expr} {t : TE} (h : PEi X e t) (he : ∀ whole, isTrue e X.env whole = (do let v ← whole; standAt e.pos; holding [v] (truthy v)) := by intro _; rfl) : PTi X e (tB t) := by with_unfolding_all exact pt_val (h := h) (he := he)
theorem PW_ptI  {X : Cx} {e : Expr} {t : TT} (h : PWi X e t) : PTi X e t := by with_unfolding_all exact L2.PW.pt (h := h)
theorem pw_and1I  (ha : PTi X a tA) : PWi X (.BoolOp .And [a] pos) tA := by with_unfolding_all exact pw_and1 (ha := ha)
theorem pw_or1I  (ha : PTi X a tA) : PWi X (.BoolOp .Or [a] pos) tA := by with_unfolding_all exact pw_or1 (ha := ha)
theorem pw_andI {rest : List Expr} (ha : PTi X a tA) (hb : PWi X (.BoolOp .And (b :: rest) pos) tB') : PWi X (.BoolOp .And (a :: b :: rest) pos) (tAnd tA tB') := by with_unfolding_all exact pw_and (ha := ha) (hb := hb)
theorem pw_orI {rest : List Expr} (ha : PTi X a tA) (hb : PWi X (.BoolOp .Or (b :: rest) pos) tB') : PWi X (.BoolOp .Or (a :: b :: rest) pos) (tOr tA tB') := by with_unfolding_all exact pw_or (ha := ha) (hb := hb)
theorem pss_nilI   : PSsi X [] tNext := by with_unfolding_all exact pss_nil 
theorem pss_consI {st : Stmt} {rest : List Stmt} (h1 : PSi X st t) (h2 : PSsi X rest u) : PSsi X (st :: rest) (tSeq t u) := by with_unfolding_all exact pss_cons (h1 := h1) (h2 := h2)
theorem pss_oneI {st : Stmt} (h1 : PSi X st t) : PSsi X [st] t := by with_unfolding_all exact pss_one (h1 := h1)
theorem ps_exprI  (he : PEi X e te) (hs : swapsWith e none pos.line X.env = pure false := by rfl) : PSi X (.Expr e pos) (tDrop te) := by with_unfolding_all exact ps_expr (he := he) (hs := hs)
theorem ps_retI  (he : PEi X e te) : PSi X (.Return (some e) pos) (tRet te) := by with_unfolding_all exact ps_ret (he := he)
theorem ps_ifI  {c : Expr} {a b : List Stmt} {tc : TT} (hc : PTi X c tc) (ha : PSsi X a t) (hb : PSsi X b u) : PSi X (.If c a b pos) (tIfS tc t u) := by with_unfolding_all exact ps_if (hc := hc) (ha := ha) (hb := hb)
theorem ps_asgI  {tg e : Expr} {te : TE} {g : TG} (he : PEi X e te) (hg : PGi X tg g) (hs : swapsWithSole [tg] e pos.line X.env = pure false := by rfl) (hw : swappedStores [tg] e X.env = pure none := by rfl) (h1 : (assignEach [tg] X.env).map (·.2) = [assign tg X.env] := by rfl) : PSi X (.Assign [tg] e pos) (tAsg te g) := by with_unfolding_all exact ps_asg (he := he) (hg := hg) (hs := hs) (hw := hw) (h1 := h1)
theorem ps_setI  {i : Nat} {x : Str} {e : Expr} {te : TE} {pos' : Pos} (hN : X.N.Nodup) (hi : X.N[i]? = some x) (hx : Loc X.env.scope x) (he : PEi X e te) (hs : swapsWith e (some (.Name x pos')) pos.line X.env = pure false := by rfl) (hf : X.fn x = true ∨ X.env.scope.names.lookup x = some .local := by first | exact .inl rfl | exact .inr rfl | assumption) : PSi X (.Assign [.Name x pos'] e pos) (tAsg te (gName i)) := by with_unfolding_all exact ps_set (hN := hN) (hi := hi) (hx := hx) (he := he) (hs := hs) (hf := hf)
theorem ps_parI  {i j : Nat} {x y : Str} {a b : Expr} {ta : TA} {px py pt : Pos} {kt k2 pt2} (hc : X.calm = true) (hN : X.N.Nodup) (hi : X.N[i]? = some x) (hj : X.N[j]? = some y) (hij : i ≠ j) (hx : X.env.scope.names.lookup x = some .local) (hy : X.env.scope.names.lookup y = some .local) (ha : PAi X [a, b] ta) (hw : swappedStores [.Tuple [.Name x px, .Name y py] kt pt] (.Tuple [a, b] k2 pt2) X.env = pure (some [x, y])) (hs : swapsWithSole [.Tuple [.Name x px, .Name y py] kt pt] (.Tuple [a, b] k2 pt2) pos.line X.env = pure false := by rfl) : PSi X (.Assign [.Tuple [.Name x px, .Name y py] kt pt] (.Tuple [a, b] k2 pt2) pos) (tPar i j ta) := by with_unfolding_all exact ps_par (hc := hc) (hN := hN) (hi := hi) (hj := hj) (hij := hij) (hx := hx) (hy := hy) (ha := ha) (hw := hw) (hs := hs)
theorem ps_whileI  {c : Expr} {body : List Stmt} {tc : TT} {tb : TS} (hp : PassesOwn (model X.prog X.w) X.A X.env X.xe) (hc : PTi X c tc) (hb : PSsi X body tb) : PSi X (.While c body [] pos) (tWhile tc tb) := by with_unfolding_all exact ps_while (hp := hp) (hc := hc) (hb := hb)
theorem ps_forI  {iter : Expr} {body : List Stmt} {wi : TI} {g : TG} {tb : TS} {pos : Pos} (hp : PassesOwn (model X.prog X.w) X.A X.env X.xe) (hc : X.calm = true) (hi : PIi X tg iter wi) (hg : PGi X tg g) (hb : PSsi X body tb) (hs : ∀ x, foldedSetIterable iter X.env x = pure x := by intro _; rfl) : PSi X (.For tg iter body [] pos) (tFor wi g tb) := by with_unfolding_all exact ps_for (hp := hp) (hc := hc) (hi := hi) (hg := hg) (hb := hb) (hs := hs)
theorem ps_compSI  {tg elt iter : Expr} {os : List Str} {i : Nat} {y : Str} {py pos spos : Pos} {scope : Scope} {wi : TI} {g : TG} {te : TE} {caps : List (Nat × Str)} (N : List Str) (sc : Scope) (hNd : X.N.Nodup) (hy : X.N[i]? = some y) (hl : X.env.kindOf y = some .local) (hi : PIi X tg iter wi) (hg : ∀ cl C s0 H0 fp, PGi (cxComp X scope cl (os ++ caps.map (·.2)) C s0 H0 fp) tg g) (he : ∀ cl C s0 H0 fp, PEi (cxComp X scope cl (os ++ caps.map (·.2)) C s0 H0 fp) elt te) (ok : compOk N sc scope caps = true) (hN : X.N = N := by rfl) (hsc : X.env.scope = sc := by rfl) (hc : X.calm = true := by rfl) (hfs : ∀ v, foldedSetIterable iter X.env v = pure v := by intro _; rfl) (hsw : swapsWith (.ListComp elt [⟨tg, iter, [], 0⟩] scope pos) (some (.Name y py)) spos.line X.env = pure true := by rfl) : PSi X (.Assign [.Name y py] (.ListComp elt [⟨tg, iter, [], 0⟩] scope pos) spos) (tAsg (tCompG os.length wi g te (caps.map (·.1))) (gName i)) := by with_unfolding_all exact ps_compS (N := N) (sc := sc) (hNd := hNd) (hy := hy) (hl := hl) (hi := hi) (hg := hg) (he := he) (ok := ok) (hN := hN) (hsc := hsc) (hc := hc) (hfs := hfs) (hsw := hsw)
theorem pg_nameI  {i : Nat} {x : Str} (hN : X.N.Nodup) (hi : X.N[i]? = some x) (hx : Loc X.env.scope x) (hf : X.fn x = true ∨ X.env.scope.names.lookup x = some .local := by first | exact .inl rfl | exact .inr rfl | assumption) : PGi X (.Name x pos) (gName i) := by with_unfolding_all exact pg_name (hN := hN) (hi := hi) (hx := hx) (hf := hf)
theorem pgs_nilI   : PGsi X [] gNil := by with_unfolding_all exact pgs_nil 
theorem pgs_consI  {e : Expr} {es : List Expr} {t : TG} {u : TGs} (h1 : PGi X e t) (h2 : PGsi X es u) (hs : (assignEach (e :: es) X.env).map (·.2) = assign e X.env :: (assignEach es X.env).map (·.2) := by rfl) : PGsi X (e :: es) (gCons t u) := by with_unfolding_all exact pgs_cons (h1 := h1) (h2 := h2) (hs := hs)
theorem pg_tupKI  (K : PySem.W.Frag) {es : List Expr} {k : Nat} {t : TGs} {n : Nat} {pos : Pos} (hc : X.calm = true) (h : PGsi X es t) (hK : X.K = K := by rfl) (hn : (assignEach es X.env).length = n := by rfl) (hst : (assignEach es X.env).findIdx? (·.1) = none := by rfl) : PGi X (.Tuple es k pos) (gTup K n t) := by with_unfolding_all exact pg_tupK (K := K) (hc := hc) (h := h) (hK := hK) (hn := hn) (hst := hst)
theorem pi_listI  {l : Expr} {tl : TE} (hl : PEi X l tl) : PIi X tg l (iList X.K tl) := by with_unfolding_all exact pi_list (hl := hl)
theorem pi_tupI  {l : Expr} {tl : TE} (hl : PEi X l tl) : PIi X tg l (iTup X.K tl) := by with_unfolding_all exact pi_tup (hl := hl)
theorem pi_range1I  {a : Expr} {ta : TA} {p pos : Pos} (hg : Gl X "range") (hm : X.mg "range" = none) (ha : PAi X [a] ta) (hs : starEach [a] X.env = [(false, eval a X.env)] := by rfl) : PIi X tg (.Call (.Name "range" p) [a] [] pos) (iRng1 ta) := by with_unfolding_all exact pi_range1 (hg := hg) (hm := hm) (ha := ha) (hs := hs)
theorem pi_zipI  {a b : Expr} {ta : TA} {p pos ppos : Pos} {elts : List Expr} {k0 : Nat} (hg : Gl X "zip") (hm : X.mg "zip" = none) (ha : PAi X [a, b] ta) (he : starEach [a, b] X.env = (false, eval a X.env) :: starEach [b] X.env := by rfl) (hpl : (backTo pos (starEach [b] X.env)).any (·.1) = false := by rfl) : PIi X (.Tuple elts k0 ppos) (.Call (.Name "zip" p) [a, b] [] pos) (iZip X.K ta) := by with_unfolding_all exact pi_zip (hg := hg) (hm := hm) (ha := ha) (he := he) (hpl := hpl)
theorem po_noneI   : POi X none tNoPart := by with_unfolding_all exact po_none 
theorem po_someI  (h : PEi X e te) : POi X (some e) (tPart te) := by with_unfolding_all exact po_some (h := h)
theorem def_okI {P : Program} {w : World} {K : PySem.W.Frag} {mg : Str → Option Value} {base : Heap} {x : Str} {st : Stmt} {N ps : List Str} {k : Nat} {sp : Sp} (F : FunAt K mg x st ps) (S : FnScope N ps (defScope st)) (len : ∀ vs H Q E, sp vs H Q E → vs.length = ps.length) (hbody : ∀ (f : Addr) (cdv : Value) (A : Around) (outer : List Env) (s : Shared) (H : Hp) (vs : List V) (Q : VK) (E : XK), Room k (A.deeper (envOfC x (defScope st) s.heap.objs.size f cdv)) → sp vs H Q E →
      ∃ t, PSsi (cxOf CX0 P w K mg base N x (defScope st) f cdv A outer s H E).nox (defBody st) t ∧ t { nx := fun _ H' => Q .non H', rt := Q } (start N vs) H) : DefOk P w K mg base CX0 (k + 1) x ps sp := by with_unfolding_all exact def_ok (F := F) (S := S) (len := len) (hbody := hbody)
end
end Cv

namespace Cv
open PySem PySem.Spec PyProof.Rows L2
/-- a def's body read in two parts: the second one is hidden while the first one is read -/
theorem uln0 {α : Type} {P : List α → Prop} (h : P []) : ∀ us : List α, us.length = 0 → P us
  | [], _ => h
theorem ulnS {α : Type} {n : Nat} {P : List α → Prop} (h : ∀ a, ∀ us : List α, us.length = n → P (a :: us)) : ∀ us : List α, us.length = n + 1 → P us
  | [], e => nomatch e
  | a :: us, e => h a us (Nat.succ.inj e)
@[elab_as_elim] theorem uln1 {α : Type} {P : List α → Prop} (h : ∀ a, P [a]) (us : List α) (hl : us.length = 1) : P us := (ulnS fun a => uln0 (h a)) us hl
@[elab_as_elim] theorem uln2 {α : Type} {P : List α → Prop} (h : ∀ a b, P [a, b]) (us : List α) (hl : us.length = 2) : P us := (ulnS fun a => ulnS fun b => uln0 (h a b)) us hl
@[elab_as_elim] theorem uln3 {α : Type} {P : List α → Prop} (h : ∀ a b c, P [a, b, c]) (us : List α) (hl : us.length = 3) : P us := (ulnS fun a => ulnS fun b => ulnS fun c => uln0 (h a b c)) us hl
@[elab_as_elim] theorem uln4 {α : Type} {P : List α → Prop} (h : ∀ a b c d, P [a, b, c, d]) (us : List α) (hl : us.length = 4) : P us := (ulnS fun a => ulnS fun b => ulnS fun c => ulnS fun d => uln0 (h a b c d)) us hl
end Cv

namespace Cv
open PySem PySem.Spec PyProof.Rows L2
/-! ### points and steps -/
noncomputable def PtV (H : Hp) (v : V) (x y : Rat) : Prop := ∃ a vx vy, v = .ref a ∧ H a = some (.tup [vx, vy]) ∧ ShV H vx x ∧ ShV H vy y
theorem PtV.same {H H' : Hp} {v : V} {x y : Rat} (h : PtV H v x y) (e : Same H H') : PtV H' v x y := by
  obtain ⟨a, vx, vy, rfl, h, h1, h2⟩ := h
  exact ⟨a, vx, vy, rfl, e _ _ h, h1.same e, h2.same e⟩
noncomputable def spStep : Sp := fun vs H Q _ => ∃ u v a b c d, vs = [u, v] ∧ PtV H u a b ∧ PtV H v c d ∧ Bd 4000 a ∧ Bd 4000 b ∧ Bd 4000 c ∧ Bd 4000 d ∧ ∀ w H', Same H H' → PtV H' w (c - a) (d - b) → Q w H'
noncomputable def spCross : Sp := fun vs H Q _ => ∃ u v a b c d, vs = [u, v] ∧ PtV H u a b ∧ PtV H v c d ∧ Bd 4000 a ∧ Bd 4000 b ∧ Bd 4000 c ∧ Bd 4000 d ∧ Bd 4000 (a * d) ∧ Bd 4000 (b * c) ∧ ∀ w H', Same H H' → ShV H' w (a * d - b * c) → Q w H'
noncomputable def spDot : Sp := fun vs H Q _ => ∃ u v a b c d, vs = [u, v] ∧ PtV H u a b ∧ PtV H v c d ∧ Bd 4000 a ∧ Bd 4000 b ∧ Bd 4000 c ∧ Bd 4000 d ∧ Bd 4000 (a * c) ∧ Bd 4000 (b * d) ∧ ∀ w H', Same H H' → ShV H' w (a * c + b * d) → Q w H'
noncomputable def spOnWay : Sp := fun vs H Q _ => ∃ u v z a b c d t, vs = [u, v, z] ∧ PtV H u a b ∧ PtV H v c d ∧ ShV H z t ∧ (Bd 4000 a ∧ Bd 4000 b ∧ Bd 4000 c ∧ Bd 4000 d ∧ Bd 4000 t) ∧
  (Bd 4000 (c - a) ∧ Bd 4000 (d - b) ∧ Bd 4000 (t * (c - a)) ∧ Bd 4000 (t * (d - b))) ∧ ∀ w H', Same H H' → PtV H' w (a + t * (c - a)) (b + t * (d - b)) → Q w H'
end Cv
namespace Cv
open PySem PySem.Spec PyProof.Rows L2
/-! ### pairs that are not in lowest terms, as the law reckons them -/
noncomputable def RwV (H : Hp) (v : V) (t b : Int) : Prop := ∃ a, v = .ref a ∧ H a = some (.tup [.int t, .int b])
theorem RwV.same {H H' : Hp} {v : V} {t b : Int} (h : RwV H v t b) (e : Same H H') : RwV H' v t b := by
  obtain ⟨a, rfl, h⟩ := h
  exact ⟨a, rfl, e _ _ h⟩
theorem ShV.rw {H : Hp} {v : V} {q : Rat} (h : ShV H v q) : RwV H v q.num q.den := h
noncomputable def spLTimes : Sp := fun vs H Q _ => ∃ u v t1 b1 t2 b2, vs = [u, v] ∧ RwV H u t1 b1 ∧ RwV H v t2 b2 ∧ Sz 9000 t1 ∧ Sz 9000 b1 ∧ Sz 9000 t2 ∧ Sz 9000 b2 ∧ ∀ w H', Same H H' → RwV H' w (t1 * t2) (b1 * b2) → Q w H'
noncomputable def spLPlus : Sp := fun vs H Q _ => ∃ u v t1 b1 t2 b2 e, vs = [u, v, .int e] ∧ RwV H u t1 b1 ∧ RwV H v t2 b2 ∧ Sz 9000 t1 ∧ Sz 9000 b1 ∧ Sz 9000 t2 ∧ Sz 9000 b2 ∧ Sz 1 e ∧ ∀ w H', Same H H' → RwV H' w (t1 * b2 + e * t2 * b1) (b1 * b2) → Q w H'
noncomputable def spGoodD : Sp := fun vs H Q _ => ∃ x y q t b, vs = [x, y] ∧ ShV H x q ∧ RwV H y t b ∧ Bd 9000 q ∧ Sz 50000 t ∧ Sz 50000 b ∧ Q (.bl (decide (q.num * b = t * q.den))) H
noncomputable def spPairD : Sp := fun vs H Q _ => ∃ x y z p q t1 b1 t2 b2, vs = [x, y, z] ∧ PtV H x p q ∧ RwV H y t1 b1 ∧ RwV H z t2 b2 ∧ Bd 9000 p ∧ Bd 9000 q ∧ Sz 50000 t1 ∧ Sz 50000 b1 ∧ Sz 50000 t2 ∧ Sz 50000 b2 ∧
  p.num * b1 = t1 * p.den ∧ q.num * b2 = t2 * q.den ∧ Q (.bl true) H
end Cv

namespace Cv
open PySem PySem.Spec PyProof.Rows L2
theorem upd_keep {H : Hp} {p b : Addr} {o x : HO} (h : H p = none) (e : H b = some x) : upd H p o b = some x := by rw [upd_ne (ne_of_none e h)]; exact e
theorem Bd.zero' : Bd 1 (0 : Rat) := ⟨⟨by decide⟩, ⟨by decide⟩⟩
theorem Bd.one' : Bd 1 (1 : Rat) := ⟨⟨by decide⟩, ⟨by decide⟩⟩
theorem PtV.tup {H H' : Hp} {v : V} {x y : Rat} (h : PtV H v x y) (e : Tup H H') : PtV H' v x y := by
  obtain ⟨a, vx, vy, rfl, h, h1, h2⟩ := h
  exact ⟨a, vx, vy, rfl, e _ _ h, h1.tup e, h2.tup e⟩
theorem RwV.tup {H H' : Hp} {v : V} {x y : Int} (h : RwV H v x y) (e : Tup H H') : RwV H' v x y := by
  obtain ⟨a, rfl, h⟩ := h
  exact ⟨a, rfl, e _ _ h⟩
theorem SqL.same' {K : PySem.W.Frag} {H H' : Hp} {a : Addr} {xs : List V} (h : SqL K H a xs) (e : Same H H') : SqL K H' a xs := e.seq h
theorem SqT.same' {K : PySem.W.Frag} {H H' : Hp} {a : Addr} {xs : List V} (h : SqT K H a xs) (e : Same H H') : SqT K H' a xs := SqT.same e h
theorem at0 {α : Type} (x : α) (xs : List α) : atI (x :: xs) 0 = some x := atI_nat (j := 0) rfl
theorem at1 {α : Type} (x y : α) (xs : List α) : atI (x :: y :: xs) 1 = some y := atI_nat (j := 1) rfl
end Cv

namespace Cv
open PySem PySem.Spec PyProof.Rows L2
/-! ### pairs not in lowest terms, by what they are worth -/
noncomputable def RwQ (H : Hp) (v : V) (r : Rat) (n : Nat) : Prop := ∃ t b : Int, RwV H v t b ∧ 0 < b ∧ (t : Rat) = r * (b : Rat) ∧ Sz n t ∧ Sz n b
theorem RwQ.same {H H' : Hp} {v : V} {r : Rat} {n : Nat} (h : RwQ H v r n) (e : Same H H') : RwQ H' v r n := by
  obtain ⟨t, b, h1, h2⟩ := h
  exact ⟨t, b, h1.same e, h2⟩
theorem RwQ.tup {H H' : Hp} {v : V} {r : Rat} {n : Nat} (h : RwQ H v r n) (e : Tup H H') : RwQ H' v r n := by
  obtain ⟨t, b, h1, h2⟩ := h
  exact ⟨t, b, h1.tup e, h2⟩
noncomputable def spLTimesQ : Sp := fun vs H Q _ => ∃ u v r s n m, vs = [u, v] ∧ RwQ H u r n ∧ RwQ H v s m ∧ n ≤ 9000 ∧ m ≤ 9000 ∧ ∀ w H', Same H H' → RwQ H' w (r * s) (n + m) → Q w H'
noncomputable def spLPlusQ : Sp := fun vs H Q _ => ∃ u v r s n m e, vs = [u, v, .int e] ∧ RwQ H u r n ∧ RwQ H v s m ∧ n ≤ 9000 ∧ m ≤ 9000 ∧ Sz 1 e ∧ ∀ w H', Same H H' → RwQ H' w (r + e * s) (n + m + 2) → Q w H'
noncomputable def spGoodQ : Sp := fun vs H Q _ => ∃ x y q r n m, vs = [x, y] ∧ ShV H x q ∧ RwQ H y r n ∧ Bd m q ∧ n ≤ 9000 ∧ m ≤ 9000 ∧ Q (.bl (decide (q = r))) H
noncomputable def spPairQ : Sp := fun vs H Q _ => ∃ x y z p q n m l, vs = [x, y, z] ∧ PtV H x p q ∧ RwQ H y p n ∧ RwQ H z q m ∧ Bd l p ∧ Bd l q ∧ n ≤ 9000 ∧ m ≤ 9000 ∧ l ≤ 9000 ∧ Q (.bl true) H
theorem mulN {n m : Nat} {i j : Int} (h1 : Sz n i) (h2 : Sz m j) (h : n + m ≤ 100000000) : CMulA i j := mulB h1 h2 h
theorem RwQ.times {t1 b1 t2 b2 : Int} {r s : Rat} (e1 : (t1 : Rat) = r * (b1 : Rat)) (e2 : (t2 : Rat) = s * (b2 : Rat)) : ((t1 * t2 : Int) : Rat) = r * s * ((b1 * b2 : Int) : Rat) := by
  rw [Rat.intCast_mul, Rat.intCast_mul, e1, e2]; grind
end Cv

namespace Cv
/-! ### curves by rows, over Rat -/
noncomputable abbrev Pt := Rat × Rat
noncomputable def btw (t a b : Rat) : Rat := a + t * (b - a)
noncomputable def btwP (t : Rat) (p q : Pt) : Pt := (btw t p.1 q.1, btw t p.2 q.2)
noncomputable def nxP (t : Rat) (ps : List Pt) : List Pt := List.zipWith (btwP t) ps (ps.drop 1)
noncomputable def rowP (t : Rat) (ps : List Pt) : Nat → List Pt
  | 0 => ps
  | r + 1 => nxP t (rowP t ps r)
theorem nxP_len (t : Rat) (ps : List Pt) : (nxP t ps).length = ps.length - 1 := by
  unfold nxP
  rw [List.length_zipWith, List.length_drop]
  omega
theorem rowP_len (t : Rat) (ps : List Pt) : ∀ r, (rowP t ps r).length = ps.length - r
  | 0 => rfl
  | r + 1 => by
    show (nxP t (rowP t ps r)).length = _
    rw [nxP_len, rowP_len t ps r]
    omega
/-- the curve's point -/
noncomputable def ptP (t : Rat) (ps : List Pt) : Pt := ((rowP t ps (ps.length - 1))[0]?).getD (0, 0)
theorem ptP_get (t : Rat) (ps : List Pt) (h : 1 ≤ ps.length) : rowP t ps (ps.length - 1) = [ptP t ps] := by
  have hl := rowP_len t ps (ps.length - 1)
  have e : (rowP t ps (ps.length - 1)).length = 1 := by omega
  match hq : rowP t ps (ps.length - 1), e with
  | [x], _ => unfold ptP; rw [hq]; rfl
/-! ### sizes: tops over one bottom -/
noncomputable def Ov (D : Int) (n : Nat) (x : Rat) : Prop := ∃ m : Int, x * (D : Rat) = (m : Rat) ∧ Sz n m
theorem Ov.mono {D : Int} {n k : Nat} {x : Rat} (h : Ov D n x) (hk : n ≤ k) : Ov D k x := by
  obtain ⟨m, e, z⟩ := h
  exact ⟨m, e, z.mono hk⟩
theorem Ov.bd {D : Int} {n d : Nat} {x : Rat} (h : Ov D n x) (hD : D ≠ 0) (hd : Sz d D) : Bd (max n d) x := by
  obtain ⟨m, e, z⟩ := h
  rw [eq_divInt hD e]
  exact Bd.of z hd hD
theorem Ov.btw {D : Int} {n a : Nat} {x y t : Rat} (hx : Ov D n x) (hy : Ov D n y) (ht : Bd a t) : Ov (D * t.den) (n + a + 2) (btw t x y) := by
  obtain ⟨m1, e1, z1⟩ := hx
  obtain ⟨m2, e2, z2⟩ := hy
  refine ⟨((t.den : Int) - t.num) * m1 + t.num * m2, ?_, ?_⟩
  · have h3 := num_cast t
    simp only [Rat.intCast_add, Rat.intCast_mul, Rat.intCast_sub, Cv.btw]
    rw [← e1, ← e2, h3]
    grind
  · exact (((ht.den.sub ht.num).mul z1).add (ht.num.mul z2)).mono (by omega)
theorem Ov.add {D E : Int} {n m d e : Nat} {x y : Rat} (hx : Ov D n x) (hy : Ov E m y) (hd : Sz d D) (he : Sz e E) : Ov (D * E) (max (n + e) (m + d) + 1) (x + y) := by
  obtain ⟨m1, e1, z1⟩ := hx
  obtain ⟨m2, e2, z2⟩ := hy
  refine ⟨m1 * E + m2 * D, ?_, ?_⟩
  · simp only [Rat.intCast_add, Rat.intCast_mul]
    rw [← e1, ← e2]; grind
  · exact ((z1.mul he).add (z2.mul hd)).mono (by omega)
theorem Ov.mul {D E : Int} {n m : Nat} {x y : Rat} (hx : Ov D n x) (hy : Ov E m y) : Ov (D * E) (n + m) (x * y) := by
  obtain ⟨m1, e1, z1⟩ := hx
  obtain ⟨m2, e2, z2⟩ := hy
  refine ⟨m1 * m2, ?_, z1.mul z2⟩
  simp only [Rat.intCast_mul]
  rw [← e1, ← e2]; grind
theorem Bd.ov {n : Nat} {x : Rat} (h : Bd n x) : Ov x.den n x := ⟨x.num, (num_cast x).symm, h.num⟩
noncomputable def OvP (D : Int) (n : Nat) (p : Pt) : Prop := Ov D n p.1 ∧ Ov D n p.2
/-- all points of all rows are of a bounded size -/
noncomputable def Fit (ps : List Pt) (t : Rat) : Prop := ∀ r, r < ps.length → ∀ p ∈ rowP t ps r, Bd 2900 p.1 ∧ Bd 2900 p.2
theorem Fit.pt {ps : List Pt} {t : Rat} (h : Fit ps t) (hl : 1 ≤ ps.length) : Bd 2900 (ptP t ps).1 ∧ Bd 2900 (ptP t ps).2 :=
  h (ps.length - 1) (by omega) _ (by rw [ptP_get t ps hl]; simp)
end Cv

namespace Cv
open PySem PySem.Spec PyProof.Rows L2
/-! ### lists of points -/
structure PtsV (H : Hp) (vs : List V) (ps : List Pt) : Prop where
  len : vs.length = ps.length
  get : ∀ (i : Nat) v p, vs[i]? = some v → ps[i]? = some p → PtV H v p.1 p.2
theorem PtsV.tup {H H' : Hp} {vs : List V} {ps : List Pt} (h : PtsV H vs ps) (t : Tup H H') : PtsV H' vs ps := ⟨h.len, fun i v p e1 e2 => (h.get i v p e1 e2).tup t⟩
theorem PtsV.same {H H' : Hp} {vs : List V} {ps : List Pt} (h : PtsV H vs ps) (t : Same H H') : PtsV H' vs ps := h.tup t.tup
theorem PtsV.nil (H : Hp) : PtsV H [] [] := ⟨rfl, fun i v p e _ => by simp at e⟩
theorem PtsV.at {H : Hp} {vs : List V} {ps : List Pt} (h : PtsV H vs ps) {i : Nat} {p : Pt} (hp : ps[i]? = some p) : ∃ v, vs[i]? = some v ∧ PtV H v p.1 p.2 := by
  have hi : i < ps.length := (List.getElem?_eq_some_iff.mp hp).1
  have e : vs[i]? = some (vs[i]'(by rw [h.len]; exact hi)) := List.getElem?_eq_getElem _
  exact ⟨_, e, h.get i _ p e hp⟩
theorem PtsV.of {H : Hp} {vs : List V} {ps : List Pt} (hl : vs.length = ps.length) (h : ∀ (i : Nat) v p, vs[i]? = some v → ps[i]? = some p → PtV H v p.1 p.2) : PtsV H vs ps := ⟨hl, h⟩
noncomputable def datPt (p : Pt) : PySem.W.Dat := .tuple [datSh p.1, datSh p.2]
noncomputable def datPts (ps : List Pt) : PySem.W.Dat := .list (ps.map datPt)
theorem datPt_ok (p : Pt) (n : Nat) : PySem.W.kqdOk (n + 2) (datPt p) = true := by
  have h1 := datSh_ok p.1 n
  have h2 := datSh_ok p.2 n
  simp [datPt, PySem.W.kqdOk, h1, h2]
theorem datPts_ok (ps : List Pt) (n : Nat) : PySem.W.kqdOk (n + 3) (datPts ps) = true := by
  have h : ∀ p : Pt, PySem.W.kqdOk (n + 2) (datPt p) = true := fun p => datPt_ok p n
  simp [datPts, PySem.W.kqdOk, h]
theorem PtV.dn {K : PySem.W.Frag} {H : Hp} {v : V} {p : Pt} (h : PtV H v p.1 p.2) : Dn K H (datPt p) v := by
  obtain ⟨a, vx, vy, rfl, h, h1, h2⟩ := h
  unfold datPt
  simp only [Dn, DnAll]
  exact ⟨a, _, rfl, SqT.of h, _, _, rfl, h1.dn, _, _, rfl, h2.dn, rfl⟩
theorem dnAll_pts {K : PySem.W.Frag} {H : Hp} : ∀ {ps : List Pt} {vs : List V}, PtsV H vs ps → DnAll K H (ps.map datPt) vs
  | [], vs, h => by
    have : vs = [] := List.length_eq_zero_iff.mp h.len
    subst this
    simp [DnAll]
  | p :: ps, vs, h => by
    cases vs with
    | nil => have := h.len; simp at this
    | cons v vs =>
      simp only [List.map_cons, DnAll]
      exact ⟨v, vs, rfl, (h.get 0 v p rfl rfl).dn, dnAll_pts ⟨by have := h.len; simpa using this, fun i w q e1 e2 => h.get (i + 1) w q (by simpa using e1) (by simpa using e2)⟩⟩
theorem PtsV.dn {K : PySem.W.Frag} {H : Hp} {a : Addr} {vs : List V} {ps : List Pt} (h : PtsV H vs ps) (hs : SqL K H a vs) : Dn K H (datPts ps) (.ref a) := by
  unfold datPts
  simp only [Dn]
  exact ⟨a, vs, rfl, hs, dnAll_pts h⟩
/-! ### promises of the law's helpers -/
noncomputable def spStreamB : Sp := fun vs H Q _ => ∃ c : Int, ∃ n : Nat, vs = [.int c, .int (n : Int)] ∧ n ≤ 1000 ∧ ∀ (l : Addr) (xs : List Int) (H' : Hp), Same H H' → H' l = some (.lst (xs.map V.int)) → xs.length = n → (∀ x ∈ xs, 0 ≤ x) → Q (.ref l) H'
noncomputable def spLBtw : Sp := fun vs H Q _ => ∃ x y z p q t, vs = [x, y, z] ∧ ShV H x p ∧ ShV H y q ∧ ShV H z t ∧ Bd 2900 p ∧ Bd 2900 q ∧ Bd 2900 t ∧ ∀ v H', Same H H' → ShV H' v (btw t p q) → Q v H'
noncomputable def spLOnWay : Sp := fun vs H Q _ => ∃ x y z p q t, vs = [x, y, z] ∧ PtV H x p.1 p.2 ∧ PtV H y q.1 q.2 ∧ ShV H z t ∧ (Bd 2900 p.1 ∧ Bd 2900 p.2) ∧ (Bd 2900 q.1 ∧ Bd 2900 q.2) ∧ Bd 2900 t ∧ ∀ v H', Same H H' → PtV H' v (btwP t p q).1 (btwP t p q).2 → Q v H'
noncomputable def spLRows (K : PySem.W.Frag) : Sp := fun vs H Q _ => ∃ (a : Addr) (z : V) (ws : List V) (ps : List Pt) (t : Rat), vs = [.ref a, z] ∧ SqL K H a ws ∧ PtsV H ws ps ∧ ShV H z t ∧ Bd 2900 t ∧ Fit ps t ∧ 1 ≤ ps.length ∧ ps.length ≤ 12 ∧
  ∀ (l : Addr) (ls : List Addr) (H' : Hp), Same H H' → H l = none → H' l = some (.lst (ls.map V.ref)) → ls.length = ps.length → (∀ r b, ls[r]? = some b → H b = none ∧ ∃ us, H' b = some (.lst us) ∧ PtsV H' us (rowP t ps r)) → Q (.ref l) H'
noncomputable def spLPoint (K : PySem.W.Frag) : Sp := fun vs H Q _ => ∃ (a : Addr) (z : V) (ws : List V) (ps : List Pt) (t : Rat), vs = [.ref a, z] ∧ SqL K H a ws ∧ PtsV H ws ps ∧ ShV H z t ∧ Bd 2900 t ∧ Fit ps t ∧ 1 ≤ ps.length ∧ ps.length ≤ 12 ∧
  ∀ v H', Same H H' → PtV H' v (ptP t ps).1 (ptP t ps).2 → Q v H'
noncomputable def spLT : Sp := fun vs H Q _ => ∃ c : Int, vs = [.int c] ∧ ∀ v q H', Same H H' → ShV H' v q → Bd 101 q → Q v H'
noncomputable def spLCurve : Sp := fun vs H Q _ => ∃ c m : Int, vs = [.int c, .int m] ∧ ∀ (l : Addr) (ws : List V) (ps : List Pt) (B : Int) (H' : Hp), Same H H' → H l = none → H' l = some (.lst ws) → PtsV H' ws ps → 1 ≤ ps.length → ps.length ≤ 12 → 0 < B → Sz 31 B → (∀ p ∈ ps, OvP B 110 p) → Q (.ref l) H'
noncomputable def spLIsShare : Sp := fun vs H Q _ => ∃ x q, vs = [x] ∧ ShV H x q ∧ ∀ H', Same H H' → Q (.bl true) H'
noncomputable def spLIsCurve (K : PySem.W.Frag) : Sp := fun vs H Q _ => ∃ (a : Addr) (n : Int) (ws : List V) (ps : List Pt), vs = [.ref a, .int n] ∧ H a = some (.lst ws) ∧ PtsV H ws ps ∧ n = (ps.length : Int) ∧ ∀ H', Same H H' → Q (.bl true) H'
theorem atI_last' {α : Type} (xs : List α) (v : α) (h : xs[xs.length - 1]? = some v) (hl : 1 ≤ xs.length) : atI xs (-1) = some v := by
  rcases List.eq_nil_or_concat xs with rfl | ⟨ys, y, rfl⟩
  · simp at hl
  · have : (ys ++ [y])[ys.length]? = some v := by simpa using h
    have e : y = v := by simpa using this
    subst e
    have := atI_last ys y
    simpa using this
theorem atI_nat' {α : Type} {xs : List α} {j : Nat} {i : Int} {v : α} (e : i = (j : Int)) (h : xs[j]? = some v) : atI xs i = some v := by subst e; exact atI_nat h
end Cv

namespace Cv
open PySem PySem.Spec PyProof.Rows L2
theorem cut_from {α : Type} (f : α → V) (xs : List α) (k : Nat) (h : k ≤ xs.length) : cutV (xs.map f) (some (k : Int)) none = (xs.drop k).map f := by
  unfold cutV
  have e : HT.sIx (xs.map f).length 0 (some (k : Int)) = k := by
    have := HT.sIx_nat (xs.map f).length 0 k
    rw [List.length_map] at this
    rw [List.length_map]
    exact this.trans (by omega)
  rw [e, HT.sIx_none, ← List.map_drop]
  refine List.take_of_length_le ?_
  rw [List.length_map, List.length_drop, List.length_map]
  omega
theorem cut_fromI {α : Type} (f : α → V) (xs : List α) (k : Int) (n : Nat) (e : k = (n : Int)) (h : n ≤ xs.length) : cutV (xs.map f) (some k) none = (xs.drop n).map f := by subst e; exact cut_from f xs n h
theorem low_gcd {t b x : Int} (hx : 0 ≤ x) (e : Int.gcd x 0 = Int.gcd t b) : x = (Int.gcd t b : Int) := by
  rw [Int.gcd_zero] at e
  omega
theorem ov_divInt {B m : Int} {n : Nat} (hB : B ≠ 0) (h : Sz n m) : Ov B n (Rat.divInt m B) := by
  refine ⟨m, ?_, h⟩
  rw [Rat.divInt_eq_div]
  have hb' : (B : Rat) ≠ 0 := by
    intro z
    exact hB (by exact_mod_cast z)
  grind
/-- a list of lists of points -/
theorem getD_bnd {T : List Int} {lo hi : Int} (h : ∀ x ∈ T, lo ≤ x ∧ x ≤ hi) {j : Nat} (hj : j < T.length) : lo ≤ T.getD j 0 ∧ T.getD j 0 ≤ hi := by
  rw [List.getD_eq_getElem?_getD, List.getElem?_eq_getElem hj]
  exact h _ (List.getElem_mem hj)
/-- an item of a written table of numbers, and its bounds -/
theorem tab (T : List Int) (lo hi i : Int) (h : ∀ x ∈ T, lo ≤ x ∧ x ≤ hi) (h0 : 0 ≤ i) (h1 : i < (T.length : Int)) : ∃ v : Int, atI (T.map V.int) i = some (.int v) ∧ lo ≤ v ∧ v ≤ hi :=
  ⟨_, at_mapZ T i h0 h1, getD_bnd h (by omega)⟩
theorem sh_int (i : Int) : ((i : Rat).num = i) ∧ ((i : Rat).den = 1) := ⟨by simp, by simp⟩
theorem ShV.int {H : Hp} {a : Addr} {i : Int} (h : H a = some (.tup [.int i, .int 1])) : ShV H (.ref a) (i : Rat) := ⟨a, rfl, by rw [(sh_int i).1, (sh_int i).2]; exact h⟩
theorem p29 : (10 : Int) ^ (29 : Int).toNat = 100000000000000000000000000000 := by decide
theorem p9 : (10 : Int) ^ (9 : Int).toNat = 1000000000 := by decide
end Cv

namespace Cv
open PySem PySem.Spec PyProof.Rows L2
/-! ### maps -/
structure Mp where
  a : Rat
  b : Rat
  c : Rat
  d : Rat
  e : Rat
  f : Rat
noncomputable def stepP (m : Mp) (p : Pt) : Pt := (m.a * p.1 + m.b * p.2, m.c * p.1 + m.d * p.2)
noncomputable def ledP (m : Mp) (p : Pt) : Pt := (m.a * p.1 + m.b * p.2 + m.e, m.c * p.1 + m.d * p.2 + m.f)
structure MBd (n : Nat) (m : Mp) : Prop where
  a : Bd n m.a
  b : Bd n m.b
  c : Bd n m.c
  d : Bd n m.d
  e : Bd n m.e
  f : Bd n m.f
noncomputable def MpV (H : Hp) (v : V) (m : Mp) : Prop := ∃ x v0 v1 v2 v3 v4 v5, v = .ref x ∧ H x = some (.tup [v0, v1, v2, v3, v4, v5]) ∧ ShV H v0 m.a ∧ ShV H v1 m.b ∧ ShV H v2 m.c ∧ ShV H v3 m.d ∧ ShV H v4 m.e ∧ ShV H v5 m.f
theorem MpV.tup {H H' : Hp} {v : V} {m : Mp} (h : MpV H v m) (t : Tup H H') : MpV H' v m := by
  obtain ⟨x, v0, v1, v2, v3, v4, v5, rfl, h, h0, h1, h2, h3, h4, h5⟩ := h
  exact ⟨x, v0, v1, v2, v3, v4, v5, rfl, t _ _ h, h0.tup t, h1.tup t, h2.tup t, h3.tup t, h4.tup t, h5.tup t⟩
theorem MpV.same {H H' : Hp} {v : V} {m : Mp} (h : MpV H v m) (t : Same H H') : MpV H' v m := h.tup t.tup
noncomputable def spMapStep : Sp := fun vs H Q _ => ∃ x y m p, vs = [x, y] ∧ MpV H x m ∧ PtV H y p.1 p.2 ∧ MBd 103 m ∧ Bd 1500 p.1 ∧ Bd 1500 p.2 ∧ ∀ v H', Same H H' → PtV H' v (stepP m p).1 (stepP m p).2 → Q v H'
noncomputable def spMapPoint : Sp := fun vs H Q _ => ∃ x y m p, vs = [x, y] ∧ MpV H x m ∧ PtV H y p.1 p.2 ∧ MBd 103 m ∧ Bd 1500 p.1 ∧ Bd 1500 p.2 ∧ ∀ v H', Same H H' → PtV H' v (ledP m p).1 (ledP m p).2 → Q v H'
noncomputable def spMapped (K : PySem.W.Frag) : Sp := fun vs H Q _ => ∃ (a : Addr) (y : V) (ws : List V) (m : Mp) (ps : List Pt), vs = [.ref a, y] ∧ SqL K H a ws ∧ PtsV H ws ps ∧ MpV H y m ∧ MBd 103 m ∧ (∀ p ∈ ps, Bd 1500 p.1 ∧ Bd 1500 p.2) ∧ ps.length ≤ 1000 ∧
  ∀ (l : Addr) (us : List V) (H' : Hp), Same H H' → H l = none → H' l = some (.lst us) → PtsV H' us (ps.map (ledP m)) → Q (.ref l) H'
noncomputable def spLMap : Sp := fun vs H Q _ => ∃ c d : Int, vs = [.int c, .int d] ∧ ∀ v m H', Same H H' → MpV H' v m → MBd 103 m → Q v H'
/-! the mathematics -/
/-! shares in a list, each of a bounded size -/
noncomputable def ShsV (n : Nat) (H : Hp) (vs : List V) : Prop := ∀ (i : Nat) v, vs[i]? = some v → ∃ q, ShV H v q ∧ Bd n q
theorem ShsV.tup {n : Nat} {H H' : Hp} {vs : List V} (h : ShsV n H vs) (t : Tup H H') : ShsV n H' vs := fun i v e => let ⟨q, w, b⟩ := h i v e; ⟨q, w.tup t, b⟩
theorem ShsV.mono {n m : Nat} {H : Hp} {vs : List V} (h : ShsV n H vs) (hm : n ≤ m) : ShsV m H vs := fun i v e => let ⟨q, w, b⟩ := h i v e; ⟨q, w, b.mono hm⟩
theorem ShsV.set {n : Nat} {H : Hp} {vs : List V} {j : Nat} {x : V} {q : Rat} (h : ShsV n H vs) (hx : ShV H x q) (hq : Bd n q) : ShsV n H (vs.set j x) := fun i v e => by
  rw [List.getElem?_set] at e
  by_cases hij : j = i
  · rw [if_pos hij] at e
    by_cases hl : j < vs.length
    · rw [if_pos hl] at e
      cases e
      exact ⟨q, hx, hq⟩
    · rw [if_neg hl] at e; cases e
  · rw [if_neg hij] at e
    exact h i v e
theorem same_upd {H H' : Hp} {D : Addr} {o : HO} (h : H D = none) (s : Same H H') : Same H (upd H' D o) := fun b u e => by rw [upd_ne (ne_of_none e h)]; exact s b u e
theorem PtsV.one {H : Hp} {v : V} {p : Pt} (h : PtV H v p.1 p.2) : PtsV H [v] [p] := ⟨rfl, fun i w q e1 e2 => by
  cases i with
  | zero => simp at e1 e2; subst e1 e2; exact h
  | succ i => simp at e1⟩
theorem dnP {K : PySem.W.Frag} {H : Hp} {a : Addr} {vs : List V} {ps : List Pt} (hs : H a = some (.lst vs)) (h : PtsV H vs ps) : Dn K H (datPts ps) (.ref a) := h.dn (SqL.of hs)
end Cv

namespace Cv
/-! ### axes: tops over all the bottoms -/
noncomputable def prodI : List Int → Int
  | [] => 1
  | b :: r => b * prodI r
theorem prodI_append (xs ys : List Int) : prodI (xs ++ ys) = prodI xs * prodI ys := by
  induction xs with
  | nil => simp [prodI]
  | cons x r ih => simp only [List.cons_append, prodI, ih, Int.mul_assoc]
theorem prodI_snoc (xs : List Int) (y : Int) : prodI (xs ++ [y]) = prodI xs * y := by rw [prodI_append]; simp [prodI]
theorem prodI_pos {xs : List Int} (h : ∀ x ∈ xs, 0 < x) : 0 < prodI xs := by
  induction xs with
  | nil => decide
  | cons x r ih => exact Int.mul_pos (h x (.head _)) (ih fun y hy => h y (.tail _ hy))
noncomputable def axR (tops bs : List Int) : List Rat := tops.map fun x => Rat.divInt x (prodI bs)
noncomputable def nxR (t : Rat) (xs : List Rat) : List Rat := List.zipWith (btw t) xs (xs.drop 1)
/-- the tops of a narrowed axis -/
noncomputable def nxT (t : Rat) (tops : List Int) : List Int := List.zipWith (fun x y => ((t.den : Int) - t.num) * x + t.num * y) tops (tops.drop 1)
/-! ### lowest terms, bottom by bottom -/
theorem int_dvd {y x u : Int} (hc : Int.gcd y x = 1) (h : y ∣ x * u) : y ∣ u := by
  have h2 : y.natAbs ∣ x.natAbs * u.natAbs := by rw [← Int.natAbs_mul]; exact Int.natAbs_dvd_natAbs.mpr h
  exact Int.natAbs_dvd_natAbs.mp (Nat.Coprime.dvd_of_dvd_mul_left hc h2)
theorem gcd_parts (a b : Int) (hb : 0 < b) : ∃ g x y : Int, (Int.gcd a b : Int) = g ∧ 0 < g ∧ a = g * x ∧ b = g * y ∧ Int.gcd x y = 1 ∧ 0 < y ∧ a.fdiv g = x ∧ b.fdiv g = y := by
  have g0 : 0 < (Int.gcd a b : Int) := by
    have := Int.gcd_pos_of_ne_zero_right a (show b ≠ 0 by omega)
    omega
  obtain ⟨x, hx⟩ : (Int.gcd a b : Int) ∣ a := Int.gcd_dvd_left ..
  obtain ⟨y, hy⟩ : (Int.gcd a b : Int) ∣ b := Int.gcd_dvd_right ..
  have hc : Int.gcd x y = 1 := by
    have h1 : Int.gcd a b = Int.gcd ((Int.gcd a b : Int) * x) ((Int.gcd a b : Int) * y) := by rw [← hx, ← hy]
    rw [Int.gcd_mul_left, Int.natAbs_natCast] at h1
    have h2 : 0 < Int.gcd a b := by omega
    have h3 : Int.gcd a b * 1 = Int.gcd a b * Int.gcd x y := by rw [Nat.mul_one]; exact h1
    exact (Nat.eq_of_mul_eq_mul_left h2 h3).symm
  generalize (Int.gcd a b : Int) = g at g0 hx hy
  have hyp : 0 < y := by
    rw [hy] at hb
    rcases Int.lt_trichotomy y 0 with h | h | h
    · have := Int.mul_neg_of_pos_of_neg g0 h; omega
    · rw [h, Int.mul_zero] at hb; omega
    · exact h
  refine ⟨g, x, y, rfl, g0, hx, hy, hc, hyp, ?_, ?_⟩
  · rw [Int.fdiv_eq_ediv_of_nonneg _ (Int.le_of_lt g0), hx]
    exact Int.mul_ediv_cancel_left _ (by omega)
  · rw [Int.fdiv_eq_ediv_of_nonneg _ (Int.le_of_lt g0), hy]
    exact Int.mul_ediv_cancel_left _ (by omega)
theorem over_step {top below b : Int} (hb : 0 < b) (hbe : 0 < below) (hg : Int.gcd top below = 1) :
    Int.gcd (top.fdiv (Int.gcd top b)) (below * b.fdiv (Int.gcd top b)) = 1 ∧ 0 < below * b.fdiv (Int.gcd top b) ∧ top.fdiv (Int.gcd top b) * b = top * b.fdiv (Int.gcd top b) ∧ 0 < (Int.gcd top b : Int) ∧ (Int.gcd top b : Int) ∣ b := by
  obtain ⟨g, x, y, eg, g0, hx, hy, hc, hyp, ex, ey⟩ := gcd_parts top b hb
  rw [eg, ex, ey]
  refine ⟨?_, Int.mul_pos hbe hyp, ?_, g0, ⟨y, hy⟩⟩
  · have h1 : Int.gcd x below = 1 := by
      have d1 : ((Int.gcd x below : Nat) : Int) ∣ top := Int.dvd_trans (Int.gcd_dvd_left ..) ⟨g, by rw [hx]; exact Int.mul_comm ..⟩
      have d2 : ((Int.gcd x below : Nat) : Int) ∣ below := Int.gcd_dvd_right ..
      have d3 : Int.gcd x below ∣ Int.gcd top below := Nat.dvd_gcd (by simpa using Int.natAbs_dvd_natAbs.mpr d1) (by simpa using Int.natAbs_dvd_natAbs.mpr d2)
      rw [hg] at d3
      exact Nat.dvd_one.mp d3
    show Nat.gcd x.natAbs (below * y).natAbs = 1
    rw [Int.natAbs_mul]
    exact Nat.Coprime.mul_right (show Nat.Coprime x.natAbs below.natAbs from h1) (show Nat.Coprime x.natAbs y.natAbs from hc)
  · rw [hx, hy]; grind
theorem low_unique {top below P T : Int} (hb : 0 < below) (hP : 0 < P) (hg : Int.gcd top below = 1) (e : top * P = T * below) : (Rat.divInt T P).num = top ∧ ((Rat.divInt T P).den : Int) = below := by
  have hc : Nat.Coprime top.natAbs below.natAbs := hg
  have hc' : Nat.Coprime top.natAbs below.toNat := by
    have : below.toNat = below.natAbs := by omega
    rw [this]; exact hc
  have q : (⟨top, below.toNat, by omega, hc'⟩ : Rat) = Rat.divInt T P := by
    rw [Rat.mk_eq_divInt]
    have e2 : ((below.toNat : Nat) : Int) = below := by omega
    rw [e2]
    exact (Rat.divInt_eq_divInt_iff (by omega) (by omega)).mpr e
  rw [← q]
  exact ⟨rfl, by show ((below.toNat : Nat) : Int) = below; omega⟩
/-! ### a common bottom -/
theorem den_dvd {q : Rat} {D : Int} {n : Nat} (h : Ov D n q) : (q.den : Int) ∣ D := by
  obtain ⟨m, e, _⟩ := h
  have h1 := num_cast q
  have hd := den_cast_ne q
  have e2 : (q.num : Rat) * (D : Rat) = (m : Rat) * ((q.den : Int) : Rat) := by rw [h1, ← e]; grind
  have e3 : q.num * D = m * q.den := by exact_mod_cast e2
  have hr : Int.gcd q.den q.num = 1 := by rw [Int.gcd_comm]; exact q.reduced
  exact int_dvd hr ⟨m, by rw [e3]; exact Int.mul_comm ..⟩
theorem lcm_step {W d D : Int} (hd : 0 < d) (h1 : W ∣ D) (h2 : d ∣ D) : d ∣ W * d.fdiv (Int.gcd W d) ∧ W * d.fdiv (Int.gcd W d) ∣ D ∧ 0 < d.fdiv (Int.gcd W d) ∧ 0 < (Int.gcd W d : Int) ∧ (Int.gcd W d : Int) ∣ d := by
  obtain ⟨g, x, y, eg, g0, hx, hy, hc, hyp, ex, ey⟩ := gcd_parts W d hd
  rw [eg, ey]
  refine ⟨⟨x, by rw [hx, hy]; grind⟩, ?_, hyp, g0, ⟨y, hy⟩⟩
  obtain ⟨u, hu⟩ := h1
  obtain ⟨v, hv⟩ := h2
  have e : x * u = y * v := by
    have : g * (x * u) = g * (y * v) := by rw [← Int.mul_assoc, ← Int.mul_assoc, ← hx, ← hy, ← hu, hv]
    exact Int.eq_of_mul_eq_mul_left (by omega) this
  obtain ⟨w, hw⟩ := int_dvd (y := y) (x := x) (u := u) (by rw [Int.gcd_comm]; exact hc) ⟨v, e⟩
  exact ⟨w, by rw [hu, hw]; grind⟩
theorem sz_dvd {n : Nat} {x D : Int} (hD : D ≠ 0) (h : x ∣ D) (z : Sz n D) : Sz n x := z.le (Nat.le_of_dvd (by omega) (Int.natAbs_dvd_natAbs.mpr h))
end Cv

namespace Cv
open PySem PySem.Spec PyProof.Rows L2
/-! ### lists of shares, axes -/
structure ShL (H : Hp) (vs : List V) (qs : List Rat) : Prop where
  len : vs.length = qs.length
  get : ∀ (i : Nat) v q, vs[i]? = some v → qs[i]? = some q → ShV H v q
theorem ShL.tup {H H' : Hp} {vs : List V} {qs : List Rat} (h : ShL H vs qs) (t : Tup H H') : ShL H' vs qs := ⟨h.len, fun i v q e1 e2 => (h.get i v q e1 e2).tup t⟩
theorem ShL.same {H H' : Hp} {vs : List V} {qs : List Rat} (h : ShL H vs qs) (t : Same H H') : ShL H' vs qs := h.tup t.tup
theorem ShL.at {H : Hp} {vs : List V} {qs : List Rat} (h : ShL H vs qs) {i : Nat} {q : Rat} (hq : qs[i]? = some q) : ∃ v, vs[i]? = some v ∧ ShV H v q := by
  have hi : i < qs.length := (List.getElem?_eq_some_iff.mp hq).1
  have e : vs[i]? = some (vs[i]'(by rw [h.len]; exact hi)) := List.getElem?_eq_getElem _
  exact ⟨_, e, h.get i _ q e hq⟩
theorem ShL.atV {H : Hp} {vs : List V} {qs : List Rat} (h : ShL H vs qs) {i : Nat} {v : V} (hv : vs[i]? = some v) : ∃ q, qs[i]? = some q ∧ ShV H v q := by
  have hi : i < vs.length := (List.getElem?_eq_some_iff.mp hv).1
  have e : qs[i]? = some (qs[i]'(by rw [← h.len]; exact hi)) := List.getElem?_eq_getElem _
  exact ⟨_, e, h.get i v _ hv e⟩
theorem PtsV.atV {H : Hp} {vs : List V} {ps : List Pt} (h : PtsV H vs ps) {i : Nat} {v : V} (hv : vs[i]? = some v) : ∃ p, ps[i]? = some p ∧ PtV H v p.1 p.2 := by
  have hi : i < vs.length := (List.getElem?_eq_some_iff.mp hv).1
  have e : ps[i]? = some (ps[i]'(by rw [← h.len]; exact hi)) := List.getElem?_eq_getElem _
  exact ⟨_, e, h.get i v _ hv e⟩
noncomputable def AxV (H : Hp) (v : V) (n : Nat) (tops bs : List Int) : Prop := ∃ a lt lb, v = .ref a ∧ H a = some (.tup [.ref lt, .ref lb]) ∧ H lt = some (.lst (tops.map V.int)) ∧ H lb = some (.lst (bs.map V.int)) ∧ (∀ x ∈ tops, Sz n x) ∧ (∀ b ∈ bs, 0 < b ∧ Sz 9000 b) ∧ bs.length ≤ 100 ∧ tops.length ≤ 1000
theorem AxV.same {H H' : Hp} {v : V} {n : Nat} {tops bs : List Int} (h : AxV H v n tops bs) (s : Same H H') : AxV H' v n tops bs := by
  obtain ⟨a, lt, lb, e, h1, h2, h3, h4⟩ := h
  exact ⟨a, lt, lb, e, s _ _ h1, s _ _ h2, s _ _ h3, h4⟩
noncomputable def spCommon (K : PySem.W.Frag) : Sp := fun vs H Q _ => ∃ (a : Addr) (ws : List V) (qs : List Rat) (D : Int), vs = [.ref a] ∧ SqL K H a ws ∧ ShL H ws qs ∧ 0 < D ∧ Sz 9000 D ∧ (∀ q ∈ qs, (q.den : Int) ∣ D) ∧ qs.length ≤ 40 ∧
  ∀ (l : Addr) (bs : List Int) (H' : Hp), Same H H' → H' l = some (.lst (bs.map V.int)) → (∀ b ∈ bs, 0 < b ∧ Sz 9000 b) → (∀ q ∈ qs, (q.den : Int) ∣ prodI bs) → prodI bs ∣ D → bs.length ≤ qs.length → Q (.ref l) H'
noncomputable def spProduct (K : PySem.W.Frag) : Sp := fun vs H Q _ => ∃ (a : Addr) (bs : List Int), vs = [.ref a] ∧ SqL K H a (bs.map V.int) ∧ (∀ b ∈ bs, 0 < b ∧ Sz 9000 b) ∧ bs.length ≤ 100 ∧ Q (.int (prodI bs)) H
noncomputable def spAxis (K : PySem.W.Frag) : Sp := fun vs H Q _ => ∃ (a : Addr) (ws : List V) (qs : List Rat) (D : Int) (m : Nat), vs = [.ref a] ∧ SqL K H a ws ∧ ShL H ws qs ∧ 0 < D ∧ Sz 9000 D ∧ (∀ q ∈ qs, (q.den : Int) ∣ D ∧ Bd m q) ∧ m ≤ 9000 ∧ qs.length ≤ 40 ∧
  ∀ v tops bs H', Same H H' → AxV H' v (m + 9000) tops bs → axR tops bs = qs → bs.length ≤ qs.length → Q v H'
noncomputable def spAxes (K : PySem.W.Frag) : Sp := fun vs H Q _ => ∃ (a : Addr) (ws : List V) (ps : List Pt) (D : Int) (m : Nat), vs = [.ref a] ∧ SqL K H a ws ∧ PtsV H ws ps ∧ 0 < D ∧ Sz 9000 D ∧ (∀ p ∈ ps, ((p.1.den : Int) ∣ D ∧ Bd m p.1) ∧ (p.2.den : Int) ∣ D ∧ Bd m p.2) ∧ m ≤ 9000 ∧ ps.length ≤ 40 ∧
  ∀ c x y t1 b1 t2 b2 H', Same H H' → H' c = some (.tup [x, y]) → AxV H' x (m + 9000) t1 b1 → AxV H' y (m + 9000) t2 b2 → axR t1 b1 = ps.map (·.1) → axR t2 b2 = ps.map (·.2) → b1.length ≤ ps.length → b2.length ≤ ps.length → Q (.ref c) H'
noncomputable def spNarrowed : Sp := fun vs H Q _ => ∃ x z n tops bs t a, vs = [x, z] ∧ AxV H x n tops bs ∧ ShV H z t ∧ Bd a t ∧ a ≤ 9000 ∧ n ≤ 1000000 ∧ bs.length < 100 ∧
  ∀ v H', Same H H' → AxV H' v (n + a + 2) (nxT t tops) (bs ++ [(t.den : Int)]) → Q v H'
noncomputable def spOverAll (K : PySem.W.Frag) : Sp := fun vs H Q _ => ∃ (top : Int) (a : Addr) (bs : List Int), vs = [.int top, .ref a] ∧ SqL K H a (bs.map V.int) ∧ (∀ b ∈ bs, 0 < b ∧ Sz 9000 b) ∧ bs.length ≤ 100 ∧ ∀ v H', Same H H' → ShV H' v (Rat.divInt top (prodI bs)) → Q v H'
noncomputable def spPointsOf : Sp := fun vs H Q _ => ∃ x y n t1 b1 t2 b2, vs = [x, y] ∧ AxV H x n t1 b1 ∧ AxV H y n t2 b2 ∧ t1.length = t2.length ∧
  ∀ (l : Addr) (us : List V) (ps : List Pt) (H' : Hp), Same H H' → H l = none → H' l = some (.lst us) → PtsV H' us ps → ps.map (·.1) = axR t1 b1 → ps.map (·.2) = axR t2 b2 → Q (.ref l) H'
/-! the mathematics of the loops -/
theorem prod_sz {bs : List Int} (h : ∀ b ∈ bs, 0 < b ∧ Sz 9000 b) : Sz (9000 * bs.length + 1) (prodI bs) := by
  induction bs with
  | nil => exact ⟨by decide⟩
  | cons b r ih =>
    show Sz _ (b * prodI r)
    exact ((h b (.head _)).2.mul (ih fun c hc => h c (.tail _ hc))).mono (by rw [List.length_cons]; omega)
theorem top_of {q : Rat} {W : Int} (hW : 0 < W) (h : (q.den : Int) ∣ W) : Rat.divInt (q.num * W.fdiv q.den) W = q := by
  have hd : 0 < (q.den : Int) := by have := q.den_pos; omega
  obtain ⟨w, hw⟩ := h
  have e : W.fdiv q.den = w := by
    rw [Int.fdiv_eq_ediv_of_nonneg _ (Int.le_of_lt hd)]
    conv => lhs; rw [hw]
    exact Int.mul_ediv_cancel_left _ (by omega)
  rw [e]
  symm
  refine eq_divInt (by omega) ?_
  have h1 := num_cast q
  rw [hw]
  simp only [Rat.intCast_mul]
  rw [h1]; grind
theorem quo_sz {n : Nat} {W d : Int} (hW : 0 < W) (hd : 0 < d) (h : d ∣ W) (z : Sz n W) : Sz n (W.fdiv d) := by
  obtain ⟨w, hw⟩ := h
  have e : W.fdiv d = w := by
    rw [Int.fdiv_eq_ediv_of_nonneg _ (Int.le_of_lt hd)]
    conv => lhs; rw [hw]
    exact Int.mul_ediv_cancel_left _ (by omega)
  rw [e]
  exact sz_dvd (by omega) ⟨d, by rw [hw]; exact Int.mul_comm ..⟩ z
theorem ints_at {bs : List Int} {i : Nat} {x : V} (h : (bs.map V.int)[i]? = some x) : ∃ b, bs[i]? = some b ∧ x = .int b := by
  rw [List.getElem?_map] at h
  cases e : bs[i]? with
  | none => rw [e] at h; cases h
  | some b => rw [e] at h; cases h; exact ⟨b, rfl, rfl⟩
theorem take_snoc {α : Type} {bs : List α} {i : Nat} {b : α} (h : bs[i]? = some b) : bs.take (i + 1) = bs.take i ++ [b] := by rw [List.take_succ, h]; rfl
theorem axR_len (t b : List Int) : (axR t b).length = t.length := by unfold axR; rw [List.length_map]
theorem ints_of {α : Type} {ys : List V} {qs : List α} {f : α → Int} (hl : ys.length = qs.length) (h : ∀ (i : Nat) v, ys[i]? = some v → ∀ q, qs[i]? = some q → v = .int (f q)) : ys = (qs.map f).map V.int := by
  refine List.ext_getElem? fun i => ?_
  rw [List.getElem?_map, List.getElem?_map]
  cases e : ys[i]? with
  | none =>
    have : qs[i]? = none := List.getElem?_eq_none (by have := List.getElem?_eq_none_iff.mp e; omega)
    rw [this]; rfl
  | some v =>
    have hi : i < qs.length := by have := (List.getElem?_eq_some_iff.mp e).1; omega
    have e2 : qs[i]? = some qs[i] := List.getElem?_eq_getElem hi
    rw [h i v e _ e2, e2]; rfl
theorem axR_tops {qs : List Rat} {bs : List Int} (hb : 0 < prodI bs) (h : ∀ q ∈ qs, (q.den : Int) ∣ prodI bs) : axR (qs.map fun q => q.num * (prodI bs).fdiv q.den) bs = qs := by
  unfold axR
  rw [List.map_map]
  conv => rhs; rw [← List.map_id qs]
  refine List.map_congr_left fun q hq => ?_
  exact top_of hb (h q hq)
theorem ShL.map {H : Hp} {ys : List V} {ps : List Pt} {f : Pt → Rat} (hl : ys.length = ps.length) (h : ∀ (i : Nat) v, ys[i]? = some v → ∀ p, ps[i]? = some p → ShV H v (f p)) : ShL H ys (ps.map f) := by
  refine ⟨by rw [hl, List.length_map], fun i v q e1 e2 => ?_⟩
  rw [List.getElem?_map] at e2
  cases e3 : ps[i]? with
  | none => rw [e3] at e2; cases e2
  | some p => rw [e3] at e2; cases e2; exact h i v e1 p e3
theorem int_at {t : List Int} {i : Nat} {x : Int} (h : t[i]? = some x) : ((t.map V.int)[i]?).getD V.non = .int x := by rw [List.getElem?_map, h]; rfl
theorem pts_zip {H : Hp} {us : List V} {t1 b1 t2 b2 : List Int} (hl : us.length = t1.length) (h12 : t1.length = t2.length)
    (h : ∀ (i : Nat) v, us[i]? = some v → ∀ x y, t1[i]? = some x → t2[i]? = some y → PtV H v (Rat.divInt x (prodI b1)) (Rat.divInt y (prodI b2))) : ∃ ps : List Pt, PtsV H us ps ∧ ps.map (·.1) = axR t1 b1 ∧ ps.map (·.2) = axR t2 b2 := by
  refine ⟨(axR t1 b1).zip (axR t2 b2), ⟨?_, fun i v p e1 e2 => ?_⟩, ?_, ?_⟩
  · rw [List.length_zip, axR_len, axR_len, hl]; omega
  · rw [List.getElem?_zip_eq_some] at e2
    obtain ⟨a1, a2⟩ := e2
    unfold axR at a1 a2
    rw [List.getElem?_map] at a1 a2
    cases c1 : t1[i]? with
    | none => rw [c1] at a1; cases a1
    | some x =>
      cases c2 : t2[i]? with
      | none => rw [c2] at a2; cases a2
      | some y =>
        rw [c1] at a1; rw [c2] at a2
        have g1 : Rat.divInt x (prodI b1) = p.1 := by simpa using a1
        have g2 : Rat.divInt y (prodI b2) = p.2 := by simpa using a2
        rw [← g1, ← g2]
        exact h i v e1 x y c1 c2
  · exact List.map_fst_zip (by rw [axR_len, axR_len]; omega)
  · exact List.map_snd_zip (by rw [axR_len, axR_len]; omega)
end Cv

namespace Cv
open PySem PySem.Spec PyProof.Rows L2
/-! ### rows, polar points, cuts and stretches of the program -/
/-- a curve as the program takes it: its seats, a common bottom, sizes -/
structure Fine (ps : List Pt) (D : Int) (m : Nat) : Prop where
  pos : 0 < D
  sz : Sz 9000 D
  dv : ∀ p ∈ ps, ((p.1.den : Int) ∣ D ∧ Bd m p.1) ∧ (p.2.den : Int) ∣ D ∧ Bd m p.2
  m : m ≤ 9000
  l1 : 1 ≤ ps.length
  l2 : ps.length ≤ 12
noncomputable def rowsBy (ts : List Rat) (ps : List Pt) : List Pt := ts.foldl (fun r t => nxP t r) ps
noncomputable def polP (ts : List Rat) (ps : List Pt) : Pt := ((rowsBy ts ps)[0]?).getD (0, 0)
theorem AxV.lst {H : Hp} {v : V} {n : Nat} {tops bs : List Int} {l : Addr} {ls : List Addr} {o : HO} (h : AxV H v n tops bs) (hl : H l = some (.lst (ls.map V.ref))) (h1 : 1 ≤ ls.length) : AxV (upd H l o) v n tops bs := by
  obtain ⟨a, lt, lb, e, g1, g2, g3, g4⟩ := h
  have ne : ∀ (b : Addr) (xs : List Int), H b = some (.lst (xs.map V.int)) → b ≠ l := fun b xs e z => by
    rw [z, hl] at e
    have e' : ls.map V.ref = xs.map V.int := by simpa using e
    cases ls with
    | nil => simp at h1
    | cons x r =>
      cases xs with
      | nil => simp at e'
      | cons y s => simp at e'
  have na : a ≠ l := fun z => by rw [z, hl] at g1; cases g1
  exact ⟨a, lt, lb, e, by rw [upd_ne na]; exact g1, by rw [upd_ne (ne _ _ g2)]; exact g2, by rw [upd_ne (ne _ _ g3)]; exact g3, g4⟩
noncomputable def spRows (K : PySem.W.Frag) : Sp := fun vs H Q _ => ∃ (a : Addr) (z : V) (ws : List V) (ps : List Pt) (t : Rat) (D : Int) (m ta : Nat), vs = [.ref a, z] ∧ SqL K H a ws ∧ PtsV H ws ps ∧ ShV H z t ∧ Bd ta t ∧ ta ≤ 9000 ∧ Fine ps D m ∧
  ∀ (l : Addr) (ls : List Addr) (H' : Hp), Same H H' → H l = none → H' l = some (.lst (ls.map V.ref)) → ls.length = ps.length → ls.Nodup → l ∉ ls → (∀ r b, ls[r]? = some b → H b = none ∧ ∃ us, H' b = some (.lst us) ∧ PtsV H' us (rowP t ps r)) → Q (.ref l) H'
noncomputable def spPolar (K : PySem.W.Frag) : Sp := fun vs H Q _ => ∃ (a b : Addr) (ws zs : List V) (ps : List Pt) (ts : List Rat) (D : Int) (m ta : Nat), vs = [.ref a, .ref b] ∧ SqL K H a ws ∧ PtsV H ws ps ∧ SqL K H b zs ∧ ShL H zs ts ∧ (∀ t ∈ ts, Bd ta t) ∧ ta ≤ 9000 ∧ Fine ps D m ∧ ps.length = ts.length + 1 ∧
  ∀ v H', Same H H' → PtV H' v (polP ts ps).1 (polP ts ps).2 → Q v H'
noncomputable def strP (s t : Rat) (ps : List Pt) (k : Nat) : Pt := polP (List.replicate (ps.length - 1 - k) s ++ List.replicate k t) ps
noncomputable def spStretch (K : PySem.W.Frag) : Sp := fun vs H Q _ => ∃ (a : Addr) (x y : V) (ws : List V) (ps : List Pt) (s t : Rat) (D : Int) (m ta : Nat), vs = [.ref a, x, y] ∧ SqL K H a ws ∧ PtsV H ws ps ∧ ShV H x s ∧ ShV H y t ∧ Bd ta s ∧ Bd ta t ∧ ta ≤ 9000 ∧ Fine ps D m ∧
  ∀ (l : Addr) (us : List V) (H' : Hp), Same H H' → H l = none → H' l = some (.lst us) → PtsV H' us ((List.range ps.length).map (strP s t ps)) → Q (.ref l) H'
/-- the first points of the rows, the last points from the last row back -/
noncomputable def firstP (t : Rat) (ps : List Pt) : List Pt := (List.range ps.length).map fun r => ((rowP t ps r)[0]?).getD (0, 0)
noncomputable def lastP (t : Rat) (ps : List Pt) : List Pt := (List.range ps.length).map fun k => ((rowP t ps (ps.length - 1 - k))[k]?).getD (0, 0)
noncomputable def spCut (K : PySem.W.Frag) : Sp := fun vs H Q _ => ∃ (a : Addr) (z : V) (ws : List V) (ps : List Pt) (t : Rat) (D : Int) (m ta : Nat), vs = [.ref a, z] ∧ SqL K H a ws ∧ PtsV H ws ps ∧ ShV H z t ∧ Bd ta t ∧ ta ≤ 9000 ∧ Fine ps D m ∧
  ∀ (c l1 l2 : Addr) (us vs' : List V) (H' : Hp), Same H H' → H' c = some (.tup [.ref l1, .ref l2]) → H l1 = none → H l2 = none → l1 ≠ l2 → H' l1 = some (.lst us) → H' l2 = some (.lst vs') → PtsV H' us (firstP t ps) → PtsV H' vs' (lastP t ps) → Q (.ref c) H'
theorem flat_rep {α : Type} (n : Nat) (x : α) : (List.replicate n [x]).flatten = List.replicate n x := by
  induction n with
  | zero => rfl
  | succ n ih => rw [List.replicate_succ, List.flatten_cons, ih, List.replicate_succ]; rfl
theorem PtsV.range {H : Hp} {ys : List V} {n : Nat} {f : Nat → Pt} (hl : ys.length = n) (h : ∀ (i : Nat) v, ys[i]? = some v → PtV H v (f i).1 (f i).2) : PtsV H ys ((List.range n).map f) := by
  refine ⟨by rw [hl, List.length_map, List.length_range], fun i v p e1 e2 => ?_⟩
  have hi : i < n := by have := (List.getElem?_eq_some_iff.mp e1).1; omega
  rw [List.getElem?_map, List.getElem?_range hi] at e2
  cases e2
  exact h i v e1
noncomputable def datTwo (p q : List Pt) : PySem.W.Dat := .tuple [datPts p, datPts q]
end Cv

namespace Cv
open PySem PySem.Spec PyProof.Rows L2
/-! ### the order of the shares does not matter -/
/-! ### sizes -/
noncomputable def FitL (ts : List Rat) (ps : List Pt) : Prop := ∀ i, i ≤ ts.length → ∀ p ∈ rowsBy (ts.take i) ps, Bd 2900 p.1 ∧ Bd 2900 p.2
noncomputable def spLPolar (K : PySem.W.Frag) : Sp := fun vs H Q _ => ∃ (a b : Addr) (ws zs : List V) (ps : List Pt) (ts : List Rat), vs = [.ref a, .ref b] ∧ SqL K H a ws ∧ PtsV H ws ps ∧ SqL K H b zs ∧ ShL H zs ts ∧ (∀ t ∈ ts, Bd 2900 t) ∧ FitL ts ps ∧ ps.length = ts.length + 1 ∧ ps.length ≤ 12 ∧
  ∀ v H', Same H H' → PtV H' v (polP ts ps).1 (polP ts ps).2 → Q v H'
theorem PtsV.take {H : Hp} {ws : List V} {ps : List Pt} (h : PtsV H ws ps) (n : Nat) : PtsV H (ws.take n) (ps.take n) := by
  refine ⟨by rw [List.length_take, List.length_take, h.len], fun i v p e1 e2 => ?_⟩
  rw [List.getElem?_take] at e1 e2
  by_cases hi : i < n
  · rw [if_pos hi] at e1 e2; exact h.get i v p e1 e2
  · rw [if_neg hi] at e1; cases e1
end Cv

namespace Cv
/-! ### polar points share by share: each goes between as the share does -/
noncomputable def comb (u : Rat) (A B : List Pt) : List Pt := List.zipWith (btwP u) A B
/-! ### a stretch's rows -/
noncomputable def strL (s t : Rat) (ps : List Pt) : List Pt := (List.range ps.length).map (strP s t ps)
/-! ### at 0 and at 1 -/
end Cv

namespace Cv
/-! ### sizes of the halves -/
end Cv

namespace Cv
open PySem PySem.Spec PyProof.Rows L2
/-! ### curves the other way round, stretches of stretches -/
/-! ### the bottoms of a stretch's seats -/
theorem PtsV.reverse {H : Hp} {ws : List V} {ps : List Pt} (h : PtsV H ws ps) : PtsV H ws.reverse ps.reverse := by
  refine ⟨by rw [List.length_reverse, List.length_reverse, h.len], fun i v p e1 e2 => ?_⟩
  have hl := h.len
  have hi : i < ps.length := by have := (List.getElem?_eq_some_iff.mp e2).1; rw [List.length_reverse] at this; exact this
  rw [List.getElem?_reverse (by omega)] at e1
  rw [List.getElem?_reverse (by omega)] at e2
  rw [hl] at e1
  exact h.2 _ v p e1 e2
noncomputable def spTurned (K : PySem.W.Frag) : Sp := fun vs H Q _ => ∃ (a : Addr) (ws : List V), vs = [.ref a] ∧ SqL K H a ws ∧ ∀ l, H l = none → Q (.ref l) (upd H l (.lst ws.reverse))
end Cv

namespace Cv
open PySem PySem.Spec PyProof.Rows L2
/-! ### curves and shares drawn from the script's cells -/
section
variable {X : Cx}
end
noncomputable def spFree : Sp := fun vs H Q _ => ∃ c b : Int, vs = [.int c, .int b] ∧ 1 ≤ b ∧ b ≤ 1000000 ∧ ∀ v x y H', Same H H' → PtV H' v x y → OvP b 340 (x, y) → Q v H'
noncomputable def spSeat : Sp := fun vs H Q _ => ∃ c p b : Int, vs = [.int c, .int p, .int b] ∧ 1 ≤ b ∧ b ≤ 1000000 ∧ ∀ v x y H', Same H H' → PtV H' v x y → OvP b 340 (x, y) → Q v H'
noncomputable def spDCurve (K : PySem.W.Frag) : Sp := fun vs H Q _ => ∃ (a : Addr) (ns : List Int) (n h : Int), vs = [.ref a, .int n, .int h] ∧ SqL K H a (ns.map V.int) ∧ 0 ≤ n ∧
  ∀ (l : Addr) (ws : List V) (ps : List Pt) (B : Int) (H' : Hp), Same H H' → H l = none → H' l = some (.lst ws) → PtsV H' ws ps → 1 ≤ ps.length → ps.length ≤ 12 → 0 < B → Sz 20 B → (∀ p ∈ ps, OvP B 340 p) → Q (.ref l) H'
noncomputable def spDT : Sp := fun vs H Q _ => ∃ c p : Int, vs = [.int c, .int p] ∧ ∀ v q H', Same H H' → ShV H' v q → Bd 101 q → Q v H'
noncomputable def spIsPoint : Sp := fun vs H Q _ => ∃ x a b, vs = [x] ∧ PtV H x a b ∧ Q (.bl true) H
noncomputable def spBtwA : Sp := fun vs H Q _ => ∃ x y z w p q t, vs = [x, y, z, w] ∧ ShV H x (btw t p q) ∧ ShV H y p ∧ ShV H z q ∧ ShV H w t ∧ Bd 2900 (btw t p q) ∧ Bd 2900 p ∧ Bd 2900 q ∧ Bd 101 t ∧ Q (.bl true) H
noncomputable def spNext (K : PySem.W.Frag) : Sp := fun vs H Q _ => ∃ (a b : Addr) (w : V) (us ws : List V) (ps : List Pt) (t : Rat), vs = [.ref a, .ref b, w] ∧ H a = some (.lst us) ∧ PtsV H us (nxP t ps) ∧ H b = some (.lst ws) ∧ PtsV H ws ps ∧ ShV H w t ∧ Bd 101 t ∧ 1 ≤ ps.length ∧ ps.length ≤ 12 ∧
  (∀ p ∈ ps, Bd 2900 p.1 ∧ Bd 2900 p.2) ∧ (∀ p ∈ nxP t ps, Bd 2900 p.1 ∧ Bd 2900 p.2) ∧ ∀ H', Same H H' → Q (.bl true) H'
noncomputable def spPoint (K : PySem.W.Frag) : Sp := fun vs H Q _ => ∃ (a : Addr) (z : V) (ws : List V) (ps : List Pt) (t : Rat) (D : Int) (m ta : Nat), vs = [.ref a, z] ∧ SqL K H a ws ∧ PtsV H ws ps ∧ ShV H z t ∧ Bd ta t ∧ ta ≤ 9000 ∧ Fine ps D m ∧
  ∀ v H', Same H H' → PtV H' v (ptP t ps).1 (ptP t ps).2 → Q v H'
theorem ShL.nil (H : Hp) : ShL H [] [] := ⟨rfl, fun i v q e => by simp at e⟩
theorem PtsV.set {H : Hp} {ws : List V} {ps : List Pt} {v : V} {p : Pt} (h : PtsV H ws ps) (j : Nat) (hv : PtV H v p.1 p.2) : PtsV H (ws.set j v) (ps.set j p) := by
  refine ⟨by rw [List.length_set, List.length_set, h.len], fun i x q e1 e2 => ?_⟩
  have hl := h.len
  by_cases hi : i = j
  · subst hi
    have hi : i < ws.length := by have := (List.getElem?_eq_some_iff.mp e1).1; rw [List.length_set] at this; exact this
    rw [List.getElem?_set_self hi] at e1
    rw [List.getElem?_set_self (by omega)] at e2
    cases e1; cases e2; exact hv
  · rw [List.getElem?_set_ne (Ne.symm hi)] at e1 e2
    exact h.get i x q e1 e2
end Cv

namespace Cv
open PySem PySem.Spec PyProof.Rows L2
/-! ### how many ways, sums, powers -/
noncomputable def ch : Nat → Nat → Nat
  | _, 0 => 1
  | 0, _ + 1 => 0
  | n + 1, k + 1 => ch n k + ch n (k + 1)
noncomputable def pw (x : Rat) : Nat → Rat
  | 0 => 1
  | n + 1 => pw x n * x
noncomputable def sm (f : Nat → Rat) : Nat → Rat
  | 0 => 0
  | n + 1 => sm f n + f n
/-! ### the weighted sum -/
noncomputable def bn (x y : Rat) (r j : Nat) : Rat := ((ch r j : Int) : Rat) * pw x j * pw y (r - j)
noncomputable def dcj (t : Rat) (g : Nat → Rat) : Nat → Nat → Rat
  | 0, i => g i
  | r + 1, i => btw t (dcj t g r i) (dcj t g r (i + 1))
noncomputable def gX (ps : List Pt) (j : Nat) : Rat := ((ps[j]?).getD (0, 0)).1
noncomputable def gY (ps : List Pt) (j : Nat) : Rat := ((ps[j]?).getD (0, 0)).2
noncomputable def topI (n : Nat) (t : Rat) (k : Nat) : Int := (ch n k : Int) * t.num ^ k * ((t.den : Int) - t.num) ^ (n - k)
/-! ### a walk over pairs -/
/-! ### promises -/
noncomputable def spPw : Sp := fun vs H Q _ => ∃ (x : Int) (n : Nat), vs = [.int x, .int (n : Int)] ∧ n ≤ 12 ∧ Sz 300 x ∧ ∀ (l : Addr) (H' : Hp), Same H H' → H' l = some (.lst (((List.range (n + 1)).map (fun k => x ^ k)).map V.int)) → Q (.ref l) H'
noncomputable def spTops : Sp := fun vs H Q _ => ∃ (z : V) (n : Nat) (t : Rat), vs = [.int (n : Int), z] ∧ n ≤ 12 ∧ ShV H z t ∧ Bd 110 t ∧ ∀ (l : Addr) (H' : Hp), Same H H' → H' l = some (.lst (((List.range (n + 1)).map (topI n t)).map V.int)) → Q (.ref l) H'
noncomputable def spWPt (K : PySem.W.Frag) : Sp := fun vs H Q _ => ∃ (a : Addr) (z : V) (ws : List V) (ps : List Pt) (t : Rat), vs = [.ref a, z] ∧ SqL K H a ws ∧ PtsV H ws ps ∧ ShV H z t ∧ Bd 110 t ∧ 1 ≤ ps.length ∧ ps.length ≤ 12 ∧ (∀ p ∈ ps, Bd 340 p.1 ∧ Bd 340 p.2) ∧
  ∀ v H', Same H H' → PtV H' v (ptP t ps).1 (ptP t ps).2 → Q v H'
theorem range_snoc {α : Type} (f : Nat → α) (n : Nat) : (List.range (n + 1)).map f = (List.range n).map f ++ [f n] := by rw [List.range_succ, List.map_append]; rfl
end Cv

namespace Cv
open PySem PySem.Spec PyProof.Rows L2
section
variable {X : Cx}
end
/-! ### the weights -/
noncomputable def spI (x y : Int) (r j : Nat) : Int := (ch r j : Int) * x ^ j * y ^ (r - j)
noncomputable def wtL (n : Nat) (t : Rat) : List Rat := (List.range (n + 1)).map fun k => Rat.divInt (topI n t k) ((t.den : Int) ^ n)
noncomputable def spSpread : Sp := fun vs H Q _ => ∃ (n : Nat) (x y : Int), vs = [.int (n : Int), .int y, .int x] ∧ n ≤ 12 ∧ Sz 300 x ∧ Sz 300 y ∧ ∀ (l : Addr) (H' : Hp), Same H H' → H l = none → H' l = some (.lst (((List.range (n + 1)).map (spI x y n)).map V.int)) → Q (.ref l) H'
noncomputable def spWeights : Sp := fun vs H Q _ => ∃ (z : V) (n : Nat) (t : Rat), vs = [.int (n : Int), z] ∧ n ≤ 12 ∧ ShV H z t ∧ Bd 110 t ∧ ∀ (l : Addr) (us : List V) (H' : Hp), Same H H' → H l = none → H' l = some (.lst us) → ShL H' us (wtL n t) → Q (.ref l) H'
noncomputable def spWGood : Sp := fun vs H Q _ => ∃ (a : Addr) (z : V) (us : List V) (n : Nat) (t : Rat), vs = [.ref a, .int (n : Int), z] ∧ H a = some (.lst us) ∧ ShL H us (wtL n t) ∧ n ≤ 12 ∧ ShV H z t ∧ Bd 110 t ∧ ∀ H', Same H H' → Q (.bl true) H'
noncomputable def spL (x y : Int) (r : Nat) : List V := ((List.range (r + 1)).map (spI x y r)).map V.int
noncomputable def muL (n : Nat) (σ : L2.St) (H : Hp) : Nat := match (show List (Option V) from σ)[3]? with
  | some (some (V.ref l)) => (match H l with | some (.lst xs) => n + 1 - xs.length | _ => 0)
  | _ => 0
end Cv

namespace Cv
open PySem PySem.Spec PyProof.Rows L2
/-! ### enumerate of a list -/
noncomputable def Ite (K : PySem.W.Frag) (l : Addr) : It :=
  ⟨fun i H => ∃ xs x, SqL K H l xs ∧ xs[i]? = some x,
   fun i H v H' => ∃ T a, v = .ref T ∧ H T = none ∧ H' = upd H T (.tup [.int (i : Int), a]) ∧ ∀ xs, SqL K H l xs → xs[i]? = some a,
   fun i H => ∃ xs, SqL K H l xs ∧ xs[i]? = none⟩
section
variable {X : Cx}
noncomputable def iEnum (K : PySem.W.Frag) (ta : TA) : TI := fun σ H R => ta σ H fun vs H1 => ∃ l, vs = [.ref l] ∧ (∃ xs, SqL K H1 l xs) ∧ R (Ite K l) H1
end
/-! ### least and greatest of a list of whole numbers -/
section
variable {X : Cx}
end
end Cv

namespace Cv
open PySem PySem.Spec PyProof.Rows L2
/-! ### tuples that never change: ours, or the module's -/
noncomputable def TK (K : PySem.W.Frag) (H : Hp) (a : Addr) (xs : List V) : Prop := H a = some (.tup xs) ∨ ∃ (o : Obj) (its : Array Value) (n : Nat), K.lookup a = some o ∧ o.cls = .type "tuple" ∧ o.data = .seq its n ∧ its.size ≤ sizeLine ∧ Vals xs its.toList
theorem TK.of {K : PySem.W.Frag} {H : Hp} {a : Addr} {xs : List V} (h : H a = some (.tup xs)) : TK K H a xs := .inl h
theorem TK.sq {K : PySem.W.Frag} {H : Hp} {a : Addr} {xs : List V} (h : TK K H a xs) : SqT K H a xs := by
  rcases h with h | h
  · exact SqT.of h
  · exact .inr h
theorem TK.tup {K : PySem.W.Frag} {H H' : Hp} {a : Addr} {xs : List V} (h : TK K H a xs) (t : Tup H H') : TK K H' a xs := by
  rcases h with h | h
  · exact .inl (t _ _ h)
  · exact .inr h
theorem TK.same {K : PySem.W.Frag} {H H' : Hp} {a : Addr} {xs : List V} (h : TK K H a xs) (t : Same H H') : TK K H' a xs := h.tup t.tup
theorem TK.same' {K : PySem.W.Frag} {H H' : Hp} {a : Addr} {xs : List V} (t : Same H H') (h : TK K H a xs) : TK K H' a xs := h.tup t.tup
structure ShK (K : PySem.W.Frag) (H : Hp) (v : V) (q : Rat) : Prop where
  ex : ∃ a, v = .ref a ∧ TK K H a [.int q.num, .int (q.den : Int)]
structure PtK (K : PySem.W.Frag) (H : Hp) (v : V) (x y : Rat) : Prop where
  ex : ∃ a vx vy, v = .ref a ∧ TK K H a [vx, vy] ∧ ShK K H vx x ∧ ShK K H vy y
structure PtsK (K : PySem.W.Frag) (H : Hp) (vs : List V) (ps : List Pt) : Prop where
  len : vs.length = ps.length
  get : ∀ (i : Nat) v p, vs[i]? = some v → ps[i]? = some p → PtK K H v p.1 p.2
section
variable {K : PySem.W.Frag} {H H' : Hp} {v : V} {q x y : Rat} {vs : List V} {ps : List Pt}
theorem ShK.tup (h : ShK K H v q) (t : Tup H H') : ShK K H' v q := by obtain ⟨a, rfl, h⟩ := h; exact ⟨a, rfl, h.tup t⟩
theorem ShK.same (h : ShK K H v q) (t : Same H H') : ShK K H' v q := h.tup t.tup
theorem ShV.k (h : ShV H v q) : ShK K H v q := by obtain ⟨a, rfl, h⟩ := h; exact ⟨a, rfl, .inl h⟩
theorem PtK.tup (h : PtK K H v x y) (t : Tup H H') : PtK K H' v x y := by obtain ⟨a, vx, vy, rfl, h, h1, h2⟩ := h; exact ⟨a, vx, vy, rfl, h.tup t, h1.tup t, h2.tup t⟩
theorem PtK.same (h : PtK K H v x y) (t : Same H H') : PtK K H' v x y := h.tup t.tup
theorem PtV.k (h : PtV H v x y) : PtK K H v x y := by obtain ⟨a, vx, vy, rfl, h, h1, h2⟩ := h; exact ⟨a, vx, vy, rfl, .inl h, h1.k, h2.k⟩
theorem PtsK.tup (h : PtsK K H vs ps) (t : Tup H H') : PtsK K H' vs ps := ⟨h.len, fun i v p e1 e2 => (h.get i v p e1 e2).tup t⟩
theorem PtsK.same (h : PtsK K H vs ps) (t : Same H H') : PtsK K H' vs ps := h.tup t.tup
theorem PtsV.k (h : PtsV H vs ps) : PtsK K H vs ps := ⟨h.len, fun i v p e1 e2 => (h.get i v p e1 e2).k⟩
theorem PtsK.nil (K : PySem.W.Frag) (H : Hp) : PtsK K H [] [] := ⟨rfl, fun i v p e _ => by simp at e⟩
theorem PtsK.at (h : PtsK K H vs ps) {i : Nat} {p : Pt} (hp : ps[i]? = some p) : ∃ v, vs[i]? = some v ∧ PtK K H v p.1 p.2 := by
  have hi : i < ps.length := (List.getElem?_eq_some_iff.mp hp).1
  have e : vs[i]? = some (vs[i]'(by rw [h.len]; exact hi)) := List.getElem?_eq_getElem _
  exact ⟨_, e, h.get i _ p e hp⟩
theorem PtsK.atV (h : PtsK K H vs ps) {i : Nat} {v : V} (hv : vs[i]? = some v) : ∃ p, ps[i]? = some p ∧ PtK K H v p.1 p.2 := by
  have hi : i < vs.length := (List.getElem?_eq_some_iff.mp hv).1
  have e : ps[i]? = some (ps[i]'(by rw [← h.len]; exact hi)) := List.getElem?_eq_getElem _
  exact ⟨_, e, h.get i v _ hv e⟩
theorem PtsK.range {n : Nat} {f : Nat → Pt} (hl : vs.length = n) (h : ∀ (i : Nat) v, vs[i]? = some v → PtK K H v (f i).1 (f i).2) : PtsK K H vs ((List.range n).map f) := by
  refine ⟨by rw [hl, List.length_map, List.length_range], fun i v p e1 e2 => ?_⟩
  have hi : i < n := by have := (List.getElem?_eq_some_iff.mp e1).1; omega
  rw [List.getElem?_map, List.getElem?_range hi] at e2
  cases e2
  exact h i v e1
theorem ShK.dn (h : ShK K H v q) : Dn K H (datSh q) v := by
  obtain ⟨a, rfl, h⟩ := h
  unfold datSh
  simp only [Dn, DnAll]
  exact ⟨a, _, rfl, h.sq, _, _, rfl, rfl, _, _, rfl, rfl, rfl⟩
theorem PtK.dn {p : Pt} (h : PtK K H v p.1 p.2) : Dn K H (datPt p) v := by
  obtain ⟨a, vx, vy, rfl, h, h1, h2⟩ := h
  unfold datPt
  simp only [Dn, DnAll]
  exact ⟨a, _, rfl, h.sq, _, _, rfl, h1.dn, _, _, rfl, h2.dn, rfl⟩
end
theorem dnAll_ptsK {K : PySem.W.Frag} {H : Hp} : ∀ {ps : List Pt} {vs : List V}, PtsK K H vs ps → DnAll K H (ps.map datPt) vs
  | [], vs, h => by
    have : vs = [] := List.length_eq_zero_iff.mp h.len
    subst this
    simp [DnAll]
  | p :: ps, vs, h => by
    cases vs with
    | nil => have := h.len; simp at this
    | cons v vs =>
      simp only [List.map_cons, DnAll]
      exact ⟨v, vs, rfl, (h.get 0 v p rfl rfl).dn, dnAll_ptsK ⟨by have := h.len; simpa using this, fun i w q e1 e2 => h.get (i + 1) w q (by simpa using e1) (by simpa using e2)⟩⟩
theorem PtsK.dn {K : PySem.W.Frag} {H : Hp} {a : Addr} {vs : List V} {ps : List Pt} (h : PtsK K H vs ps) (hs : SqL K H a vs) : Dn K H (datPts ps) (.ref a) := by
  unfold datPts
  simp only [Dn]
  exact ⟨a, vs, rfl, hs, dnAll_ptsK h⟩
/-- a walk over a list of points, two names -/
theorem plain_pts {K : PySem.W.Frag} {a : Addr} {ws : List V} {ps : List Pt} {H1 : Hp} (h : SqL K H1 a ws) (hP : PtsK K H1 ws ps) : ∃ f g : Nat → V, Plain2 K (Itl K a) H1 ps.length f g ∧ ∀ i p, ps[i]? = some p → ShK K H1 (f i) p.1 ∧ ShK K H1 (g i) p.2 := by
  have key : ∀ i : Nat, ∃ q : V × V, ∀ p, ps[i]? = some p → ∃ b, ws[i]? = some (.ref b) ∧ TK K H1 b [q.1, q.2] ∧ ShK K H1 q.1 p.1 ∧ ShK K H1 q.2 p.2 := fun i => by
    cases e : ps[i]? with
    | none => exact ⟨(.non, .non), fun p h => nomatch h⟩
    | some p =>
      obtain ⟨v, ev, b, vx, vy, rfl, hb, h1, h2⟩ := hP.at e
      exact ⟨(vx, vy), fun p' e' => by cases e'; exact ⟨b, ev, hb, h1, h2⟩⟩
  obtain ⟨c, hc⟩ := Classical.axiomOfChoice key
  refine ⟨fun i => (c i).1, fun i => (c i).2, fun H2 s i => ⟨fun hi => ?_, fun e => ⟨ws, s.seq h, by rw [hP.len]; omega⟩⟩, fun i p e => ?_⟩
  · obtain ⟨b, e1, hb, _⟩ := hc i _ (List.getElem?_eq_getElem hi)
    refine ⟨⟨ws, _, s.seq h, e1⟩, fun x H' y => ?_⟩
    obtain ⟨rfl, y2⟩ := y
    have := y2 ws (s.seq h)
    rw [e1] at this
    exact ⟨L2.Same.refl _, b, (Option.some.inj this).symm, (hb.same s).sq⟩
  · obtain ⟨b, e1, hb, h1, h2⟩ := hc i p e
    exact ⟨h1, h2⟩
/-! ### differences -/
noncomputable def dl (g : Nat → Rat) : Nat → Nat → Rat
  | 0, i => g i
  | k + 1, i => dl g k (i + 1) - dl g k i
/-- the powers of a list of points, by differences -/
noncomputable def lpP (ps : List Pt) : List Pt := (List.range ps.length).map fun k => (dl (gX ps) k 0 * ((ch (ps.length - 1) k : Int) : Rat), dl (gY ps) k 0 * ((ch (ps.length - 1) k : Int) : Rat))
noncomputable def rowD (ps : List Pt) (k : Nat) : List Pt := (List.range (ps.length - k)).map fun j => (dl (gX ps) k j, dl (gY ps) k j)
noncomputable def spdP (ps : List Pt) : List Pt := (List.range (ps.length - 1)).map fun j => ((((ps.length - 1 : Nat) : Int) : Rat) * (gX ps (j + 1) - gX ps j), (((ps.length - 1 : Nat) : Int) : Rat) * (gY ps (j + 1) - gY ps j))
/-- the speed of a curve -/
noncomputable def speedP (ps : List Pt) : List Pt := if ps.length = 1 then [(0, 0)] else spdP ps
noncomputable def dueP (ps : List Pt) : List Pt := if ps.length = 1 then [(0, 0)] else (List.range (ps.length - 1)).map fun k => ((gX (lpP ps) (k + 1)) * (((k + 1 : Nat) : Int) : Rat), (gY (lpP ps) (k + 1)) * (((k + 1 : Nat) : Int) : Rat))
/-! sizes -/
theorem Ov.zero (D : Int) (n : Nat) : Ov D (n + 1) 0 := ⟨0, by simp, ⟨by show 0 < _; exact Nat.two_pow_pos _⟩⟩
/-! ### isinstance, also of the module's tuples -/
noncomputable def TyK (K : PySem.W.Frag) (H : Hp) (x : V) (t : Value) : Prop := TyOf K H x t ∨ (t = .type "tuple" ∧ ∃ a ys, x = .ref a ∧ SqT K H a ys)
section
variable {X : Cx}
end
/-! ### promises -/
noncomputable def spBinK (K : PySem.W.Frag) (f : Rat → Rat → Rat) : Sp := fun vs H Q _ => ∃ x y p q, vs = [x, y] ∧ ShK K H x p ∧ ShK K H y q ∧ Bd 4000 p ∧ Bd 4000 q ∧ ∀ v H', Same H H' → ShV H' v (f p q) → Q v H'
noncomputable def spStepK (K : PySem.W.Frag) : Sp := fun vs H Q _ => ∃ u v a b c d, vs = [u, v] ∧ PtK K H u a b ∧ PtK K H v c d ∧ Bd 4000 a ∧ Bd 4000 b ∧ Bd 4000 c ∧ Bd 4000 d ∧ ∀ w H', Same H H' → PtV H' w (c - a) (d - b) → Q w H'
noncomputable def spSpeed (K : PySem.W.Frag) : Sp := fun vs H Q _ => ∃ (a : Addr) (ws : List V) (ps : List Pt) (D : Int) (n : Nat), vs = [.ref a] ∧ SqL K H a ws ∧ PtsK K H ws ps ∧ 1 ≤ ps.length ∧ ps.length ≤ 12 ∧ 0 < D ∧ Sz 1500 D ∧ n ≤ 1500 ∧ (∀ p ∈ ps, OvP D n p) ∧
  ∀ (l : Addr) (us : List V) (H' : Hp), Same H H' → H l = none → H' l = some (.lst us) → PtsK K H' us (speedP ps) → Q (.ref l) H'
noncomputable def spIsShareK (K : PySem.W.Frag) : Sp := fun vs H Q _ => ∃ x q, vs = [x] ∧ ShK K H x q ∧ ∀ H', Same H H' → Q (.bl true) H'
noncomputable def spIsCurveK (K : PySem.W.Frag) : Sp := fun vs H Q _ => ∃ (a : Addr) (n : Int) (ws : List V) (ps : List Pt), vs = [.ref a, .int n] ∧ H a = some (.lst ws) ∧ PtsK K H ws ps ∧ n = (ps.length : Int) ∧ ∀ H', Same H H' → Q (.bl true) H'
noncomputable def spPowersK (K : PySem.W.Frag) : Sp := fun vs H Q _ => ∃ (a : Addr) (ws : List V) (ps : List Pt) (D : Int) (n : Nat), vs = [.ref a] ∧ SqL K H a ws ∧ PtsK K H ws ps ∧ 1 ≤ ps.length ∧ ps.length ≤ 13 ∧ 0 < D ∧ Sz 1500 D ∧ n ≤ 1500 ∧ (∀ p ∈ ps, OvP D n p) ∧
  ∀ (l : Addr) (us : List V) (H' : Hp), Same H H' → H l = none → H' l = some (.lst us) → PtsK K H' us (lpP ps) → Q (.ref l) H'
noncomputable def spDueK (K : PySem.W.Frag) : Sp := fun vs H Q _ => ∃ (a : Addr) (ws : List V) (ps : List Pt) (D : Int) (n : Nat), vs = [.ref a] ∧ SqL K H a ws ∧ PtsK K H ws ps ∧ 1 ≤ ps.length ∧ ps.length ≤ 12 ∧ 0 < D ∧ Sz 1500 D ∧ n ≤ 1400 ∧ (∀ p ∈ ps, OvP D n p) ∧
  ∀ (l : Addr) (us : List V) (H' : Hp), Same H H' → H' l = some (.lst us) → PtsK K H' us (dueP ps) → Q (.ref l) H'
theorem ovp_bd4 {D : Int} {n d : Nat} {p : Pt} (hD : 0 < D) (zD : Sz d D) (h : OvP D n p) (k : Nat) (h1 : n ≤ k) (h2 : d ≤ k) : Bd k p.1 ∧ Bd k p.2 :=
  ⟨(h.1.bd (by omega) zD).mono (by omega), (h.2.bd (by omega) zD).mono (by omega)⟩
end Cv

namespace Cv
open PySem PySem.Spec PyProof.Rows L2
/-! ### a list is unpacked -/
section
variable {prog : Program} {w : World} {A : Around} {E : Value → Shared → Prop}
theorem draw_list {it t : Addr} {itz : Array Value} (hne : t ≠ it) : ∀ (n i : Nat) (s : Shared) (Q : List Value → Shared → Prop), s.heap.IsListIter it t i → s.heap.IsList t itz → i + n ≤ itz.size →
    (∀ h', h'.IsListIter it t (i + n) → Heap.SameBut it s.heap h' → Q ((itz.toList.drop i).take n) { s with heap := h' }) → wpAny (model prog w) A (draw (.ref it) n) Q E s
  | 0, i, s, Q, hit, _, _, hQ => by
    show wpAny _ _ (pure []) Q E s
    exact wpAny_pure (by simpa using hQ s.heap hit (Heap.SameBut.refl ..))
  | n + 1, i, s, Q, hit, ht, hle, hQ => by
    have hl9 : i < itz.size := by omega
    show wpAny _ _ (pyNext (.ref it) >>= _) Q E s
    refine wpAny_bind (wpAny_pyNext_list_item hit ht (x := itz[i]) (by simp [hl9]) fun hA hiA hsA => ?_)
    refine wpAny_bind (wpAny_holding (draw_list hne n (i + 1) _ _ hiA (ht.extBut hsA.extBut hne) (by omega) fun hB hiB hsB => wpAny_pure ?_))
    have hd : itz.toList.drop i = itz[i] :: itz.toList.drop (i + 1) := by simp [List.drop_eq_getElem_cons, hl9]
    have := hQ hB (by rw [show i + (n + 1) = i + 1 + n by omega]; exact hiB) (hsA.trans hsB)
    rw [hd, List.take_succ_cons] at this
    exact this
variable {s : Shared}
theorem unpackItems_list {t : Addr} {itz : Array Value} {Q : List Value → Shared → Prop} (hh : A.handled = none) (ht : s.heap.IsList t itz)
    (hQ : ∀ h', Heap.ExtBut s.heap.objs.size s.heap h' → Q itz.toList { s with heap := h' }) : wpAny (model prog w) A (unpackItems (.ref t) itz.size none) Q E s := by
  have hl9 : t ≠ s.heap.objs.size := by obtain ⟨o, ho, _⟩ := ht; exact Nat.ne_of_lt (Heap.lt_size ho)
  unfold unpackItems
  refine wpAny_bind ?_
  · unfold notIterableAtAll
    refine wpAny_bind (wpAny_specialOf ht.typeIs F.slot_list_iter.lookup ?_)
    refine wpAny_pure ?_
    simp only [if_false, Bool.false_eq_true]
    refine wpAny_bind (wpAny_holding (wpAny_pyIter_list ht ?_))
    refine wpAny_bind (wpAny_holding (draw_list hl9 itz.size 0 _ _ ⟨_, Heap.get?_push_size _ rfl, rfl, rfl⟩ (Heap.IsList.push ht _) (by omega) fun hA hiA hsA => ?_))
    have hal0 : List.take itz.size (List.drop 0 itz.toList) = itz.toList := by
      rw [List.drop_zero]; exact List.take_of_length_le (by simp)
    rw [hal0]
    rw [if_neg (by simp)]
    have htA : hA.IsList t itz := (Heap.IsList.push ht _).extBut hsA.extBut hl9
    refine wpAny_bind (wpAny_holding (wpAny_pyNext_list_end hh hiA htA (by simp) fun hB heB => ?_))
    simp only [if_false, Bool.false_eq_true, Option.isSome_none]
    refine wpAny_pure (hQ hB fun b o hb e => heB b o hb (hsA.extBut b o hb (Heap.get?_push_of_some _ e)))
theorem assign_Tuple_list {env : Env} {elts : List Expr} {x1} {pos : Pos} {t : Addr} {itz : Array Value} {Q : Unit → Shared → Prop} (hh : A.handled = none) (ht : s.heap.IsList t itz)
    (hn : (assignEach elts env).length = itz.size) (hstar : (assignEach elts env).findIdx? (·.1) = none)
    (h : ∀ h', Heap.ExtBut s.heap.objs.size s.heap h' → wpAny (model prog w) A (assignInOrder ((assignEach elts env).map (·.2)) itz.toList) Q E { s with heap := h' }) :
    wpAny (model prog w) A (assign (.Tuple elts x1 pos) env (.ref t)) Q E s := by
  rw [arm_assign_Tuple]
  refine wpAny_bind (wpAny_standAt ?_)
  unfold unpack
  rw [hn, hstar]
  exact wpAny_bind (wpAny_holding (unpackItems_list hh ht h))
end
section
variable {X : Cx}
noncomputable def gTupL (K : PySem.W.Frag) (n : Nat) (t : TGs) : TG := fun v σ H Q => ∃ a xs, v = .ref a ∧ SqL K H a xs ∧ xs.length = n ∧ t xs σ H Q
theorem pg_lstK (K : PySem.W.Frag) {es : List Expr} {k : Nat} {t : TGs} {n : Nat} {pos : Pos} (hc : X.calm = true) (h : PGs X es t) (hK : X.K = K := by rfl)
    (hn : (assignEach es X.env).length = n := by rfl) (hst : (assignEach es X.env).findIdx? (·.1) = none := by rfl) : PG X (.Tuple es k pos) (gTupL K n t) := by
  subst hK
  intro pins s σ H v u Q I r hw
  obtain ⟨a, xs, e1, hq, hl, hw⟩ := hw
  subst e1
  cases r
  obtain ⟨its, rv, ht, hz⟩ := I.list hq
  refine assign_Tuple_list (I.ok.hd hc) ht.isList (by simp [hn, ← hl, rv.length]) hst fun h' hx => ?_
  have I1 : Inv X pins σ H { s with heap := h' } := I.kept (t' := s.toks) fun b o e => hx b o (Nat.ne_of_lt (Heap.lt_size e)) e
  exact h pins _ σ H xs _ Q I1 (by simpa using rv) hw
theorem pg_lstKI (K : PySem.W.Frag) {es : List Expr} {k : Nat} {t : TGs} {n : Nat} {pos : Pos} (hc : X.calm = true) (h : PGsi X es t) (hK : X.K = K := by rfl)
    (hn : (assignEach es X.env).length = n := by rfl) (hst : (assignEach es X.env).findIdx? (·.1) = none := by rfl) : PGi X (.Tuple es k pos) (gTupL K n t) := by with_unfolding_all exact pg_lstK (K := K) (hc := hc) (h := h) (hK := hK) (hn := hn) (hst := hst)
end
end Cv

namespace Cv
open PySem PySem.Spec PyProof.Rows L2
/-! ### places: pairs of whole numbers, in lists -/
noncomputable abbrev Pl := Int × Int
structure PlsV (H : Hp) (vs : List V) (pl : List Pl) : Prop where
  len : vs.length = pl.length
  get : ∀ (i : Nat) v p, vs[i]? = some v → pl[i]? = some p → RwV H v p.1 p.2
section
variable {H H' : Hp} {vs : List V} {pl : List Pl}
theorem PlsV.tup (h : PlsV H vs pl) (t : Tup H H') : PlsV H' vs pl := ⟨h.len, fun i v p e1 e2 => (h.get i v p e1 e2).tup t⟩
theorem PlsV.same (h : PlsV H vs pl) (t : Same H H') : PlsV H' vs pl := h.tup t.tup
theorem PlsV.at (h : PlsV H vs pl) {i : Nat} {p : Pl} (hp : pl[i]? = some p) : ∃ a, vs[i]? = some (.ref a) ∧ H a = some (.tup [.int p.1, .int p.2]) := by
  have hi : i < pl.length := (List.getElem?_eq_some_iff.mp hp).1
  have e : vs[i]? = some (vs[i]'(by rw [h.len]; exact hi)) := List.getElem?_eq_getElem _
  obtain ⟨a, e2, h2⟩ := h.get i _ p e hp
  exact ⟨a, by rw [e, e2], h2⟩
theorem pls_exist {n : Nat} : ∀ {ys : List V}, (∀ (i : Nat) v, ys[i]? = some v → ∃ x y : Int, RwV H v x y ∧ Sz n x ∧ Sz n y) → ∃ pl : List Pl, PlsV H ys pl ∧ ∀ p ∈ pl, Sz n p.1 ∧ Sz n p.2
  | [], _ => ⟨[], ⟨rfl, fun i v p e => by simp at e⟩, fun _ h => nomatch h⟩
  | y :: ys, h => by
    obtain ⟨a, b, hp, z1, z2⟩ := h 0 y rfl
    obtain ⟨pl, hP, hO⟩ := pls_exist (ys := ys) fun i v e => h (i + 1) v e
    refine ⟨(a, b) :: pl, ⟨by rw [List.length_cons, List.length_cons, hP.len], fun i v q e1 e2 => ?_⟩, fun q hq => ?_⟩
    · cases i with
      | zero => cases e1; cases e2; exact hp
      | succ i => exact hP.get i v q e1 e2
    · rcases List.mem_cons.mp hq with rfl | hq
      · exact ⟨z1, z2⟩
      · exact hO q hq
end
theorem plain_pls {K : PySem.W.Frag} {a : Addr} {ws : List V} {pl : List Pl} {H1 : Hp} (h : SqL K H1 a ws) (hP : PlsV H1 ws pl) : Plain2 K (Itl K a) H1 pl.length (fun i => .int ((pl[i]?).getD (0, 0)).1) (fun i => .int ((pl[i]?).getD (0, 0)).2) := fun H2 s i => by
  refine ⟨fun hi => ?_, fun e => ⟨ws, s.seq h, by rw [hP.len]; omega⟩⟩
  obtain ⟨b, e1, hb⟩ := hP.at (List.getElem?_eq_getElem hi)
  refine ⟨⟨ws, _, s.seq h, e1⟩, fun x H' y => ?_⟩
  obtain ⟨rfl, y2⟩ := y
  have := y2 ws (s.seq h)
  rw [e1] at this
  refine ⟨L2.Same.refl _, b, (Option.some.inj this).symm, SqT.of ?_⟩
  show H' b = some (.tup [.int ((pl[i]?).getD (0, 0)).1, .int ((pl[i]?).getD (0, 0)).2])
  rw [List.getElem?_eq_getElem hi]
  exact s _ _ hb
structure WayV (H : Hp) (v : V) (B kd : Int) : Prop where
  ex : ∃ (a s b : Addr) (sx sy bx by_ : Int), v = .ref a ∧ H a = some (.tup [.int B, .int kd, .ref s, .ref b]) ∧ H s = some (.tup [.int sx, .int sy]) ∧ H b = some (.tup [.int bx, .int by_]) ∧ 1 ≤ B ∧ B ≤ 1000000007 ∧ sx.natAbs ≤ 20 ∧ sy.natAbs ≤ 20 ∧ bx.natAbs ≤ 3 ∧ by_.natAbs ≤ 3
theorem WayV.same {H H' : Hp} {v : V} {B kd : Int} (h : WayV H v B kd) (t : Same H H') : WayV H' v B kd := by
  obtain ⟨a, s, b, sx, sy, bx, by_, rfl, h1, h2, h3, r⟩ := h
  exact ⟨a, s, b, sx, sy, bx, by_, rfl, t _ _ h1, t _ _ h2, t _ _ h3, r⟩
noncomputable def spStreamC : Sp := fun vs H Q _ => ∃ c : Int, ∃ n : Nat, vs = [.int c, .int (n : Int)] ∧ n ≤ 1000 ∧ ∀ (l : Addr) (xs : List Int) (H' : Hp), Same H H' → H l = none → H' l = some (.lst (xs.map V.int)) → xs.length = n → (∀ x ∈ xs, 0 ≤ x ∧ x ≤ 2147483647) → Q (.ref l) H'
noncomputable def spWay : Sp := fun vs H Q _ => ∃ c : Int, vs = [.int c] ∧ ∀ v B kd H', Same H H' → WayV H' v B kd → Q v H'
noncomputable def spPlace : Sp := fun vs H Q _ => ∃ (c : Int) (w : V) (B kd : Int), vs = [.int c, w] ∧ WayV H w B kd ∧ ∀ v x y H', Same H H' → RwV H' v x y → Sz 110 x → Sz 110 y → Q v H'
noncomputable def ptsOf (B : Int) (pl : List Pl) : List Pt := pl.map fun p => (Rat.divInt p.1 B, Rat.divInt p.2 B)
noncomputable def spHanded (K : PySem.W.Frag) : Sp := fun vs H Q _ => ∃ (a : Addr) (ws : List V) (pl : List Pl) (B : Int), vs = [.ref a, .int B] ∧ SqL K H a ws ∧ PlsV H ws pl ∧ 1 ≤ B ∧ Sz 9000 B ∧ pl.length ≤ 1000 ∧ ∀ (l : Addr) (us : List V) (H' : Hp), Same H H' → H l = none → H' l = some (.lst us) → PtsV H' us (ptsOf B pl) → Q (.ref l) H'
noncomputable def spLPoints (K : PySem.W.Frag) : Sp := fun vs H Q _ => ∃ (a : Addr) (ns : List Int), vs = [.ref a, .int 40] ∧ SqL K H a (ns.map V.int) ∧ ∀ (c l : Addr) (ws : List V) (pl : List Pl) (B : Int) (H' : Hp), Same H H' → H' c = some (.tup [.int B, .ref l]) → H' l = some (.lst ws) → PlsV H' ws pl → 1 ≤ pl.length → pl.length ≤ 40 → 1 ≤ B → B ≤ 1000000007 → (∀ p ∈ pl, Sz 110 p.1 ∧ Sz 110 p.2) → Q (.ref c) H'
theorem p25 : (10 : Int) ^ (25 : Int).toNat = 10000000000000000000000000 := by decide
/-! ### least and greatest -/
noncomputable def LeastQ (qs : List Rat) (m : Rat) : Prop := m ∈ qs ∧ ∀ q ∈ qs, m ≤ q
noncomputable def GreatQ (qs : List Rat) (m : Rat) : Prop := m ∈ qs ∧ ∀ q ∈ qs, q ≤ m
theorem LeastQ.one {qs : List Rat} {a b : Rat} (h1 : LeastQ qs a) (h2 : LeastQ qs b) : a = b := Rat.le_antisymm (h1.2 b h2.1) (h2.2 a h1.1)
theorem GreatQ.one {qs : List Rat} {a b : Rat} (h1 : GreatQ qs a) (h2 : GreatQ qs b) : a = b := Rat.le_antisymm (h2.2 a h1.1) (h1.2 b h2.1)
theorem LeastQ.of {qs rs : List Rat} {a : Rat} (h : LeastQ qs a) (e : ∀ q, q ∈ qs ↔ q ∈ rs) : LeastQ rs a := ⟨(e a).mp h.1, fun q hq => h.2 q ((e q).mpr hq)⟩
theorem GreatQ.of {qs rs : List Rat} {a : Rat} (h : GreatQ qs a) (e : ∀ q, q ∈ qs ↔ q ∈ rs) : GreatQ rs a := ⟨(e a).mp h.1, fun q hq => h.2 q ((e q).mpr hq)⟩
structure BoxV (H : Hp) (v : V) (xs ys : List Rat) : Prop where
  ex : ∃ (a : Addr) (v1 v2 v3 v4 : V) (q1 q2 q3 q4 : Rat), v = .ref a ∧ H a = some (.tup [v1, v2, v3, v4]) ∧ ShV H v1 q1 ∧ ShV H v2 q2 ∧ ShV H v3 q3 ∧ ShV H v4 q4 ∧ LeastQ xs q1 ∧ LeastQ ys q2 ∧ GreatQ xs q3 ∧ GreatQ ys q4
theorem BoxV.same {H H' : Hp} {v : V} {xs ys : List Rat} (h : BoxV H v xs ys) (t : Same H H') : BoxV H' v xs ys := by
  obtain ⟨a, v1, v2, v3, v4, q1, q2, q3, q4, rfl, h0, h1, h2, h3, h4, r⟩ := h
  exact ⟨a, v1, v2, v3, v4, q1, q2, q3, q4, rfl, t _ _ h0, h1.same t, h2.same t, h3.same t, h4.same t, r⟩
theorem BoxV.of {H : Hp} {v : V} {xs ys xs' ys' : List Rat} (h : BoxV H v xs ys) (e1 : ∀ q, q ∈ xs ↔ q ∈ xs') (e2 : ∀ q, q ∈ ys ↔ q ∈ ys') : BoxV H v xs' ys' := by
  obtain ⟨a, v1, v2, v3, v4, q1, q2, q3, q4, rfl, h0, h1, h2, h3, h4, r1, r2, r3, r4⟩ := h
  exact ⟨a, v1, v2, v3, v4, q1, q2, q3, q4, rfl, h0, h1, h2, h3, h4, r1.of e1, r2.of e2, r3.of e1, r4.of e2⟩
noncomputable def spEnds : Sp := fun vs H Q _ => ∃ x n tops bs, vs = [x] ∧ AxV H x n tops bs ∧ 0 < tops.length ∧ ∀ v M N H', Same H H' → AxV H' v n [M, N] bs → M ∈ tops → N ∈ tops → (∀ a ∈ tops, M ≤ a) → (∀ a ∈ tops, a ≤ N) → Q v H'
noncomputable def spBox (K : PySem.W.Frag) : Sp := fun vs H Q _ => ∃ (a : Addr) (ws : List V) (ps : List Pt) (D : Int) (m : Nat), vs = [.ref a] ∧ SqL K H a ws ∧ PtsV H ws ps ∧ 0 < D ∧ Sz 9000 D ∧ (∀ p ∈ ps, ((p.1.den : Int) ∣ D ∧ Bd m p.1) ∧ (p.2.den : Int) ∣ D ∧ Bd m p.2) ∧ m ≤ 9000 ∧ 1 ≤ ps.length ∧ ps.length ≤ 40 ∧
  ∀ v H', Same H H' → BoxV H' v (ps.map (·.1)) (ps.map (·.2)) → Q v H'
noncomputable def spLBox (K : PySem.W.Frag) : Sp := fun vs H Q _ => ∃ (a : Addr) (ws : List V) (pl : List Pl) (B : Int), vs = [.ref a, .int B] ∧ SqL K H a ws ∧ PlsV H ws pl ∧ 1 ≤ B ∧ Sz 9000 B ∧ 1 ≤ pl.length ∧ pl.length ≤ 1000 ∧ ∀ v H', Same H H' → BoxV H' v ((ptsOf B pl).map (·.1)) ((ptsOf B pl).map (·.2)) → Q v H'
noncomputable def spLGood : Sp := fun vs H Q _ => ∃ x y xs ys, vs = [x, y] ∧ BoxV H x xs ys ∧ BoxV H y xs ys ∧ ∀ H', Same H H' → Q (.bl true) H'
/-! ### lists of whole numbers -/
noncomputable def datInts (ms : List Int) : PySem.W.Dat := .list (ms.map .int)
noncomputable def datBox (a b c d : Rat) : PySem.W.Dat := .tuple [datSh a, datSh b, datSh c, datSh d]
theorem ptsOf_len (B : Int) (pl : List Pl) : (ptsOf B pl).length = pl.length := by unfold ptsOf; simp
theorem ptsOf_ov {B : Int} {pl : List Pl} {n : Nat} (hB : 0 < B) (h : ∀ p ∈ pl, Sz n p.1 ∧ Sz n p.2) : ∀ p ∈ ptsOf B pl, OvP B n p := fun p hp => by
  unfold ptsOf at hp
  obtain ⟨q, hq, rfl⟩ := List.mem_map.mp hp
  exact ⟨ov_divInt (by omega) (h q hq).1, ov_divInt (by omega) (h q hq).2⟩
end Cv

namespace Cv
open PySem PySem.Spec PyProof.Rows L2
/-! ### list(zip(a, b)): a zip whose tuples are kept -/
section
variable {prog : Program} {w : World} {A : Around} {E : Value → Shared → Prop} {s : Shared}
noncomputable abbrev ZipK (h : Heap) (z TI TO T : Addr) (b : Bool) : Prop :=
  h.get? z = some { cls := .type "zip", dict := none, data := .fields #[rawInt T, .bool b, .bool false, .ref TI, .ref TO], slots := #[] }
/-- a zip that stands at turn i, its first tuple perhaps kept -/
noncomputable def ZSt (z TI TO i1 i2 l1 l2 : Addr) (i : Nat) (h : Heap) : Prop :=
  (IsZip h z TI TO .none ∨ ∃ T b o, ZipK h z TI TO T b ∧ h.get? T = some o ∧ T ≠ z ∧ T ≠ TO ∧ T ≠ i1 ∧ T ≠ i2) ∧ (∃ a b, IsPair h TO a b) ∧ IsPair h TI (.ref i1) (.ref i2) ∧ h.IsListIter i1 l1 i ∧ h.IsListIter i2 l2 i
end
theorem SqL.aside {K : PySem.W.Frag} {H : Hp} {a S : Addr} {o : HO} {xs : List V} (h : SqL K H a xs) (ne : a ≠ S) : SqL K (upd H S o) a xs := by
  rcases h with (h | ⟨ob, h⟩) | h
  · exact .inl (.inl (by rw [upd_ne ne]; exact h))
  · exact .inl (.inr ⟨ob, by rw [upd_ne ne]; exact h⟩)
  · exact .inr h
noncomputable def PairsL (H : Hp) (us xs ys : List V) : Prop := ∀ (j : Nat) v, us[j]? = some v → ∃ T, v = .ref T ∧ H T = some (.tup [(xs[j]?).getD .non, (ys[j]?).getD .non])
section
variable {X : Cx} {pins : List (Addr × Obj)} {σ : L2.St} {A : Around}
/-- list(zip(a, b)) -/
noncomputable def tZipL (K : PySem.W.Frag) (ta : TA) : TE := fun σ H Q => ta σ H fun vs H1 => ∃ (l1 l2 : Addr) (xs ys : List V), vs = [.ref l1, .ref l2] ∧ SqL K H1 l1 xs ∧ SqL K H1 l2 ys ∧ xs.length ≤ 100000 ∧
  ∀ (l : Addr) (us : List V) (H2 : Hp), H1 l = none → Same H1 H2 → H2 l = some (.lst us) → us.length = min xs.length ys.length → PairsL H2 us xs ys → Q (.ref l) H2
end
end Cv

namespace Cv
open PySem PySem.Spec PyProof.Rows L2
/-! ### powers of an axis: whole numbers -/
noncomputable def dlZ (g : Nat → Int) : Nat → Nat → Int
  | 0, i => g i
  | k + 1, i => dlZ g k (i + 1) - dlZ g k i
noncomputable def gI (l : List Int) (j : Nat) : Int := (l[j]?).getD 0
noncomputable def rowZ (l : List Int) (k : Nat) : List Int := (List.range (l.length - k)).map fun j => dlZ (gI l) k j
noncomputable def pwT (l : List Int) : List Int := (List.range l.length).map fun k => (ch (l.length - 1) k : Int) * dlZ (gI l) k 0
noncomputable def gQ (qs : List Rat) (j : Nat) : Rat := (qs[j]?).getD 0
noncomputable def pwQ (qs : List Rat) : List Rat := (List.range qs.length).map fun k => dl (gQ qs) k 0 * ((ch (qs.length - 1) k : Int) : Rat)
/-! ### seats of powers: sums -/
noncomputable def sumsI (f : Int) : List Int → List Int
  | [] => [f]
  | x :: r => f :: sumsI (f + x) r
noncomputable def sumsQ (f : Rat) : List Rat → List Rat
  | [] => [f]
  | x :: r => f :: sumsQ (f + x) r
noncomputable def seT : List Int → List Int
  | [] => []
  | c :: r => sumsI c (seT r)
noncomputable def seQ : List Rat → List Rat
  | [] => []
  | c :: r => sumsQ c (seQ r)
/-- powers over how many ways -/
noncomputable def wayQ (qs : List Rat) : List Rat := (List.range qs.length).map fun k => gQ qs k / ((ch (qs.length - 1) k : Int) : Rat)
noncomputable def ofQ (qs : List Rat) : List Rat := seQ (wayQ qs)
noncomputable def ofP (ps : List Pt) : List Pt := (ofQ (ps.map (·.1))).zip (ofQ (ps.map (·.2)))
/-! ### the point by powers -/
/-! ### sizes -/
noncomputable def lprod (n : Nat) : Int := prodI ((List.range (n + 1)).map fun k => (ch n k : Int))
/-! ### promises -/
noncomputable def spAxPw : Sp := fun vs H Q _ => ∃ x n tops bs, vs = [x] ∧ AxV H x n tops bs ∧ 1 ≤ tops.length ∧ tops.length ≤ 12 ∧ n ≤ 1000000 ∧ ∀ v H', Same H H' → AxV H' v (n + 40) (pwT tops) bs → Q v H'
structure Fine1 (ps : List Pt) (D : Int) (m : Nat) : Prop where
  pos : 0 < D
  sz : Sz 9000 D
  ov : ∀ p ∈ ps, OvP D m p
  m : m ≤ 9000
  l1 : 1 ≤ ps.length
  l2 : ps.length ≤ 12
theorem Fine1.dv {ps : List Pt} {D : Int} {m : Nat} (h : Fine1 ps D m) : ∀ p ∈ ps, ((p.1.den : Int) ∣ D ∧ Bd 9000 p.1) ∧ (p.2.den : Int) ∣ D ∧ Bd 9000 p.2 := fun p hp => by
  have d := h.pos
  have mm := h.m
  exact ⟨⟨den_dvd (h.ov p hp).1, ((h.ov p hp).1.bd (by omega) h.sz).mono (by omega)⟩, den_dvd (h.ov p hp).2, ((h.ov p hp).2.bd (by omega) h.sz).mono (by omega)⟩
noncomputable def spPw1 (K : PySem.W.Frag) : Sp := fun vs H Q _ => ∃ (a : Addr) (ws : List V) (ps : List Pt) (D : Int) (m : Nat), vs = [.ref a] ∧ SqL K H a ws ∧ PtsV H ws ps ∧ Fine1 ps D m ∧
  ∀ (l : Addr) (us : List V) (H' : Hp), Same H H' → H l = none → H' l = some (.lst us) → PtsV H' us (lpP ps) → Q (.ref l) H'
noncomputable def spSums (K : PySem.W.Frag) : Sp := fun vs H Q _ => ∃ (f : Int) (a : Addr) (ms : List Int), vs = [.int f, .ref a] ∧ SqL K H a (ms.map V.int) ∧ ms.length ≤ 100 ∧ ∀ (l : Addr) (H' : Hp), Same H H' → H l = none → H' l = some (.lst ((sumsI f ms).map V.int)) → Q (.ref l) H'
noncomputable def spAxSe : Sp := fun vs H Q _ => ∃ x n tops bs, vs = [x] ∧ AxV H x n tops bs ∧ 1 ≤ tops.length ∧ tops.length ≤ 12 ∧ n ≤ 1000000 ∧ bs.length ≤ 50 ∧ ∀ v H' t b m, Same H H' → AxV H' v m t b → t.length = tops.length → axR t b = ofQ (axR tops bs) → Q v H'
noncomputable def spOf1 (K : PySem.W.Frag) : Sp := fun vs H Q _ => ∃ (a : Addr) (ws : List V) (ps : List Pt) (D : Int) (m : Nat), vs = [.ref a] ∧ SqL K H a ws ∧ PtsV H ws ps ∧ Fine1 ps D m ∧
  ∀ (l : Addr) (us : List V) (H' : Hp), Same H H' → H l = none → H' l = some (.lst us) → PtsV H' us (ofP ps) → Q (.ref l) H'
theorem AxV.mono {H : Hp} {v : V} {n m : Nat} {t b : List Int} (h : AxV H v n t b) (hn : n ≤ m) : AxV H v m t b := by
  obtain ⟨a, lt, lb, e, h1, h2, h3, h4, r⟩ := h
  exact ⟨a, lt, lb, e, h1, h2, h3, fun x hx => (h4 x hx).mono hn, r⟩
noncomputable def spByPw (K : PySem.W.Frag) : Sp := fun vs H Q _ => ∃ (a : Addr) (x : Int) (ws : List V) (ps : List Pt), vs = [.ref a, .int x] ∧ H a = some (.lst ws) ∧ PtsV H ws ps ∧ Sz 8 x ∧ ps.length ≤ 12 ∧ (∀ p ∈ ps, Bd 390 p.1 ∧ Bd 390 p.2) ∧
  ∀ v H', Same H H' → PtV H' v (sm (fun k => pw (x : Rat) k * gX ps k) ps.length) (sm (fun k => pw (x : Rat) k * gY ps k) ps.length) → Q v H'
noncomputable def spLPts (K : PySem.W.Frag) : Sp := fun vs H Q _ => ∃ (a : Addr) (n : Int) (ws : List V) (ps : List Pt), vs = [.ref a, .int n] ∧ H a = some (.lst ws) ∧ PtsV H ws ps ∧ n = (ps.length : Int) ∧ ps.length ≤ 100 ∧ ∀ H', Same H H' → Q (.bl true) H'
end Cv

namespace Cv
open PySem PySem.Spec PyProof.Rows L2
/-! ### range that goes down by one -/
noncomputable def Itd (lo : Int) (n : Nat) : It := ⟨fun i _ => i < n, fun i H x H' => H' = H ∧ x = .int (lo - (i : Int)), fun i _ => n ≤ i⟩
theorem turn_down {P : Program} {w : World} {K : PySem.W.Frag} {tg : Expr} (it : Addr) (lo : Int) (n : Nat) : Turn P w K tg (Itd lo n) [it] it (fun i h => IsRangeIter h it (lo + (i : Nat) * (-1)) ((n : Int) - (i : Nat)) (-1)) where
  mem := by simp
  obj := fun i h st b hb => by
    have e : b = it := by simpa using hb
    subst e
    exact ⟨_, st, fun v z => by
      have z' : Data.fields _ = Data.cell v := z
      cases z'⟩
  keep := fun i h h' st k => k it (by simp) _ st
  item := by
    intro X hP hw hK hc i pins s σ H E I hf st hg
    subst hP hw hK
    obtain ⟨f0, f1, f2, f3, f4, f5⟩ := hf it (by simp)
    have W := Walks.range (prog := X.prog) (w := X.w) (I.ok.hd hc) it lo (-1) n
    refine W.item i s _ _ hg st fun v h' tk hv st' kk => ?_
    obtain ⟨t, rfl⟩ := hv
    have I1 : Inv X pins σ H { s with heap := h', toks := tk } := I.turned (fun b o hb e => kk b o (by simpa using hb) e) f0 f1 f3 f4 f5
    refine ⟨_, rfl, go_of (s := { s with heap := h', toks := tk }) (n := "range_iterator") st' rfl rfl (by decide) ⟨.int (lo - i), H, I1, ⟨t, ?_⟩, ⟨rfl, rfl⟩, st', fun b hb => (hf b hb).1⟩⟩
    congr 1
    omega
  done := by
    intro X hP hw hK hc i pins s σ H E I hf st hg
    subst hP hw hK
    obtain ⟨f0, f1, f2, f3, f4, f5⟩ := hf it (by simp)
    exact wpAny_pyNext_range_end (I.ok.hd hc) st (by have : n ≤ i := hg; omega) fun h' eb => ⟨rfl, I.turned (t' := s.toks) (fun b o hb e => eb b o hb e) f0 f1 f3 f4 f5⟩
  self := fun _ _ _ _ _ st h => wpAny_pyIter_rangeiter st h
section
variable {X : Cx} {tg : Expr}
noncomputable def iDown (ta : TA) : TI := fun σ H R => ta σ H fun vs H1 => ∃ i j : Int, vs = [.int i, .int j, .int (-1)] ∧ (-(2 ^ 62) ≤ i ∧ i < 2 ^ 62 ∧ -(2 ^ 62) ≤ j ∧ j < 2 ^ 62) ∧ R (Itd i (i - j).toNat) H1
end
/-! ### raising -/
noncomputable def ptAt (ps : List Pt) (j : Nat) : Pt := (gX ps j, gY ps j)
noncomputable def raP (ps : List Pt) : List Pt := [ptAt ps 0] ++ (List.range (ps.length - 1)).map (fun i : Nat => btwP (Rat.divInt ((1 : Int) + (i : Int)) (ps.length : Int)) (ptAt ps (i + 1)) (ptAt ps i)) ++ [ptAt ps (ps.length - 1)]
/-- the k-th raised number -/
noncomputable def rr (N : Nat) (g : Nat → Rat) (k : Nat) : Rat := ((((N : Int) : Rat) - ((k : Int) : Rat)) * g k + ((k : Int) : Rat) * g (k - 1)) / ((N : Int) : Rat)
noncomputable def raN : Nat → List Pt → List Pt
  | 0, ps => ps
  | r + 1, ps => raP (raN r ps)
/-! promises -/
noncomputable def spRaised (K : PySem.W.Frag) : Sp := fun vs H Q _ => ∃ (a : Addr) (ws : List V) (ps : List Pt) (D : Int) (m : Nat), vs = [.ref a] ∧ SqL K H a ws ∧ PtsV H ws ps ∧ 0 < D ∧ Sz 300 D ∧ (∀ p ∈ ps, OvP D m p) ∧ m ≤ 300 ∧ 1 ≤ ps.length ∧ ps.length ≤ 11 ∧
  ∀ (l : Addr) (us : List V) (H' : Hp), Same H H' → H l = none → H' l = some (.lst us) → PtsV H' us (raP ps) → Q (.ref l) H'
noncomputable def spSpare (K : PySem.W.Frag) : Sp := fun vs H Q _ => ∃ (a : Addr) (ws : List V) (ps : List Pt), vs = [.ref a] ∧ H a = some (.lst ws) ∧ PtsV H ws (ps ++ [(0, 0)]) ∧ 1 ≤ ps.length ∧ Q (.bl true) H
noncomputable def spLowered (K : PySem.W.Frag) : Sp := fun vs H Q _ => ∃ (a : Addr) (ws : List V) (ps qs : List Pt) (D : Int) (m : Nat), vs = [.ref a] ∧ SqL K H a ws ∧ PtsV H ws ps ∧ Fine1 ps D m ∧ m ≤ 1000 ∧ lpP ps = lpP qs ++ [(0, 0)] ∧ 1 ≤ qs.length ∧
  ∀ (l : Addr) (us : List V) (H' : Hp), Same H H' → H l = none → H' l = some (.lst us) → PtsV H' us qs → Q (.ref l) H'
theorem PtsV.append {H : Hp} {vs ws : List V} {ps qs : List Pt} (h1 : PtsV H vs ps) (h2 : PtsV H ws qs) : PtsV H (vs ++ ws) (ps ++ qs) := by
  have l1 := h1.len
  have l2 := h2.len
  refine ⟨by rw [List.length_append, List.length_append]; omega, fun i v p e1 e2 => ?_⟩
  by_cases hi : i < vs.length
  · rw [List.getElem?_append_left hi] at e1
    rw [List.getElem?_append_left (by omega)] at e2
    exact h1.get i v p e1 e2
  · rw [List.getElem?_append_right (by omega)] at e1 e2
    rw [← l1] at e2
    exact h2.get _ v p e1 e2
end Cv

namespace Cv
open PySem PySem.Spec PyProof.Rows L2
/-! ### joins: powers behind the end -/
noncomputable def sg : Nat → Rat
  | 0 => 1
  | k + 1 => -(sg k)
noncomputable def pbP (ps : List Pt) : List Pt := (List.range ps.length).map fun k => (dl (gX ps) k (ps.length - 1 - k) * ((ch (ps.length - 1) k : Int) : Rat), dl (gY ps) k (ps.length - 1 - k) * ((ch (ps.length - 1) k : Int) : Rat))
/-! ### speeds by whole numbers -/
noncomputable def fall (n : Nat) : Nat → Int
  | 0 => 1
  | k + 1 => fall n k * ((n : Int) - k)
noncomputable def fact : Nat → Int
  | 0 => 1
  | k + 1 => fact k * ((k : Int) + 1)
noncomputable def gA (pl : List Pl) (j : Nat) : Int := ((pl[j]?).getD (0, 0)).1
noncomputable def gB (pl : List Pl) (j : Nat) : Int := ((pl[j]?).getD (0, 0)).2
/-- the k-th speed at an end (e = true) or at the begin, whole numbers -/
noncomputable def spI2 (pl : List Pl) (e : Bool) (k : Nat) : Pl := if k < pl.length then (dlZ (gA pl) k (if e then pl.length - 1 - k else 0) * fall (pl.length - 1) k, dlZ (gB pl) k (if e then pl.length - 1 - k else 0) * fall (pl.length - 1) k) else (0, 0)
noncomputable def spQ (ps : List Pt) (e : Bool) (k : Nat) : Pt := if k < ps.length then (dl (gX ps) k (if e then ps.length - 1 - k else 0) * ((ch (ps.length - 1) k : Int) : Rat), dl (gY ps) k (if e then ps.length - 1 - k else 0) * ((ch (ps.length - 1) k : Int) : Rat)) else (0, 0)
/-- how often they are alike -/
structure Cnt (E : Nat → Prop) (most : Nat) (r : Int) : Prop where
  lo : -1 ≤ r
  hi : r ≤ most
  all : ∀ j : Nat, (j : Int) ≤ r → E j
  stop : r = most ∨ ¬ E (r + 1).toNat
theorem Cnt.one {E : Nat → Prop} {most : Nat} {r s : Int} (h1 : Cnt E most r) (h2 : Cnt E most s) : r = s := by
  have key : ∀ {r s : Int}, Cnt E most r → Cnt E most s → ¬ r < s := fun {r s} h1 h2 hlt => by
    have := h1.lo
    have := h2.hi
    rcases h1.stop with q | q
    · omega
    · exact q (h2.all _ (by omega))
  have a := key h1 h2
  have b := key h2 h1
  omega
/-! ### differences of places -/
noncomputable def lessP (pl : List Pl) (k : Nat) : List Pl := (List.range (pl.length - k)).map fun j => (dlZ (gA pl) k j, dlZ (gB pl) k j)
theorem PlsV.nil (H : Hp) : PlsV H [] [] := ⟨rfl, fun i v p e => by simp at e⟩
noncomputable def datPl (p : Pl) : PySem.W.Dat := .tuple [.int p.1, .int p.2]
theorem datPl_ok (p : Pl) (n : Nat) : PySem.W.kqdOk (n + 1) (datPl p) = true := by
  have h : ∀ i : Int, PySem.W.kqdOk n (.int i) = true := fun i => by cases n <;> simp [PySem.W.kqdOk]
  simp [datPl, PySem.W.kqdOk, h]
theorem datPl_inj {p q : Pl} : datPl p = datPl q ↔ p = q := by
  unfold datPl
  constructor
  · intro h
    simp at h
    exact Prod.ext h.1 h.2
  · intro h; rw [h]
theorem dnPl {K : PySem.W.Frag} {H : Hp} {a : Addr} {p : Pl} (h : H a = some (.tup [.int p.1, .int p.2])) : Dn K H (datPl p) (.ref a) := by
  unfold datPl
  simp only [Dn, DnAll]
  exact ⟨a, _, rfl, SqT.of h, _, _, rfl, rfl, _, _, rfl, rfl, rfl⟩
noncomputable def datPls (pl : List Pl) : PySem.W.Dat := .list (pl.map datPl)
/-! ### promises -/
noncomputable def SzP (n : Nat) (pl : List Pl) : Prop := ∀ p ∈ pl, Sz n p.1 ∧ Sz n p.2
noncomputable def spSeats : Sp := fun vs H Q _ => ∃ (c : Int) (n : Nat) (w : V) (B kd : Int), vs = [.int c, .int (n : Int), w] ∧ n ≤ 100 ∧ WayV H w B kd ∧ ∀ (l : Addr) (us : List V) (pl : List Pl) (H' : Hp), Same H H' → H l = none → H' l = some (.lst us) → PlsV H' us pl → pl.length = n → SzP 110 pl → Q (.ref l) H'
noncomputable def spLess (K : PySem.W.Frag) : Sp := fun vs H Q _ => ∃ (a : Addr) (ws : List V) (pl : List Pl), vs = [.ref a] ∧ SqL K H a ws ∧ PlsV H ws pl ∧ pl.length ≤ 100 ∧ ∀ (l : Addr) (us : List V) (H' : Hp), Same H H' → H l = none → H' l = some (.lst us) → PlsV H' us (lessP pl 1) → Q (.ref l) H'
noncomputable def spSpeeds (K : PySem.W.Frag) (e : Bool) : Sp := fun vs H Q _ => ∃ (a : Addr) (m : Nat) (ws : List V) (pl : List Pl), vs = [.ref a, .int (m : Int), .int (if e then -1 else 0)] ∧ H a = some (.lst ws) ∧ PlsV H ws pl ∧ 1 ≤ pl.length ∧ pl.length ≤ 12 ∧ m ≤ 11 ∧ SzP 400 pl ∧ ∀ (l : Addr) (us : List V) (H' : Hp), Same H H' → H l = none → H' l = some (.lst us) → PlsV H' us ((List.range (m + 1)).map (spI2 pl e)) → Q (.ref l) H'
noncomputable def spSpeeds2 (K : PySem.W.Frag) : Sp := fun vs H Q E => ∃ e, spSpeeds K e vs H Q E
noncomputable def spBehind (K : PySem.W.Frag) : Sp := fun vs H Q _ => ∃ (a : Addr) (ws : List V) (ps : List Pt) (D : Int) (m : Nat), vs = [.ref a] ∧ SqL K H a ws ∧ PtsV H ws ps ∧ Fine1 ps D m ∧ m ≤ 1000 ∧ Sz 1000 D ∧
  ∀ (l : Addr) (us : List V) (H' : Hp), Same H H' → H l = none → H' l = some (.lst us) → PtsV H' us (pbP ps) → Q (.ref l) H'
noncomputable def spSmooth (K : PySem.W.Frag) : Sp := fun vs H Q _ => ∃ (a b : Addr) (n : Nat) (ws us : List V) (ps qs : List Pt) (D E : Int) (m o : Nat), vs = [.ref a, .ref b, .int (n : Int)] ∧ H a = some (.lst ws) ∧ PtsV H ws ps ∧ Fine1 ps D m ∧ m ≤ 1000 ∧ Sz 1000 D ∧ H b = some (.lst us) ∧ PtsV H us qs ∧ Fine1 qs E o ∧ n ≤ 11 ∧
  ∀ (r : Int) (H' : Hp), Same H H' → Cnt (fun k => spQ ps true k = spQ qs false k) n r → Q (.int r) H'
noncomputable def spDue (K : PySem.W.Frag) : Sp := fun vs H Q _ => ∃ (a b : Addr) (n : Nat) (ws us : List V) (p q : List Pl), vs = [.ref a, .ref b, .int (n : Int)] ∧ H a = some (.lst ws) ∧ PlsV H ws p ∧ H b = some (.lst us) ∧ PlsV H us q ∧ 1 ≤ p.length ∧ p.length ≤ 12 ∧ 1 ≤ q.length ∧ q.length ≤ 12 ∧ n ≤ 11 ∧ SzP 400 p ∧ SzP 400 q ∧
  ∀ (r : Int) (H' : Hp), Same H H' → Cnt (fun k => spI2 p true k = spI2 q false k) n r → Q (.int r) H'
noncomputable def spPlsOp (K : PySem.W.Frag) (f : Nat → Nat) : Sp := fun vs H Q _ => ∃ (a : Addr) (ws : List V) (pl : List Pl) (n : Nat), vs = [.ref a] ∧ H a = some (.lst ws) ∧ PlsV H ws pl ∧ 1 ≤ pl.length ∧ pl.length ≤ 12 ∧ SzP n pl ∧ n ≤ 9000 ∧ ∀ (l : Addr) (us : List V) (ql : List Pl) (H' : Hp), Same H H' → H l = none → H' l = some (.lst us) → PlsV H' us ql → ql.length = f pl.length → SzP (n + 20) ql → Q (.ref l) H'
noncomputable def spScaled (K : PySem.W.Frag) : Sp := fun vs H Q _ => ∃ (a : Addr) (ws : List V) (pl : List Pl) (n : Nat) (m : Int), vs = [.ref a, .int m] ∧ SqL K H a ws ∧ PlsV H ws pl ∧ 1 ≤ pl.length ∧ pl.length ≤ 12 ∧ SzP n pl ∧ n ≤ 9000 ∧ 0 ≤ m ∧ m ≤ 12 ∧ ∀ (l : Addr) (us : List V) (ql : List Pl) (H' : Hp), Same H H' → H l = none → H' l = some (.lst us) → PlsV H' us ql → ql.length = pl.length → SzP (n + 20) ql → Q (.ref l) H'
noncomputable def spOnward (K : PySem.W.Frag) : Sp := fun vs H Q _ => ∃ (a : Addr) (ws : List V) (pl : List Pl) (n m : Nat), vs = [.ref a, .int (m : Int)] ∧ H a = some (.lst ws) ∧ PlsV H ws pl ∧ 1 ≤ pl.length ∧ pl.length ≤ 12 ∧ SzP n pl ∧ n ≤ 1000 ∧ m ≤ pl.length ∧ ∀ (l : Addr) (us : List V) (ql : List Pl) (H' : Hp), Same H H' → H l = none → H' l = some (.lst us) → PlsV H' us ql → ql.length = m → SzP (n + 40) ql → Q (.ref l) H'
section
variable {X : Cx}
end
theorem PtsK.append {K : PySem.W.Frag} {H : Hp} {vs ws : List V} {ps qs : List Pt} (h1 : PtsK K H vs ps) (h2 : PtsK K H ws qs) : PtsK K H (vs ++ ws) (ps ++ qs) := by
  have l1 := h1.len
  have l2 := h2.len
  refine ⟨by rw [List.length_append, List.length_append]; omega, fun i v p e1 e2 => ?_⟩
  by_cases hi : i < vs.length
  · rw [List.getElem?_append_left hi] at e1
    rw [List.getElem?_append_left (by omega)] at e2
    exact h1.get i v p e1 e2
  · rw [List.getElem?_append_right (by omega)] at e1 e2
    rw [← l1] at e2
    exact h2.get _ v p e1 e2
theorem PtsK.rep {K : PySem.W.Frag} {H : Hp} {v : V} {p : Pt} (n : Nat) (h : PtK K H v p.1 p.2) : PtsK K H (List.replicate n v) (List.replicate n p) := by
  refine ⟨by simp, fun i w q e1 e2 => ?_⟩
  rw [List.getElem?_replicate] at e1 e2
  by_cases hi : i < n
  · rw [if_pos hi] at e1 e2; cases e1; cases e2; exact h
  · rw [if_neg hi] at e1; cases e1
theorem PlsV.append {H : Hp} {vs ws : List V} {p q : List Pl} (h1 : PlsV H vs p) (h2 : PlsV H ws q) : PlsV H (vs ++ ws) (p ++ q) := by
  have l1 := h1.len
  have l2 := h2.len
  refine ⟨by rw [List.length_append, List.length_append]; omega, fun i v r e1 e2 => ?_⟩
  by_cases hi : i < vs.length
  · rw [List.getElem?_append_left hi] at e1
    rw [List.getElem?_append_left (by omega)] at e2
    exact h1.get i v r e1 e2
  · rw [List.getElem?_append_right (by omega)] at e1 e2
    rw [← l1] at e2
    exact h2.get _ v r e1 e2
theorem PlsV.drop {H : Hp} {vs : List V} {p : List Pl} (h : PlsV H vs p) (n : Nat) : PlsV H (vs.drop n) (p.drop n) := by
  have hl := h.len
  refine ⟨by rw [List.length_drop, List.length_drop, hl], fun i v r e1 e2 => ?_⟩
  rw [List.getElem?_drop] at e1 e2
  exact h.get _ v r e1 e2
theorem cut_dropV (xs : List V) (k : Int) (n : Nat) (e : k = (n : Int)) (h : n ≤ xs.length) : cutV xs (some k) none = xs.drop n := by
  have := cut_fromI (fun v : V => v) xs k n e h
  simpa using this
noncomputable def spTwo (K : PySem.W.Frag) : Sp := fun vs H Q _ => ∃ (a : Addr) (ns : List Int), vs = [.ref a] ∧ SqL K H a (ns.map V.int) ∧ ∀ (c l1 l2 : Addr) (ws us : List V) (p q : List Pl) (B : Int) (n : Nat) (H' : Hp), Same H H' → H' c = some (.tup [.int B, .ref l1, .ref l2, .int (n : Int)]) → H' l1 = some (.lst ws) → PlsV H' ws p → H' l2 = some (.lst us) → PlsV H' us q →
  1 ≤ p.length → p.length ≤ 12 → 1 ≤ q.length → q.length ≤ 12 → n ≤ 11 → 0 < B → Sz 60 B → SzP 300 p → SzP 300 q → Q (.ref c) H'
noncomputable def datLL (p q : List Pt) : PySem.W.Dat := .list [datPts p, datPts q]
end Cv

namespace Cv
open PySem PySem.Spec PyProof.Rows L2
/-! ### lists of shares, the module's among them -/
structure ShLK (K : PySem.W.Frag) (H : Hp) (vs : List V) (qs : List Rat) : Prop where
  len : vs.length = qs.length
  get : ∀ (i : Nat) v q, vs[i]? = some v → qs[i]? = some q → ShK K H v q
section
variable {K : PySem.W.Frag} {H H' : Hp} {vs : List V} {qs : List Rat}
theorem ShLK.tup (h : ShLK K H vs qs) (t : Tup H H') : ShLK K H' vs qs := ⟨h.len, fun i v q e1 e2 => (h.get i v q e1 e2).tup t⟩
theorem ShLK.same (h : ShLK K H vs qs) (t : Same H H') : ShLK K H' vs qs := h.tup t.tup
theorem ShL.k (h : ShL H vs qs) : ShLK K H vs qs := ⟨h.len, fun i v q e1 e2 => (h.get i v q e1 e2).k⟩
theorem ShLK.atV (h : ShLK K H vs qs) {i : Nat} {v : V} (hv : vs[i]? = some v) : ∃ q, qs[i]? = some q ∧ ShK K H v q := by
  have hi : i < vs.length := (List.getElem?_eq_some_iff.mp hv).1
  have e : qs[i]? = some (qs[i]'(by rw [← h.len]; exact hi)) := List.getElem?_eq_getElem _
  exact ⟨_, e, h.get i v _ hv e⟩
theorem ShLK.map {ps : List Pt} {f : Pt → Rat} {ys : List V} (hl : ys.length = ps.length) (h : ∀ (i : Nat) v, ys[i]? = some v → ∀ p, ps[i]? = some p → ShK K H v (f p)) : ShLK K H ys (ps.map f) := by
  refine ⟨by rw [hl, List.length_map], fun i v q e1 e2 => ?_⟩
  rw [List.getElem?_map] at e2
  cases e3 : ps[i]? with
  | none => rw [e3] at e2; cases e2
  | some p =>
    rw [e3] at e2
    cases e2
    exact h i v e1 p e3
theorem PtsK.take {ps : List Pt} (h : PtsK K H vs ps) (n : Nat) : PtsK K H (vs.take n) (ps.take n) := by
  refine ⟨by rw [List.length_take, List.length_take, h.len], fun i v p e1 e2 => ?_⟩
  rw [List.getElem?_take] at e1 e2
  by_cases hi : i < n
  · rw [if_pos hi] at e1 e2
    exact h.get i v p e1 e2
  · rw [if_neg hi] at e1; cases e1
end
noncomputable def spCommonK (K : PySem.W.Frag) : Sp := fun vs H Q _ => ∃ (a : Addr) (ws : List V) (qs : List Rat) (D : Int), vs = [.ref a] ∧ SqL K H a ws ∧ ShLK K H ws qs ∧ 0 < D ∧ Sz 9000 D ∧ (∀ q ∈ qs, (q.den : Int) ∣ D) ∧ qs.length ≤ 40 ∧
  ∀ (l : Addr) (bs : List Int) (H' : Hp), Same H H' → H' l = some (.lst (bs.map V.int)) → (∀ b ∈ bs, 0 < b ∧ Sz 9000 b) → (∀ q ∈ qs, (q.den : Int) ∣ prodI bs) → prodI bs ∣ D → bs.length ≤ qs.length → Q (.ref l) H'
noncomputable def spAxisK (K : PySem.W.Frag) : Sp := fun vs H Q _ => ∃ (a : Addr) (ws : List V) (qs : List Rat) (D : Int) (m : Nat), vs = [.ref a] ∧ SqL K H a ws ∧ ShLK K H ws qs ∧ 0 < D ∧ Sz 9000 D ∧ (∀ q ∈ qs, (q.den : Int) ∣ D ∧ Bd m q) ∧ m ≤ 9000 ∧ qs.length ≤ 40 ∧
  ∀ v tops bs H', Same H H' → AxV H' v (m + 9000) tops bs → axR tops bs = qs → bs.length ≤ qs.length → Q v H'
noncomputable def spAxesK (K : PySem.W.Frag) : Sp := fun vs H Q _ => ∃ (a : Addr) (ws : List V) (ps : List Pt) (D : Int) (m : Nat), vs = [.ref a] ∧ SqL K H a ws ∧ PtsK K H ws ps ∧ 0 < D ∧ Sz 9000 D ∧ (∀ p ∈ ps, ((p.1.den : Int) ∣ D ∧ Bd m p.1) ∧ (p.2.den : Int) ∣ D ∧ Bd m p.2) ∧ m ≤ 9000 ∧ ps.length ≤ 40 ∧
  ∀ c x y t1 b1 t2 b2 H', Same H H' → H' c = some (.tup [x, y]) → AxV H' x (m + 9000) t1 b1 → AxV H' y (m + 9000) t2 b2 → axR t1 b1 = ps.map (·.1) → axR t2 b2 = ps.map (·.2) → b1.length ≤ ps.length → b2.length ≤ ps.length → Q (.ref c) H'
noncomputable def spOf1K (K : PySem.W.Frag) : Sp := fun vs H Q _ => ∃ (a : Addr) (ws : List V) (ps : List Pt) (D : Int) (m : Nat), vs = [.ref a] ∧ SqL K H a ws ∧ PtsK K H ws ps ∧ Fine1 ps D m ∧
  ∀ (l : Addr) (us : List V) (H' : Hp), Same H H' → H l = none → H' l = some (.lst us) → PtsV H' us (ofP ps) → Q (.ref l) H'
theorem cut_takeN (us : List V) (n : Nat) (h : n ≤ us.length) : cutV us none (some (n : Int)) = us.take n := by
  unfold cutV
  rw [HT.sIx_none, HT.sIx_nat, Nat.min_eq_left h]
  simp
theorem PlsV.take {H : Hp} {vs : List V} {pl : List Pl} (h : PlsV H vs pl) (n : Nat) : PlsV H (vs.take n) (pl.take n) := by
  refine ⟨by rw [List.length_take, List.length_take, h.len], fun i v p e1 e2 => ?_⟩
  rw [List.getElem?_take] at e1 e2
  by_cases hi : i < n
  · rw [if_pos hi] at e1 e2
    exact h.get i v p e1 e2
  · rw [if_neg hi] at e1; cases e1
/-! ### onward -/
noncomputable def onP (ps : List Pt) (n : Nat) : List Pt := (List.range n).map (spQ ps true)
/-! ### promises -/
noncomputable def spOnP (K : PySem.W.Frag) : Sp := fun vs H Q _ => ∃ (a : Addr) (n k : Nat) (ws : List V) (ps : List Pt) (D : Int) (m : Nat), vs = [.ref a, .int (n : Int), .int (k : Int)] ∧ SqL K H a ws ∧ PtsV H ws ps ∧ Fine1 ps D m ∧ m ≤ 1000 ∧ Sz 1000 D ∧ k < n ∧ n ≤ 12 ∧
  ∀ (l : Addr) (us : List V) (H' : Hp), Same H H' → H l = none → H' l = some (.lst us) → PtsV H' us ((ofP (onP ps n)).take (k + 1)) → Q (.ref l) H'
noncomputable def spCommonL (K : PySem.W.Frag) : Sp := fun vs H Q _ => ∃ (a : Addr) (ws : List V) (ps : List Pt) (M : Int), vs = [.ref a] ∧ H a = some (.lst ws) ∧ PtsV H ws ps ∧ 0 < M ∧ Sz 1500 M ∧ (∀ p ∈ ps, ((p.1.den : Int) ∣ M ∧ Bd 1500 p.1) ∧ (p.2.den : Int) ∣ M ∧ Bd 1500 p.2) ∧ ps.length ≤ 40 ∧
  ∀ (c l : Addr) (us : List V) (pl : List Pl) (B : Int) (H' : Hp), Same H H' → H' c = some (.tup [.int B, .ref l]) → H' l = some (.lst us) → PlsV H' us pl → 0 < B → ptsOf B pl = ps → SzP 3000 pl → Q (.ref c) H'
noncomputable def spArePts (K : PySem.W.Frag) : Sp := fun vs H Q _ => ∃ (a : Addr) (n : Int) (ws : List V) (ps : List Pt), vs = [.ref a, .int n] ∧ H a = some (.lst ws) ∧ PtsV H ws ps ∧ n = (ps.length : Int) ∧ (∀ p ∈ ps, Bd 9000 p.1 ∧ Bd 9000 p.2) ∧ ∀ H', Same H H' → Q (.bl true) H'
noncomputable def spSpeedsB (K : PySem.W.Frag) : Sp := fun vs H Q _ => ∃ (e : Bool) (a : Addr) (m : Nat) (ws : List V) (pl : List Pl), vs = [.ref a, .int (m : Int), .int (if e then -1 else 0)] ∧ H a = some (.lst ws) ∧ PlsV H ws pl ∧ 1 ≤ pl.length ∧ pl.length ≤ 12 ∧ m ≤ 11 ∧ SzP 3000 pl ∧
  ∀ (l : Addr) (us : List V) (H' : Hp), Same H H' → H l = none → H' l = some (.lst us) → PlsV H' us ((List.range (m + 1)).map (spI2 pl e)) → Q (.ref l) H'
noncomputable def spGoodO (K : PySem.W.Frag) : Sp := fun vs H Q _ => ∃ (f c : Addr) (n k : Nat) (us ws : List V) (ps : List Pt) (D : Int) (m : Nat), vs = [.ref f, .ref c, .int (n : Int), .int (k : Int)] ∧ H f = some (.lst us) ∧ PtsV H us ((ofP (onP ps n)).take (k + 1)) ∧ H c = some (.lst ws) ∧ PtsV H ws ps ∧ Fine1 ps D m ∧ m ≤ 300 ∧ Sz 300 D ∧ k < n ∧ n ≤ 12 ∧ ∀ H', Same H H' → Q (.bl true) H'
end Cv

namespace Cv
open PySem PySem.Spec PyProof.Rows L2
/-! ### reversed(range(n)), walked -/
theorem sub_rgi_rev : isSubtype (.type "range_iterator") (.type "reversed") = pure false := by rw [isSubtype_type]; kernel_rfl
section
variable {prog : Program} {w : World} {A : Around} {E : Value → Shared → Prop} {s : Shared}
noncomputable abbrev downObj (n : Int) : Obj := { cls := .type "range_iterator", data := .fields #[rawInt (n - 1), rawInt n, rawInt (-1)] }
theorem range_rev {r : Addr} {n : Int} {t u v : Tok} {Q : Value → Shared → Prop} (hr : IsRange s.heap r 0 n 1 t u v) (h0 : 0 ≤ n) (h1 : n < 2 ^ 62)
    (h : Q (.ref s.heap.objs.size) { s with heap := s.heap.push (downObj n) }) : wpAny (model prog w) A (call (.builtin "range.__reversed__") [.ref r]) Q E s := by
  have hr' : s.heap.get? r = some { cls := .type "range", data := .fields #[.int 0 t, .int n u, .int 1 v] } := hr
  refine wpAny_call_entry F.slot_range_reversed ⟨_, hr', rfl⟩ F.entry_range_reversed ?_ (F.args_range_reversed_1 _)
  have hsz : Builtin.Range.rangeSize 0 n 1 = n := by rw [rangeSize_one]; split <;> omega
  unfold Builtin.«range.__reversed__»
  refine wpAny_bind (wpAny_of_eq (a := Value.ref r) rfl ?_)
  have fd : wpAny (model prog w) A.in1 (Builtin.Range.rangeFields (.ref r)) (fun x s' => x = (0, n, 1) ∧ s' = s) (fun _ _ => False) s := by
    unfold Builtin.Range.rangeFields
    refine wpAny_bind (wpAny_field hr' rfl (x := .int 0 t) rfl (wpAny_bind (wpAny_pure ?_)))
    refine wpAny_bind (wpAny_field hr' rfl (x := .int n u) rfl (wpAny_bind (wpAny_pure ?_)))
    refine wpAny_bind (wpAny_field hr' rfl (x := .int 1 v) rfl (wpAny_bind (wpAny_pure ?_)))
    exact wpAny_pure ⟨rfl, rfl⟩
  refine wpAny_bind (wpAny_mono fd (fun x s' hx => ?_) fun _ _ z => z.elim)
  obtain ⟨rfl, rfl⟩ := hx
  dsimp only
  have sm : (Builtin.Range.rangeFitsLong 0 && Builtin.Range.rangeFitsLong n && Builtin.Range.rangeFitsLong 1 && Builtin.Range.rangeFitsLong (-1) && Builtin.Range.rangeFitsLong (0 - 1) && Builtin.Range.rangeFitsLong (Builtin.Range.rangeSize 0 n 1)) = true := by
    rw [hsz]
    have e : Builtin.Range.rangeFitsLong n = true := by
      unfold Builtin.Range.rangeFitsLong
      rw [Bool.and_eq_true, decide_eq_true_eq, decide_eq_true_eq]
      omega
    rw [e]; decide
  rw [sm, hsz]
  have en : (0 : Int) + (n - 1) * 1 = n - 1 := by omega
  rw [en]
  unfold newFields
  exact wpAny_bind (wpAny_newObj_type (wpAny_pure ⟨_, rfl, h⟩))
theorem code_rev_range {r : Addr} {n : Int} {t u v : Tok} {Q₁ : Value → Shared → Prop} (hr : IsRange s.heap r 0 n 1 t u v) (h0 : 0 ≤ n) (h1 : n < 2 ^ 62)
    (h : Q₁ (.ref s.heap.objs.size) { s with heap := s.heap.push (downObj n) }) : codeAny (model prog w) A (.call (.builtin "reversed.__new__") ⟨[.type "reversed", .ref r], []⟩) (wants Q₁ E) s := by
  have hr' : s.heap.get? r = some { cls := .type "range", data := .fields #[.int 0 t, .int n u, .int 1 v] } := hr
  have ty : s.TypeIs (.ref r) "range" := ⟨_, hr', rfl⟩
  refine codeAny_of_tree ?_
  refine (show wpAny _ A.in1 (do checkBuiltinCall "reversed.__new__" ⟨[.type "reversed", .ref r], []⟩; again (.builtin "reversed.__new__" ⟨[.type "reversed", .ref r], []⟩)) _ _ s from ?_)
  refine wpAny_bind (wpAny_of_eq (F.newCall_reversed_1 _) (wpAny_pure ⟨plainId_quiet F.plain_reversed_new _, codeAny_builtin F.entry_reversed_new ?_⟩))
  rw [Around.under_plainId F.plain_reversed_new _]
  unfold Builtin.«reversed.__new__»
  refine wpAny_bind (wpAny_of_eq (newClass_reversed _) ?_)
  try dsimp only
  refine wpAny_bind (wpAny_of_eq (a := ()) (by first | rfl | kernel_rfl) ?_)
  refine wpAny_bind (wpAny_of_eq (a := ()) (by first | rfl | kernel_rfl) ?_)
  try dsimp only
  refine wpAny_bind (wpAny_specialOf ty F.slot_range_reversed.lookup ?_)
  try dsimp only
  refine wpAny_bind (wpAny_of_eq (F.slot_range_reversed.bind _) ?_)
  try dsimp only
  rw [if_neg (by decide +kernel)]
  refine wpAny_bind (wpAny_rule ?_)
  refine wpAny_bind (m := runValue (.call (.builtin "range.__reversed__") ⟨[.ref r], []⟩)) (show wpAny _ _ (call (.builtin "range.__reversed__") [.ref r]) _ _ _ from range_rev hr h0 h1 ?_)
  first
    | exact wpAny_pure h
    | exact wpAny_bind (wpAny_pure (wpAny_pure h))
theorem call_rev_range {r : Addr} {n : Int} {t u v : Tok} {Q : Value → Shared → Prop} (hr : IsRange s.heap r 0 n 1 t u v) (h0 : 0 ≤ n) (h1 : n < 2 ^ 62)
    (h : Q (.ref s.heap.objs.size) { s with heap := s.heap.push (downObj n) }) : wpAny (model prog w) A (call (.type "reversed") [.ref r]) Q E s := by
  refine callType_other (U := "range_iterator") (Q₁ := fun obj s₁ => obj = .ref s.heap.objs.size ∧ s₁ = { s with heap := s.heap.push (downObj n) }) (by decide +kernel) F.create_reversed ⟨_, _, F.mro_reversed⟩ F.made_reversed sub_rgi_rev (F.typeCall_reversed_1 _) (code_rev_range hr h0 h1 ⟨rfl, rfl⟩) ?_
  rintro obj s₁ ⟨rfl, rfl⟩
  exact ⟨⟨_, Heap.get?_push_size _ rfl, rfl⟩, h⟩
end
section
variable {X : Cx} {tg : Expr}
noncomputable def iRevR (ta : TA) : TI := fun σ H R => ta σ H fun vs H1 => ∃ n : Int, vs = [.int n] ∧ 0 ≤ n ∧ n < 2 ^ 62 ∧ R (Itd (n - 1) n.toNat) H1
theorem pi_revrange {e : Expr} {ta : TA} {p p2 pos pos2 : Pos} (hg : Gl X "reversed") (hm : X.mg "reversed" = none) (hg2 : Gl X "range") (hm2 : X.mg "range" = none) (ha : PA X [e] ta)
    (he : starEach [e] X.env = (false, eval e X.env) :: starEach [] X.env := by rfl) (hpl : (backTo pos2 (starEach [] X.env)).any (·.1) = false := by rfl)
    (he2 : starEach [.Call (.Name "range" p2) [e] [] pos2] X.env = (false, eval (.Call (.Name "range" p2) [e] [] pos2) X.env) :: starEach [] X.env := by rfl) (hpl2 : (backTo pos (starEach [] X.env)).any (·.1) = false := by rfl) :
    PI X tg (.Call (.Name "reversed" p) [.Call (.Name "range" p2) [e] [] pos2] [] pos) (iRevR ta) := by
  intro pins s σ H R I h
  refine wpAny_Call_Name_kw (ld_blt I hg hm boot_reversed ?_ (by decide) (by decide))
  refine PyProof.Rows.callWith_type1 ?_ he2 hpl2
  rw [he2]
  refine Calls.spliced_cons ?_
  refine wpAny_Call_Name_kw (ld_blt I hg2 hm2 boot_range ?_ (by decide) (by decide))
  refine PyProof.Rows.callWith_type1 (thn (ha pos2 pins s σ H _ I h) fun us s1 ⟨vs, H1, I1, r1, q1⟩ => ?_) he hpl
  obtain ⟨n, rfl, n0, n1, q⟩ := q1
  obtain ⟨u, rfl, e1⟩ := vals_one r1
  obtain ⟨t, rfl⟩ := e1
  refine call_range_1 ?_
  refine Calls.spliced_nil ?_
  have I2 : Inv X pins σ H1 { s1 with heap := s1.heap.push { cls := .type "range", data := .fields #[.int 0 s1.toks, .int n t, .int 1 (s1.toks + 1)] }, toks := s1.toks + 1 + 1 } := I1.kept fun b o e => Heap.get?_push_of_some _ e
  refine call_rev_range (s := { s1 with heap := s1.heap.push { cls := .type "range", data := .fields #[.int 0 s1.toks, .int n t, .int 1 (s1.toks + 1)] }, toks := s1.toks + 1 + 1 }) (IsRange.new ..) n0 n1 ?_
  have st : IsRangeIter (Heap.push (s1.heap.push { cls := .type "range", data := .fields #[.int 0 s1.toks, .int n t, .int 1 (s1.toks + 1)] }) (downObj n)) (s1.heap.push { cls := .type "range", data := .fields #[.int 0 s1.toks, .int n t, .int 1 (s1.toks + 1)] }).objs.size (n - 1 + ((0 : Nat) : Int) * (-1)) (((n.toNat : Nat) : Int) - ((0 : Nat) : Int)) (-1) := by
    rw [show n - 1 + ((0 : Nat) : Int) * (-1) = n - 1 by omega, show ((n.toNat : Nat) : Int) - ((0 : Nat) : Int) = n by omega]
    exact Heap.get?_push_size _ rfl
  refine wpAny_pyIter_rangeiter st ?_
  refine ⟨_, [_], _, _, H1, rfl, I2.kept (t' := s1.toks + 1 + 1) fun b o e => Heap.get?_push_of_some _ e, turn_down _ (n - 1) n.toNat, st, fun b hb => ?_, q⟩
  have e := List.mem_singleton.mp hb
  subst e
  exact I2.fpOk (Nat.le_refl _) (I2.hok.fresh (Nat.le_refl _))
theorem pi_revrangeI {e : Expr} {ta : TA} {p p2 pos pos2 : Pos} (hg : Gl X "reversed") (hm : X.mg "reversed" = none) (hg2 : Gl X "range") (hm2 : X.mg "range" = none) (ha : PAi X [e] ta)
    (he : starEach [e] X.env = (false, eval e X.env) :: starEach [] X.env := by rfl) (hpl : (backTo pos2 (starEach [] X.env)).any (·.1) = false := by rfl)
    (he2 : starEach [.Call (.Name "range" p2) [e] [] pos2] X.env = (false, eval (.Call (.Name "range" p2) [e] [] pos2) X.env) :: starEach [] X.env := by rfl) (hpl2 : (backTo pos (starEach [] X.env)).any (·.1) = false := by rfl) :
    PIi X tg (.Call (.Name "reversed" p) [.Call (.Name "range" p2) [e] [] pos2] [] pos) (iRevR ta) := by with_unfolding_all exact pi_revrange (hg := hg) (hm := hm) (hg2 := hg2) (hm2 := hm2) (ha := ha) (he := he) (hpl := hpl) (he2 := he2) (hpl2 := hpl2)
end
/-! ### e[:0:-1], a list -/
theorem pick_down (items : Array Value) : slicePick items none (some 0) (some (-1)) = (items.toList.drop 1).reverse.toArray := by
  unfold slicePick
  by_cases h : items.size = 0
  · have e : items = #[] := Array.eq_empty_of_size_eq_zero h
    subst e
    rfl
  · obtain ⟨m, hm⟩ : ∃ m, items.size = m + 1 := ⟨items.size - 1, by omega⟩
    have b : sliceBounds none (some 0) (some (-1)) items.size = ((m : Int), 0, -1) := by
      rw [hm]
      simp [sliceBounds]
      omega
    rw [b]
    have r : sliceRange (m : Int) 0 (-1) = ((List.range m).map (1 + ·)).reverse := by
      have c : (if (-1 : Int) > 0 then (if (m : Int) < 0 then (0 - (m : Int) + -1 - 1) / -1 else 0) else (if (m : Int) > 0 then ((m : Int) - 0 - -1 - 1) / (- -1) else 0)).toNat = m := by
        rw [if_neg (by decide)]
        by_cases h0 : (m : Int) > 0
        · rw [if_pos h0, show (- -1 : Int) = 1 by decide, Int.ediv_one]; omega
        · rw [if_neg h0]; omega
      unfold sliceRange
      dsimp only
      rw [c]
      refine List.ext_getElem (by simp) fun i h1 h2 => ?_
      rw [List.length_map, List.length_range] at h1
      rw [List.getElem_reverse]
      simp only [List.getElem_map, List.getElem_range, List.length_map, List.length_range]
      omega
    show ((sliceRange (m : Int) 0 (-1)).filterMap (items[·]?)).toArray = _
    rw [r, List.filterMap_reverse, pick_run items 1 m, List.take_of_length_le (by rw [List.length_drop, Array.length_toList]; omega)]
section
variable {X : Cx}
theorem vals_tail {xs : List V} {us : List Value} (r : Vals xs us) : Vals (xs.drop 1) (us.drop 1) := by
  cases r with
  | nil => exact .nil
  | cons p q => exact q
noncomputable def tTail (K : PySem.W.Frag) (te : TE) (tu ts : TO) : TE := fun σ H Q => te σ H fun x H1 => tu σ H1 fun u H2 => ts σ H2 fun o H3 => u = some 0 ∧ o = some (-1) ∧ ∃ (a : Addr) (xs : List V), x = .ref a ∧ SqL K H3 a xs ∧ ∀ l, H3 l = none → Q (.ref l) (upd H3 l (.lst (xs.drop 1).reverse))
theorem pe_tailback (K : PySem.W.Frag) {e up st : Expr} {te : TE} {tu ts : TO} {p2 pos : Pos} (he : PE X e te) (hu : PO X (some up) tu) (hs : PO X (some st) ts) (hK : X.K = K := by rfl) : PE X (.Subscript e (.Slice none (some up) (some st) p2) pos) (tTail K te tu ts) := by
  subst hK
  intro pins s σ H Q I h
  refine Subscript_ (thn (he pins s σ H _ I h) fun v s1 ⟨x, H1, I1, r1, q1⟩ => ?_)
  refine wpAny_Slice ?_
  rw [evalPart_none]
  refine wpAny_pure ?_
  refine thn (hu pins s1 σ H1 _ I1 q1) fun vu s2 ⟨o2, H2, I2, pu2, q2⟩ => ?_
  refine thn (hs pins s2 σ H2 _ I2 q2) fun vs s3 ⟨o, H3, I3, pu, q3⟩ => ?_
  obtain ⟨rfl, rfl, a, xs, rfl, hq, q⟩ := q3
  cases r1
  have I4 : Inv X pins σ H3 { s3 with heap := s3.heap.push { cls := .type "slice", data := .fields #[.none, vu, vs] } } := I3.kept (t' := s3.toks) fun b ob q => Heap.get?_push_of_some _ q
  obtain ⟨its, r, ht, hz⟩ := I4.list hq
  have hlen := r.length
  have rd : Vals (xs.drop 1).reverse (its.drop 1).reverse := (vals_tail r).reverse
  have hg : wpAny (model X.prog X.w) X.A (getItem (.ref a) (.ref s3.heap.objs.size)) (EP X pins σ Q) X.xe { s3 with heap := s3.heap.push { cls := .type "slice", data := .fields #[.none, vu, vs] } } := by
    refine wpAny_getItem_list_slice ht.isList (Heap.IsSliceOf.new ..) .none pu2 pu (by decide) ?_ (by rw [List.size_toArray] <;> omega)
    rw [pick_down]
    refine ⟨.ref _, _, I4.laid (t' := s3.toks) (o := .lst (xs.drop 1).reverse) (fun b ob q => Heap.get?_push_of_some _ q) (Nat.le_refl _) ?_, rfl, q _ (I4.hok.fresh (Nat.le_refl _))⟩
    exact ⟨by rw [List.length_reverse, List.length_drop]; omega, _, 0, rd, Heap.get?_push_size _ rfl⟩
  refine (show wpAny (model X.prog X.w) X.A (subscriptTail e (.Slice none (some up) (some st) p2) (.ref a) (.ref s3.heap.objs.size)) (EP X pins σ Q) X.xe { s3 with heap := s3.heap.push { cls := .type "slice", data := .fields #[.none, vu, vs] } } from ?_)
  exact tail_any (ops := [.ref a, .ref s3.heap.objs.size]) ht.isList.typeIs slot_list_getitem.lookup hg (by with_unfolding_all rfl)
theorem pe_tailbackI (K : PySem.W.Frag) {e up st : Expr} {te : TE} {tu ts : TO} {p2 pos : Pos} (he : PEi X e te) (hu : POi X (some up) tu) (hs : POi X (some st) ts) (hK : X.K = K := by rfl) : PEi X (.Subscript e (.Slice none (some up) (some st) p2) pos) (tTail K te tu ts) := by with_unfolding_all exact pe_tailback (K := K) (he := he) (hu := hu) (hs := hs) (hK := hK)
end
end Cv

namespace Cv
open PySem PySem.Spec PyProof.Rows L2
/-! ### through points: the steps beside them, by whole numbers -/
noncomputable def myN (n i : Nat) : Int := if i = 0 ∨ i + 1 = n then 2 else 4
noncomputable def wyN (n : Nat) (g : Nat → Int) (i : Nat) : Int := g (min (i + 1) (n - 1)) - g (i - 1)
noncomputable def sN (n : Nat) : Nat → Int
  | 0 => 0
  | 1 => 1
  | i + 2 => myN n i * sN n (i + 1) - sN n i
noncomputable def suN (n : Nat) (g : Nat → Int) : Nat → Int
  | 0 => 0
  | i + 1 => sN n (i + 1) * wyN n g i - suN n g i
/-- the same from the end: the pair of the next two -/
noncomputable def ttN (n : Nat) : Nat → Int × Int
  | 0 => (1, 0)
  | j + 1 => (myN n (n - 1 - j) * (ttN n j).1 - (ttN n j).2, (ttN n j).1)
noncomputable def vvN (n : Nat) (g : Nat → Int) : Nat → Int
  | 0 => 0
  | j + 1 => (ttN n j).1 * wyN n g (n - 1 - j) - vvN n g j
theorem my_lo (n i : Nat) : 2 ≤ myN n i ∧ myN n i ≤ 4 := by unfold myN; split <;> omega
theorem sN_up (n : Nat) : ∀ i, 0 ≤ sN n i ∧ sN n i < sN n (i + 1)
  | 0 => ⟨by show (0 : Int) ≤ 0; decide, by show (0 : Int) < 1; decide⟩
  | i + 1 => by
    obtain ⟨h1, h2⟩ := sN_up n i
    obtain ⟨m1, m2⟩ := my_lo n i
    refine ⟨by omega, ?_⟩
    show sN n (i + 1) < myN n i * sN n (i + 1) - sN n i
    have : 2 * sN n (i + 1) ≤ myN n i * sN n (i + 1) := Int.mul_le_mul_of_nonneg_right m1 (by omega)
    omega
theorem sN_pos (n i : Nat) : 0 < sN n (i + 1) := by have := sN_up n i; omega
theorem sN_sz (n : Nat) : ∀ i, Sz (2 * i + 1) (sN n i)
  | 0 => ⟨by show 0 < 2 ^ 1; decide⟩
  | 1 => ⟨by show 1 < 2 ^ 3; decide⟩
  | i + 2 => by
    have h := sN_sz n (i + 1)
    have u0 := sN_up n i
    have u1 : 0 ≤ sN n (i + 1) ∧ sN n (i + 1) < sN n (i + 2) := sN_up n (i + 1)
    obtain ⟨m1, m2⟩ := my_lo n i
    have e : sN n (i + 2) ≤ 4 * sN n (i + 1) := by
      show myN n i * sN n (i + 1) - sN n i ≤ _
      have : myN n i * sN n (i + 1) ≤ 4 * sN n (i + 1) := Int.mul_le_mul_of_nonneg_right m2 (by omega)
      omega
    refine ⟨?_⟩
    have hl := h.lt
    have e2 : (sN n (i + 2)).natAbs ≤ 4 * (sN n (i + 1)).natAbs := by omega
    have e3 : 2 ^ (2 * (i + 2) + 1) = 4 * 2 ^ (2 * (i + 1) + 1) := by
      rw [show 2 * (i + 2) + 1 = 2 * (i + 1) + 1 + 2 by omega, Nat.pow_add]; omega
    omega
theorem tt_id (n : Nat) : ∀ j, j ≤ n → sN n (n - j + 1) * (ttN n j).1 - sN n (n - j) * (ttN n j).2 = sN n (n + 1)
  | 0, _ => by show sN n (n + 1) * 1 - sN n n * 0 = _; omega
  | j + 1, hj => by
    have ih := tt_id n j (by omega)
    obtain ⟨k, hk⟩ : ∃ k, n - j = k + 1 := ⟨n - j - 1, by omega⟩
    have e1 : n - (j + 1) = k := by omega
    have e2 : n - 1 - j = k := by omega
    rw [hk] at ih
    rw [e1]
    show sN n (k + 1) * (myN n (n - 1 - j) * (ttN n j).1 - (ttN n j).2) - sN n k * (ttN n j).1 = _
    rw [e2, ← ih]
    show _ = (myN n k * sN n (k + 1) - sN n k) * (ttN n j).1 - sN n (k + 1) * (ttN n j).2
    grind
/-- the steps, each as many times as the last size -/
noncomputable def xxN (n : Nat) (g : Nat → Int) (k : Nat) : Int := sN n (k + 1) * vvN n g (n - k) - (ttN n (n - k)).2 * suN n g k
theorem xx_end (n : Nat) (g : Nat → Int) : xxN n g n = 0 := by
  unfold xxN
  rw [Nat.sub_self]
  show sN n (n + 1) * 0 - 0 * _ = 0
  omega
theorem xx_back (n : Nat) (g : Nat → Int) {k : Nat} (hk : k < n) : sN n (k + 2) * xxN n g k = sN n (n + 1) * suN n g (k + 1) - sN n (k + 1) * xxN n g (k + 1) := by
  obtain ⟨j, hj⟩ : ∃ j, n - k = j + 1 := ⟨n - k - 1, by omega⟩
  have hj2 : n - (k + 1) = j := by omega
  have hkj : n - 1 - j = k := by omega
  have id := tt_id n j (by omega)
  rw [show n - j = k + 1 by omega] at id
  unfold xxN
  rw [hj, hj2]
  show sN n (k + 2) * (sN n (k + 1) * ((ttN n j).1 * wyN n g (n - 1 - j) - vvN n g j) - (ttN n j).1 * suN n g k) = sN n (n + 1) * (sN n (k + 1) * wyN n g k - suN n g k) - sN n (k + 1) * (sN n (k + 1 + 1) * vvN n g j - (ttN n j).2 * (sN n (k + 1) * wyN n g k - suN n g k))
  rw [hkj, ← id]
  grind
theorem xx_first (n : Nat) (g : Nat → Int) (hn : 1 ≤ n) : myN n 0 * xxN n g 0 + xxN n g 1 = sN n (n + 1) * wyN n g 0 := by
  have h := xx_back n g (k := 0) (by omega)
  have e2 : sN n (0 + 2) = myN n 0 := by show myN n 0 * 1 - 0 = _; omega
  have e1 : sN n (0 + 1) = 1 := rfl
  have e3 : suN n g (0 + 1) = wyN n g 0 := by show sN n 1 * wyN n g 0 - 0 = _; rw [show sN n 1 = 1 from rfl]; omega
  rw [e2, e1, e3] at h
  have h' : myN n 0 * xxN n g 0 = sN n (n + 1) * wyN n g 0 - 1 * xxN n g 1 := h
  omega
theorem xx_mid (n : Nat) (g : Nat → Int) {k : Nat} (hk : k + 1 < n) : xxN n g k + myN n (k + 1) * xxN n g (k + 1) + xxN n g (k + 2) = sN n (n + 1) * wyN n g (k + 1) := by
  have h1 := xx_back n g (k := k) (by omega)
  have h2 := xx_back n g (k := k + 1) hk
  have hp : 0 < sN n (k + 2) := sN_pos n (k + 1)
  have key : sN n (k + 2) * (xxN n g k + myN n (k + 1) * xxN n g (k + 1) + xxN n g (k + 2)) = sN n (k + 2) * (sN n (n + 1) * wyN n g (k + 1)) := by
    have e3 : sN n (k + 1 + 2) = myN n (k + 1) * sN n (k + 2) - sN n (k + 1) := rfl
    have e4 : suN n g (k + 1 + 1) = sN n (k + 2) * wyN n g (k + 1) - suN n g (k + 1) := rfl
    rw [e3, e4] at h2
    have h2' : (myN n (k + 1) * sN n (k + 2) - sN n (k + 1)) * xxN n g (k + 1) = sN n (n + 1) * (sN n (k + 2) * wyN n g (k + 1) - suN n g (k + 1)) - sN n (k + 2) * xxN n g (k + 2) := h2
    grind
  exact Int.eq_of_mul_eq_mul_left (by omega) key
theorem wy_sz {n N : Nat} {g : Nat → Int} (hg : ∀ j, j < n → Sz N (g j)) {i : Nat} (hi : i < n) : Sz (N + 1) (wyN n g i) := by
  unfold wyN
  exact ((hg _ (by omega)).sub (hg _ (by omega))).mono (by omega)
theorem su_sz {n N : Nat} {g : Nat → Int} (hg : ∀ j, j < n → Sz N (g j)) : ∀ i, i ≤ n → Sz (N + 3 * i + 5) (suN n g i)
  | 0, _ => ⟨by show 0 < _; exact Nat.two_pow_pos _⟩
  | i + 1, hi => by
    have h := su_sz hg i (by omega)
    have s := sN_sz n (i + 1)
    have w := wy_sz hg (i := i) (by omega)
    exact ((s.mul w).sub h).mono (by omega)
/-- walked over a zip whose lists stay -/
theorem for_zip {K : PySem.W.Frag} {l1 l2 : Addr} {xs ys : List V} {g : TG} {tb : TS} {D : Ends} {σ : L2.St} {H : Hp} (Pv : Nat → L2.St → Hp → Prop) (h0 : Pv 0 σ H) (hl : ∀ i σ H, Pv i σ H → SqL K H l1 xs ∧ SqL K H l2 ys)
    (hs : ∀ i a σ H H', i < min xs.length ys.length → Pv i σ H → Same H H' → SqT K H' a [(xs[i]?).getD .non, (ys[i]?).getD .non] → g (.ref a) σ H' fun σ2 H2 => tb { D with nx := Pv (i + 1), ct := Pv (i + 1), bk := D.nx } σ2 H2) (hd : ∀ σ H, Pv (min xs.length ys.length) σ H → D.nx σ H) :
    ∃ W : Nat → Nat → L2.St → Hp → Prop, (∃ m, W 0 m σ H) ∧ ∀ i m σ H, W i m σ H →
      ((Itz K l1 l2).stop i H ∧ D.nx σ H) ∨ ((Itz K l1 l2).go i H ∧ ∃ N : L2.St → Hp → Prop, (∀ σ' H', N σ' H' → ∃ m', m' < m ∧ W (i + 1) m' σ' H') ∧ ∀ x H', (Itz K l1 l2).yld i H x H' → g x σ H' fun σ2 H2 => tb { D with nx := N, ct := N, bk := D.nx } σ2 H2) := by
  refine ⟨fun i m σ H => m = min xs.length ys.length - i ∧ i ≤ min xs.length ys.length ∧ Pv i σ H, ⟨min xs.length ys.length, by simp, Nat.zero_le _, h0⟩, ?_⟩
  rintro i m σ H ⟨rfl, hi, p⟩
  obtain ⟨q1, q2⟩ := hl i σ H p
  have q := plain_zip q1 q2 H (L2.Same.refl _) i
  by_cases hlt : i < min xs.length ys.length
  · obtain ⟨go, yl⟩ := q.1 hlt
    refine .inr ⟨go, Pv (i + 1), fun σ' H' p' => ⟨min xs.length ys.length - (i + 1), by omega, rfl, hlt, p'⟩, fun x H' y => ?_⟩
    obtain ⟨s', a, rfl, ht⟩ := yl x H' y
    exact hs i a σ H H' hlt p s' ht
  · have e : i = min xs.length ys.length := by omega
    exact .inl ⟨q.2 e, hd σ H (by rw [← e]; exact p)⟩
end Cv
namespace Cv
open PySem PySem.Spec PyProof.Rows L2
theorem for_down {lo : Int} {n : Nat} {g : TG} {tb : TS} {D : Ends} {σ : L2.St} {H : Hp} (Pv : Nat → L2.St → Hp → Prop) (h0 : Pv 0 σ H)
    (hs : ∀ i σ H, i < n → Pv i σ H → g (.int (lo - (i : Int))) σ H fun σ2 H2 => tb { D with nx := Pv (i + 1), ct := Pv (i + 1), bk := D.nx } σ2 H2) (hd : ∀ σ H, Pv n σ H → D.nx σ H) :
    ∃ W : Nat → Nat → L2.St → Hp → Prop, (∃ m, W 0 m σ H) ∧ ∀ i m σ H, W i m σ H →
      ((Itd lo n).stop i H ∧ D.nx σ H) ∨ ((Itd lo n).go i H ∧ ∃ N : L2.St → Hp → Prop, (∀ σ' H', N σ' H' → ∃ m', m' < m ∧ W (i + 1) m' σ' H') ∧ ∀ x H', (Itd lo n).yld i H x H' → g x σ H' fun σ2 H2 => tb { D with nx := N, ct := N, bk := D.nx } σ2 H2) := by
  refine ⟨fun i m σ H => m = n - i ∧ i ≤ n ∧ Pv i σ H, ⟨n, by simp, Nat.zero_le _, h0⟩, ?_⟩
  rintro i m σ H ⟨rfl, hi, p⟩
  by_cases hlt : i < n
  · refine .inr ⟨hlt, Pv (i + 1), fun σ' H' p' => ⟨n - (i + 1), by omega, rfl, hlt, p'⟩, fun x H' y => ?_⟩
    obtain ⟨rfl, rfl⟩ := y
    exact hs i σ _ hlt p
  · have e : i = n := by omega
    subst e
    exact .inl ⟨Nat.le_refl _, hd σ H p⟩
/-! ### the lists of steps_beside -/
noncomputable def wdN (t : List Int) : List Int := t.take 1 ++ t ++ t.drop (t.length - 1)
theorem wd_len {t : List Int} (h : 1 ≤ t.length) : (wdN t).length = t.length + 2 := by unfold wdN; simp; omega
theorem wd_get {t : List Int} (h : 1 ≤ t.length) {j : Nat} (hj : j ≤ t.length + 1) : (wdN t)[j]? = some (gI t (min (j - 1) (t.length - 1))) := by
  unfold wdN
  have lt : (t.take 1).length = 1 := by rw [List.length_take]; omega
  have gg : ∀ i, i < t.length → t[i]? = some (gI t i) := fun i hi => by unfold gI; rw [List.getElem?_eq_getElem hi]; rfl
  by_cases h0 : j = 0
  · subst h0
    rw [List.append_assoc, List.getElem?_append_left (by omega), List.getElem?_take, if_pos (by decide)]
    rw [show min (0 - 1) (t.length - 1) = 0 by omega]
    exact gg 0 (by omega)
  · by_cases h1 : j ≤ t.length
    · rw [List.append_assoc, List.getElem?_append_right (by omega), lt, List.getElem?_append_left (by omega), show min (j - 1) (t.length - 1) = j - 1 by omega]
      exact gg (j - 1) (by omega)
    · rw [List.getElem?_append_right (by rw [List.length_append]; omega), List.length_append, lt, show j - (1 + t.length) = 0 by omega, List.getElem?_drop, show min (j - 1) (t.length - 1) = t.length - 1 by omega]
      exact gg (t.length - 1) (by omega)
theorem way_eq {t : List Int} (h : 1 ≤ t.length) {i : Nat} (hi : i < t.length) : gI t (min (i + 2 - 1) (t.length - 1)) - gI t (min (i - 1) (t.length - 1)) = wyN t.length (gI t) i := by
  unfold wyN
  rw [show i + 2 - 1 = i + 1 by omega, show min (i - 1) (t.length - 1) = i - 1 by omega]
noncomputable def mmN (n : Nat) : List Int := [2] ++ List.replicate (n - 2) 4 ++ [2]
theorem mm_len {n : Nat} (h : 2 ≤ n) : (mmN n).length = n := by unfold mmN; simp; omega
theorem mm_get {n i : Nat} (h : 2 ≤ n) (hi : i < n) : (mmN n)[i]? = some (myN n i) := by
  unfold mmN myN
  by_cases h0 : i = 0
  · subst h0; rw [if_pos (.inl rfl)]; rfl
  · by_cases h1 : i + 1 = n
    · rw [if_pos (.inr h1), List.getElem?_append_right (by simp; omega)]
      have : i - ([2] ++ List.replicate (n - 2) (4 : Int)).length = 0 := by simp; omega
      rw [this]; rfl
    · rw [if_neg (by omega), List.append_assoc, List.getElem?_append_right (by simp; omega), List.length_singleton, List.getElem?_append_left (by rw [List.length_replicate]; omega), List.getElem?_replicate, if_pos (by omega)]
theorem cut_lastI (t : List Int) (h : 1 ≤ t.length) : cutV (t.map V.int) (some (-1)) none = (t.drop (t.length - 1)).map V.int := by
  unfold cutV
  have e : HT.sIx (t.map V.int).length 0 (some (-1)) = t.length - 1 := by
    simp [HT.sIx]; omega
  rw [e, HT.sIx_none, ← List.map_drop]
  refine List.take_of_length_le ?_
  simp
theorem cut_firstI (t : List Int) (n : Nat) (h : n ≤ t.length) : cutV (t.map V.int) none (some (n : Int)) = (t.take n).map V.int := by
  rw [cut_takeN _ n (by rw [List.length_map]; exact h), List.map_take]
theorem ints_last {f : Nat → Int} (n : Nat) : atI (((List.range (n + 1)).map f).map V.int) (-1) = some (.int (f n)) := by
  refine atI_last' _ _ ?_ (by simp)
  rw [List.length_map, List.length_map, List.length_range, Nat.add_sub_cancel, List.getElem?_map, List.getElem?_map, List.getElem?_range (by omega)]; rfl
theorem intsR_at {f : Nat → Int} {n k : Nat} {i : Int} (e : i = (k : Int)) (h : k < n) : atI (((List.range n).map f).map V.int) i = some (.int (f k)) := by
  refine atI_nat' (j := k) e ?_
  rw [List.getElem?_map, List.getElem?_map, List.getElem?_range h]; rfl
theorem ints_last2 {f : Nat → Int} (n : Nat) : atI (((List.range (n + 2)).map f).map V.int) (-2) = some (.int (f n)) := by
  have h : atI (((List.range (n + 2)).map f).map V.int) (-2) = (((List.range (n + 2)).map f).map V.int)[n]? := by
    unfold atI
    have e : ixN (((List.range (n + 2)).map f).map V.int).length (-2) = some n := by
      rw [List.length_map, List.length_map, List.length_range]
      unfold ixN
      rw [if_neg (by decide), if_pos (by omega)]
      congr 1; omega
    rw [e]; rfl
  rw [h, List.getElem?_map, List.getElem?_map, List.getElem?_range (by omega)]; rfl
noncomputable def spSteps (K : PySem.W.Frag) : Sp := fun vs H Q _ => ∃ (a : Addr) (t : List Int) (N : Nat), vs = [.ref a] ∧ H a = some (.lst (t.map V.int)) ∧ 2 ≤ t.length ∧ t.length ≤ 12 ∧ (∀ x ∈ t, Sz N x) ∧ N ≤ 20000 ∧
  ∀ (c lf : Addr) (H' : Hp), Same H H' → H' c = some (.tup [.ref lf, .int (sN t.length (t.length + 1))]) → H' lf = some (.lst (((List.range t.length).map (xxN t.length (gI t))).map V.int)) → (∀ k, k ≤ t.length → Sz (N + 500) (xxN t.length (gI t) k)) → Q (.ref c) H'
end Cv
namespace Cv
open PySem PySem.Spec PyProof.Rows L2
theorem xx_sz {n N : Nat} {g : Nat → Int} (hn : n ≤ 12) (hg : ∀ j, j < n → Sz N (g j)) : ∀ j, j ≤ n → Sz (N + 100 + j) (xxN n g (n - j))
  | 0, _ => by rw [Nat.sub_zero, xx_end]; exact ⟨Nat.two_pow_pos _⟩
  | j + 1, hj => by
    have ih := xx_sz hn hg j (by omega)
    obtain ⟨k, hk⟩ : ∃ k, n - (j + 1) = k := ⟨_, rfl⟩
    have hk1 : n - j = k + 1 := by omega
    rw [hk1] at ih
    rw [hk]
    have h := xx_back n g (k := k) (by omega)
    have p1 := sN_up n (k + 1)
    have p0 := sN_up n k
    have zz : Sz (N + 99) (sN n (n + 1) * suN n g (k + 1)) := ((sN_sz n (n + 1)).mul (su_sz hg (k + 1) (by omega))).mono (by omega)
    have ha := congrArg Int.natAbs h
    rw [Int.natAbs_mul] at ha
    have h1 : (sN n (n + 1) * suN n g (k + 1) - sN n (k + 1) * xxN n g (k + 1)).natAbs ≤ (sN n (n + 1) * suN n g (k + 1)).natAbs + (sN n (k + 1)).natAbs * (xxN n g (k + 1)).natAbs := by
      rw [← Int.natAbs_mul]; omega
    have h2 : (sN n (k + 1)).natAbs ≤ (sN n (k + 2)).natAbs := by
      have : sN n (k + 1) < sN n (k + 2) := p1.2
      omega
    have h3 : 1 ≤ (sN n (k + 2)).natAbs := by
      have : sN n (k + 1) < sN n (k + 2) := p1.2
      omega
    have h4 : (sN n (k + 2)).natAbs * (xxN n g k).natAbs ≤ (sN n (k + 2)).natAbs * ((sN n (n + 1) * suN n g (k + 1)).natAbs + (xxN n g (k + 1)).natAbs) := by
      rw [Nat.mul_add, ha]
      refine Nat.le_trans h1 (Nat.add_le_add ?_ (Nat.mul_le_mul_right _ h2))
      exact Nat.le_mul_of_pos_left _ h3
    have h5 := Nat.le_of_mul_le_mul_left h4 h3
    have hl := zz.lt
    have hi := ih.lt
    refine ⟨?_⟩
    have e1 : 2 ^ (N + 100 + (j + 1)) = 2 * 2 ^ (N + 100 + j) := by rw [show N + 100 + (j + 1) = N + 100 + j + 1 by omega, Nat.pow_succ]; omega
    have e2 : 2 ^ (N + 99) ≤ 2 ^ (N + 100 + j) := Nat.pow_le_pow_right (by decide) (by omega)
    omega
theorem ints_ext {ys : List V} {n : Nat} {f : Nat → Int} (hl : ys.length = n) (h : ∀ i (v : V), ys[i]? = some v → v = V.int (f i)) : ys = ((List.range n).map f).map V.int := by
  refine List.ext_getElem? fun i => ?_
  by_cases hi : i < n
  · rw [List.getElem?_map, List.getElem?_map, List.getElem?_range hi, List.getElem?_eq_getElem (by omega)]
    rw [h i _ (List.getElem?_eq_getElem (by omega))]; rfl
  · rw [List.getElem?_eq_none (by omega), List.getElem?_eq_none (by rw [List.length_map, List.length_map, List.length_range]; omega)]
theorem xx_fdiv (n : Nat) (g : Nat → Int) {k : Nat} (hk : k < n) : (sN n (n + 1) * suN n g (k + 1) - sN n (k + 1) * xxN n g (k + 1)).fdiv (sN n (k + 2)) = xxN n g k := by
  rw [← xx_back n g hk, Int.mul_comm]
  have hp : 0 < sN n (k + 2) := sN_pos n (k + 1)
  rw [Int.mul_fdiv_cancel _ (by omega)]
theorem back_list (n : Nat) (f : Nat → Int) : ((((List.range (n + 1)).map fun j => f (n - j)).map V.int).drop 1).reverse = ((List.range n).map f).map V.int := by
  refine List.ext_getElem? fun i => ?_
  by_cases hi : i < n
  · rw [List.getElem?_reverse (by simp; omega), List.getElem?_drop, List.getElem?_map, List.getElem?_map, List.getElem?_range (by simp; omega), List.getElem?_map, List.getElem?_map, List.getElem?_range hi]
    simp
    congr 1
    omega
  · rw [List.getElem?_eq_none (by simp; omega), List.getElem?_eq_none (by simp; omega)]
end Cv
namespace Cv
open PySem PySem.Spec PyProof.Rows L2
theorem fours (t : List Int) (h : 2 ≤ t.length) : [V.int 2] ++ (List.replicate (((t.map V.int).length : Int) - 2).toNat [V.int 4]).flatten ++ [V.int 2] = (mmN t.length).map V.int := by
  rw [flat_rep, List.length_map, show ((t.length : Int) - 2).toNat = t.length - 2 by omega]
  unfold mmN
  rw [List.map_append, List.map_append, List.map_replicate]; rfl
end Cv
namespace Cv
open PySem PySem.Spec PyProof.Rows L2
noncomputable def bhN (t : List Int) : List Int := (List.range t.length).map fun k => gI t k * sN t.length (t.length + 1) + xxN t.length (gI t) k
noncomputable def ahN (t : List Int) : List Int := (List.range t.length).map fun k => gI t k * sN t.length (t.length + 1) - xxN t.length (gI t) k
theorem gI_get {t : List Int} {j : Nat} (hj : j < t.length) : t[j]? = some (gI t j) := by unfold gI; rw [List.getElem?_eq_getElem hj]; rfl
noncomputable def spAxB (K : PySem.W.Frag) : Sp := fun vs H Q _ => ∃ (x : V) (n : Nat) (t bs : List Int), vs = [x] ∧ AxV H x n t bs ∧ 2 ≤ t.length ∧ t.length ≤ 12 ∧ n ≤ 20000 ∧ bs.length < 100 ∧
  ∀ (c : Addr) (u v : V) (H' : Hp), Same H H' → H' c = some (.tup [u, v]) → AxV H' u (n + 600) (bhN t) (bs ++ [sN t.length (t.length + 1)]) → AxV H' v (n + 600) (ahN t) (bs ++ [sN t.length (t.length + 1)]) → Q (.ref c) H'
theorem bh_sz {t : List Int} {n : Nat} (h12 : t.length ≤ 12) (zt : ∀ x ∈ t, Sz n x) (zx : ∀ k, k ≤ t.length → Sz (n + 500) (xxN t.length (gI t) k)) : (∀ x ∈ bhN t, Sz (n + 600) x) ∧ ∀ x ∈ ahN t, Sz (n + 600) x := by
  have key : ∀ k, k < t.length → Sz (n + 27) (gI t k * sN t.length (t.length + 1)) := fun k hk => ((zt _ (List.mem_of_getElem? (gI_get hk))).mul (sN_sz _ (t.length + 1))).mono (by omega)
  constructor
  · intro x hx
    obtain ⟨k, hk, rfl⟩ := List.mem_map.mp hx
    have hk := List.mem_range.mp hk
    exact ((key k hk).add (zx k (by omega))).mono (by omega)
  · intro x hx
    obtain ⟨k, hk, rfl⟩ := List.mem_map.mp hx
    have hk := List.mem_range.mp hk
    exact ((key k hk).sub (zx k (by omega))).mono (by omega)
end Cv

namespace Cv
open PySem PySem.Spec PyProof.Rows L2
/-! ### lists of new lists -/
structure LsV (H1 H2 : Hp) (D : Addr) (ys : List V) (R : Nat → List V → Hp → Prop) : Prop where
  get : ∀ (i : Nat) (v : V), ys[i]? = some v → ∃ (l : Addr) (xs : List V), v = V.ref l ∧ H1 l = none ∧ l ≠ D ∧ H2 l = some (HO.lst xs) ∧ R i xs H2
  one : ∀ (i j : Nat) (v : V), ys[i]? = some v → ys[j]? = some v → i = j
section
variable {K : PySem.W.Frag} {J : It} {H1 : Hp} {te : TE} {cs : L2.St} {Q : VK} {n : Nat}
theorem compL {f : Nat → V} (hJ : Plain1 J H1 n f) (hn : n ≤ 100000) (R : Nat → List V → Hp → Prop) (hR : ∀ i v H H', Tup H H' → R i v H → R i v H')
    (he : ∀ i H2 (k : VK), i < n → Same H1 H2 → (∀ l xs H3, Same H2 H3 → H2 l = none → H3 l = some (.lst xs) → R i xs H3 → k (.ref l) H3) → te (some (f i) :: cs) H2 k)
    (hq : ∀ D ys H2, H1 D = none → Same H1 H2 → H2 D = some (.lst ys) → ys.length = n → LsV H1 H2 D ys R → Q (.ref D) H2) :
    CompGoal 1 J H1 (gName 0) te cs Q := by
  intro D hD
  refine ⟨fun i m ys H2 => m = n - i ∧ i ≤ n ∧ ys.length = i ∧ Same H1 H2 ∧ H2 D = some (.lst ys) ∧ LsV H1 H2 D ys R, ⟨n, by simp, Nat.zero_le _, rfl, Same.new hD, upd_same, ⟨fun j v e => by simp at e, fun i j v e => by simp at e⟩⟩, ?_⟩
  rintro i m ys H2 ⟨rfl, hi, hl, s2, d2, r2⟩
  by_cases hlt : i < n
  · refine .inr ⟨((hJ H2 s2 i).1 hlt).1, fun x H' y own ho => ?_⟩
    obtain ⟨rfl, rfl⟩ := ((hJ H2 s2 i).1 hlt).2 x H' y
    cases own with
    | nil => cases ho
    | cons o1 r =>
      cases r with
      | cons _ _ => cases ho
      | nil =>
        refine ⟨⟨[some (f i)], rfl, rfl⟩, he i _ _ hlt s2 fun l xs H3 s3 hl0 hl3 r3 => ⟨s3 _ _ d2, small_line (by omega), n - (i + 1), by omega, rfl, hlt, by rw [List.length_append, hl]; rfl, fun b o e => ?_, upd_same, ?_⟩⟩
        · rw [upd_ne (ne_of_none e hD)]; exact s3 _ _ (s2 _ _ e)
        · have t3 : Tup H3 (upd H3 D (.lst (ys ++ [V.ref l]))) := Tup.lst (s3 _ _ d2)
          have nD : l ≠ D := fun e => by rw [e, d2] at hl0; cases hl0
          have snocc : ∀ j w, (ys ++ [V.ref l])[j]? = some w → (ys[j]? = some w ∧ j < i) ∨ (j = i ∧ w = V.ref l) := fun j w e => by
            by_cases hj : j < ys.length
            · rw [List.getElem?_append_left hj] at e
              exact .inl ⟨e, by omega⟩
            · rw [List.getElem?_append_right (by omega)] at e
              have hj0 : j - ys.length = 0 := by
                cases q : j - ys.length with
                | zero => rfl
                | succ k => rw [q] at e; simp at e
              rw [hj0] at e
              exact .inr ⟨by omega, by simpa using e.symm⟩
          refine ⟨fun j w e => ?_, fun j1 j2 w e1 e2 => ?_⟩
          · rcases snocc j w e with ⟨e, _⟩ | ⟨rfl, rfl⟩
            · obtain ⟨l', xs', rfl, a1, a2, a3, a4⟩ := r2.get j w e
              exact ⟨l', xs', rfl, a1, a2, by rw [upd_ne a2]; exact s3 _ _ a3, hR _ _ _ _ (s3.tup.trans t3) a4⟩
            · exact ⟨l, xs, rfl, s2.free hl0, nD, by rw [upd_ne nD]; exact hl3, hR _ _ _ _ t3 r3⟩
          · rcases snocc j1 w e1 with ⟨f1, g1⟩ | ⟨rfl, rfl⟩
            · rcases snocc j2 w e2 with ⟨f2, g2⟩ | ⟨rfl, rfl⟩
              · exact r2.one j1 j2 w f1 f2
              · obtain ⟨l', xs', e', a1, a2, a3, a4⟩ := r2.get j1 _ f1
                cases e'
                rw [a3] at hl0; cases hl0
            · rcases snocc j2 _ e2 with ⟨f2, g2⟩ | ⟨rfl, _⟩
              · obtain ⟨l', xs', e', a1, a2, a3, a4⟩ := r2.get j2 _ f2
                cases e'
                rw [a3] at hl0; cases hl0
              · rfl
  · have e : i = n := by omega
    subst e
    exact .inl ⟨(hJ H2 s2 i).2 rfl, hq D ys H2 hD s2 d2 hl r2⟩
end
/-! ### the curves through points -/
noncomputable def dX (t : List Int) (W : Int) (k : Nat) : Rat := Rat.divInt (xxN t.length (gI t) k) (W * sN t.length (t.length + 1))
structure Spl (N : Nat) (q d : Nat → Rat) : Prop where
  first : 2 * d 0 + d 1 = q 1 - q 0
  mid : ∀ k, k + 2 < N → d k + 4 * d (k + 1) + d (k + 2) = q (k + 2) - q k
  last : d (N - 2) + 2 * d (N - 1) = q (N - 1) - q (N - 2)
theorem fr_first {W S a b g h : Int} (hW : 0 < W) (hS : 0 < S) (e : 2 * a + b = S * (g - h)) : 2 * Rat.divInt a (W * S) + Rat.divInt b (W * S) = Rat.divInt g W - Rat.divInt h W := by
  have e' : 2 * (a : Rat) + (b : Rat) = (S : Rat) * ((g : Rat) - (h : Rat)) := by exact_mod_cast congrArg (Int.cast : Int → Rat) e
  have w0 : (W : Rat) ≠ 0 := fun z => by have := Rat.intCast_inj.mp (z.trans (Rat.intCast_zero).symm); omega
  have s0 : (S : Rat) ≠ 0 := fun z => by have := Rat.intCast_inj.mp (z.trans (Rat.intCast_zero).symm); omega
  simp only [divInt_cast, Rat.intCast_mul]
  grind
theorem fr_mid {W S a b c g h : Int} (hW : 0 < W) (hS : 0 < S) (e : a + 4 * b + c = S * (g - h)) : Rat.divInt a (W * S) + 4 * Rat.divInt b (W * S) + Rat.divInt c (W * S) = Rat.divInt g W - Rat.divInt h W := by
  have e' : (a : Rat) + 4 * (b : Rat) + (c : Rat) = (S : Rat) * ((g : Rat) - (h : Rat)) := by exact_mod_cast congrArg (Int.cast : Int → Rat) e
  have w0 : (W : Rat) ≠ 0 := fun z => by have := Rat.intCast_inj.mp (z.trans (Rat.intCast_zero).symm); omega
  have s0 : (S : Rat) ≠ 0 := fun z => by have := Rat.intCast_inj.mp (z.trans (Rat.intCast_zero).symm); omega
  simp only [divInt_cast, Rat.intCast_mul]
  grind
theorem fr_last {W S a b g h : Int} (hW : 0 < W) (hS : 0 < S) (e : a + 2 * b = S * (g - h)) : Rat.divInt a (W * S) + 2 * Rat.divInt b (W * S) = Rat.divInt g W - Rat.divInt h W := by
  have e' : (a : Rat) + 2 * (b : Rat) = (S : Rat) * ((g : Rat) - (h : Rat)) := by exact_mod_cast congrArg (Int.cast : Int → Rat) e
  have w0 : (W : Rat) ≠ 0 := fun z => by have := Rat.intCast_inj.mp (z.trans (Rat.intCast_zero).symm); omega
  have s0 : (S : Rat) ≠ 0 := fun z => by have := Rat.intCast_inj.mp (z.trans (Rat.intCast_zero).symm); omega
  simp only [divInt_cast, Rat.intCast_mul]
  grind
theorem spl_of {t : List Int} {W : Int} (hW : 0 < W) (h2 : 2 ≤ t.length) {q : Nat → Rat} (hq : ∀ k, k < t.length → q k = Rat.divInt (gI t k) W) : Spl t.length q (dX t W) := by
  have hS := sN_pos t.length t.length
  refine ⟨?_, fun k hk => ?_, ?_⟩
  · rw [hq 1 (by omega), hq 0 (by omega)]
    refine fr_first hW hS ?_
    have h := xx_first t.length (gI t) (by omega)
    have m0 : myN t.length 0 = 2 := by unfold myN; rw [if_pos (.inl rfl)]
    have w0 : wyN t.length (gI t) 0 = gI t 1 - gI t 0 := by unfold wyN; rw [show min (0 + 1) (t.length - 1) = 1 by omega]
    rw [m0, w0] at h
    exact h
  · rw [hq (k + 2) (by omega), hq k (by omega)]
    refine fr_mid hW hS ?_
    have h := xx_mid t.length (gI t) (k := k) (by omega)
    have m0 : myN t.length (k + 1) = 4 := by unfold myN; rw [if_neg (by omega)]
    have w0 : wyN t.length (gI t) (k + 1) = gI t (k + 2) - gI t k := by unfold wyN; rw [show min (k + 1 + 1) (t.length - 1) = k + 2 by omega, Nat.add_sub_cancel]
    rw [m0, w0] at h
    exact h
  · obtain ⟨n, hn⟩ : ∃ n, t.length = n + 2 := ⟨t.length - 2, by omega⟩
    rw [hq (t.length - 1) (by omega), hq (t.length - 2) (by omega)]
    refine fr_last hW hS ?_
    have h := xx_mid t.length (gI t) (k := n) (by omega)
    have m0 : myN t.length (n + 1) = 2 := by unfold myN; rw [if_pos (.inr (by omega))]
    have w0 : wyN t.length (gI t) (n + 1) = gI t (n + 1) - gI t n := by unfold wyN; rw [show min (n + 1 + 1) (t.length - 1) = n + 1 by omega, Nat.add_sub_cancel]
    have e0 : xxN t.length (gI t) (n + 2) = 0 := by rw [← hn]; exact xx_end _ _
    rw [m0, w0, e0, Int.add_zero] at h
    rw [show t.length - 1 = n + 1 by omega, show t.length - 2 = n by omega]
    exact h
/-- how the new places lie over one bottom -/
theorem beside_ov {t : List Int} {W D : Int} {m z : Nat} (hW : 0 < W) (hD : 0 < D) (hWD : W ∣ D) (zD : Sz z D) (h12 : t.length ≤ 12) {q : Nat → Rat} (hq : ∀ k, k < t.length → q k = Rat.divInt (gI t k) W) (ho : ∀ k, k < t.length → Ov D m (q k)) {k : Nat} (hk : k < t.length) :
    Ov (D * sN t.length (t.length + 1)) (m + z + 200) (q k + dX t W k) ∧ Ov (D * sN t.length (t.length + 1)) (m + z + 200) (q k - dX t W k) := by
  have hS := sN_pos t.length t.length
  obtain ⟨c, rfl⟩ := hWD
  have hc : 0 < c := by
    rcases Int.lt_trichotomy c 0 with h | h | h
    · have := Int.mul_neg_of_pos_of_neg hW h; omega
    · rw [h, Int.mul_zero] at hD; omega
    · exact h
  have w0 : (W : Rat) ≠ 0 := fun z => by have := Rat.intCast_inj.mp (z.trans (Rat.intCast_zero).symm); omega
  have s0 : (sN t.length (t.length + 1) : Rat) ≠ 0 := fun z => by have := Rat.intCast_inj.mp (z.trans (Rat.intCast_zero).symm); omega
  have zc : Sz z c := sz_dvd (by omega) ⟨W, Int.mul_comm _ _⟩ zD
  have tk : ∀ j, j < t.length → Sz m (gI t j * c) := fun j hj => by
    obtain ⟨a, ea, za⟩ := ho j hj
    rw [hq j hj, divInt_cast, Rat.intCast_mul] at ea
    have : ((gI t j * c : Int) : Rat) = (a : Rat) := by
      rw [← ea, Rat.intCast_mul]
      grind
    rw [Rat.intCast_inj.mp this]; exact za
  have tj : ∀ j, j < t.length → Sz m (gI t j) := fun j hj => (tk j hj).le (by
    rw [Int.natAbs_mul]
    exact Nat.le_mul_of_pos_right _ (by omega))
  have zx := xx_sz h12 tj (t.length - k) (by omega)
  rw [show t.length - (t.length - k) = k by omega] at zx
  have z1 : Sz (m + 30) (gI t k * c * sN t.length (t.length + 1)) := ((tk k hk).mul (sN_sz _ (t.length + 1))).mono (by omega)
  have z2 : Sz (m + z + 120) (xxN t.length (gI t) k * c) := (zx.mul zc).mono (by omega)
  rw [hq k hk]
  unfold dX
  refine ⟨⟨gI t k * c * sN t.length (t.length + 1) + xxN t.length (gI t) k * c, ?_, (z1.add z2).mono (by omega)⟩, ⟨gI t k * c * sN t.length (t.length + 1) - xxN t.length (gI t) k * c, ?_, (z1.sub z2).mono (by omega)⟩⟩
  · simp only [divInt_cast, Rat.intCast_mul, Rat.intCast_add]
    grind
  · simp only [divInt_cast, Rat.intCast_mul, Rat.intCast_sub]
    grind
end Cv
namespace Cv
open PySem PySem.Spec PyProof.Rows L2
noncomputable def spAxisD (K : PySem.W.Frag) : Sp := fun vs H Q _ => ∃ (a : Addr) (ws : List V) (qs : List Rat) (D : Int) (m : Nat), vs = [.ref a] ∧ SqL K H a ws ∧ ShL H ws qs ∧ 0 < D ∧ Sz 9000 D ∧ (∀ q ∈ qs, (q.den : Int) ∣ D ∧ Bd m q) ∧ m ≤ 9000 ∧ qs.length ≤ 40 ∧
  ∀ v tops bs H', Same H H' → AxV H' v (m + 9000) tops bs → axR tops bs = qs → bs.length ≤ qs.length → prodI bs ∣ D → Q v H'
noncomputable def spAxesD (K : PySem.W.Frag) : Sp := fun vs H Q _ => ∃ (a : Addr) (ws : List V) (ps : List Pt) (D : Int) (m : Nat), vs = [.ref a] ∧ SqL K H a ws ∧ PtsV H ws ps ∧ 0 < D ∧ Sz 9000 D ∧ (∀ p ∈ ps, ((p.1.den : Int) ∣ D ∧ Bd m p.1) ∧ (p.2.den : Int) ∣ D ∧ Bd m p.2) ∧ m ≤ 9000 ∧ ps.length ≤ 40 ∧
  ∀ c x y t1 b1 t2 b2 H', Same H H' → H' c = some (.tup [x, y]) → AxV H' x (m + 9000) t1 b1 → AxV H' y (m + 9000) t2 b2 → axR t1 b1 = ps.map (·.1) → axR t2 b2 = ps.map (·.2) → b1.length ≤ ps.length → b2.length ≤ ps.length → prodI b1 ∣ D → prodI b2 ∣ D → Q (.ref c) H'
noncomputable def cvP (ps : List Pt) (d e : Nat → Rat) (k : Nat) : List Pt := [ptAt ps k, (gX ps k + d k, gY ps k + e k), (gX ps (k + 1) - d (k + 1), gY ps (k + 1) - e (k + 1)), ptAt ps (k + 1)]
noncomputable def spThru (K : PySem.W.Frag) : Sp := fun vs H Q _ => ∃ (a : Addr) (ws : List V) (ps : List Pt) (D : Int) (m z : Nat), vs = [.ref a] ∧ H a = some (.lst ws) ∧ PtsV H ws ps ∧ 2 ≤ ps.length ∧ ps.length ≤ 12 ∧ 0 < D ∧ Sz z D ∧ z ≤ 100 ∧ m ≤ 300 ∧ (∀ p ∈ ps, OvP D m p) ∧
  ∀ (l : Addr) (us : List V) (d e : Nat → Rat) (S : Int) (H' : Hp), Same H H' → H l = none → H' l = some (.lst us) → us.length = ps.length - 1 → LsV H H' l us (fun k xs H => PtsV H xs (cvP ps d e k)) → Spl ps.length (gX ps) d → Spl ps.length (gY ps) e → 0 < S → Sz 30 S →
    (∀ k, k < ps.length → (Ov (D * S) (m + z + 200) (gX ps k + d k) ∧ Ov (D * S) (m + z + 200) (gX ps k - d k)) ∧ Ov (D * S) (m + z + 200) (gY ps k + e k) ∧ Ov (D * S) (m + z + 200) (gY ps k - e k)) → Q (.ref l) H'
theorem axR_get {t bs : List Int} {k : Nat} (hk : k < t.length) : (axR t bs)[k]? = some (Rat.divInt (gI t k) (prodI bs)) := by
  unfold axR
  rw [List.getElem?_map, gI_get hk]; rfl
theorem bh_get {t bs : List Int} {k : Nat} (hk : k < t.length) (hW : 0 < prodI bs) : (axR (bhN t) (bs ++ [sN t.length (t.length + 1)]))[k]? = some (Rat.divInt (gI t k) (prodI bs) + dX t (prodI bs) k) ∧ (axR (ahN t) (bs ++ [sN t.length (t.length + 1)]))[k]? = some (Rat.divInt (gI t k) (prodI bs) - dX t (prodI bs) k) := by
  have hS := sN_pos t.length t.length
  have w0 : (prodI bs : Rat) ≠ 0 := fun z => by have := Rat.intCast_inj.mp (z.trans (Rat.intCast_zero).symm); omega
  have s0 : (sN t.length (t.length + 1) : Rat) ≠ 0 := fun z => by have := Rat.intCast_inj.mp (z.trans (Rat.intCast_zero).symm); omega
  unfold axR bhN ahN dX
  rw [prodI_snoc]
  constructor
  · rw [List.getElem?_map, List.getElem?_map, List.getElem?_range hk]
    show some (Rat.divInt _ _) = some _
    congr 1
    simp only [divInt_cast, Rat.intCast_mul, Rat.intCast_add]
    grind
  · rw [List.getElem?_map, List.getElem?_map, List.getElem?_range hk]
    show some (Rat.divInt _ _) = some _
    congr 1
    simp only [divInt_cast, Rat.intCast_mul, Rat.intCast_sub]
    grind
end Cv
namespace Cv
open PySem PySem.Spec PyProof.Rows L2
theorem LsV.base {H0 H1 H2 : Hp} {D : Addr} {ys : List V} {R : Nat → List V → Hp → Prop} (h : LsV H1 H2 D ys R) (s : Same H0 H1) : LsV H0 H2 D ys R :=
  ⟨fun i v e => by obtain ⟨l, xs, e1, e2, e3⟩ := h.get i v e; exact ⟨l, xs, e1, s.free e2, e3⟩, h.one⟩
theorem pts4 {H : Hp} {a b c d : V} {p q r s : Pt} (h1 : PtV H a p.1 p.2) (h2 : PtV H b q.1 q.2) (h3 : PtV H c r.1 r.2) (h4 : PtV H d s.1 s.2) : PtsV H [a, b, c, d] [p, q, r, s] := by
  refine ⟨rfl, fun i v x e1 e2 => ?_⟩
  match i, e1, e2 with
  | 0, e1, e2 => cases e1; cases e2; exact h1
  | 1, e1, e2 => cases e1; cases e2; exact h2
  | 2, e1, e2 => cases e1; cases e2; exact h3
  | 3, e1, e2 => cases e1; cases e2; exact h4
  | n + 4, e1, e2 => simp at e1
end Cv

namespace Cv
open PySem PySem.Spec PyProof.Rows L2
theorem flat4 {α : Type} (f : Nat → List α) (hf : ∀ k, (f k).length = 4) : ∀ n, (((List.range n).map f).flatten).length = 4 * n ∧ ∀ k j, k < n → j < 4 → (((List.range n).map f).flatten)[4 * k + j]? = (f k)[j]?
  | 0 => ⟨rfl, fun k j h => absurd h (Nat.not_lt_zero _)⟩
  | n + 1 => by
    obtain ⟨h1, h2⟩ := flat4 f hf n
    have e : ((List.range (n + 1)).map f).flatten = ((List.range n).map f).flatten ++ f n := by rw [range_snoc, List.flatten_append]; simp
    rw [e]
    refine ⟨by rw [List.length_append, h1, hf]; omega, fun k j hk hj => ?_⟩
    by_cases hkn : k < n
    · rw [List.getElem?_append_left (by omega)]; exact h2 k j hkn hj
    · have : k = n := by omega
      subst this
      rw [List.getElem?_append_right (by omega), h1, show 4 * k + j - 4 * k = j by omega]
noncomputable def allP (ps : List Pt) (d e : Nat → Rat) : List Pt := ps ++ ((List.range (ps.length - 1)).map (cvP ps d e)).flatten
theorem cvP_len (ps : List Pt) (d e : Nat → Rat) (k : Nat) : (cvP ps d e k).length = 4 := rfl
theorem all_len (ps : List Pt) (d e : Nat → Rat) : (allP ps d e).length = ps.length + 4 * (ps.length - 1) := by
  unfold allP; rw [List.length_append, (flat4 _ (cvP_len ps d e) _).1]
theorem all_get {ps : List Pt} {d e : Nat → Rat} {k j : Nat} (hk : k + 1 < ps.length) (hj : j < 4) : (allP ps d e)[ps.length + 4 * k + j]? = (cvP ps d e k)[j]? := by
  unfold allP
  rw [List.getElem?_append_right (by omega), show ps.length + 4 * k + j - ps.length = 4 * k + j by omega]
  exact (flat4 _ (cvP_len ps d e) _).2 k j (by omega) hj
theorem pt_get {ps : List Pt} {k : Nat} (hk : k < ps.length) : ps[k]? = some (ptAt ps k) := by
  unfold ptAt gX gY
  rw [List.getElem?_eq_getElem hk]; rfl
theorem pl_of {B : Int} {pl : List Pl} {qs : List Pt} (hB : 0 < B) (h : ptsOf B pl = qs) {i : Nat} {p : Pt} (e : qs[i]? = some p) : ∃ z, pl[i]? = some z ∧ (z.1 : Rat) = p.1 * (B : Rat) ∧ (z.2 : Rat) = p.2 * (B : Rat) := by
  have b0 : (B : Rat) ≠ 0 := fun z => by have := Rat.intCast_inj.mp (z.trans (Rat.intCast_zero).symm); omega
  rw [← h] at e
  unfold ptsOf at e
  rw [List.getElem?_map] at e
  cases hz : pl[i]? with
  | none => rw [hz] at e; cases e
  | some z =>
    rw [hz] at e
    cases e
    refine ⟨z, rfl, ?_, ?_⟩
    · show (z.1 : Rat) = Rat.divInt z.1 B * B
      rw [divInt_cast]; grind
    · show (z.2 : Rat) = Rat.divInt z.2 B * B
      rw [divInt_cast]; grind
theorem chk1 {N : Nat} {B : Rat} {q d : Nat → Rat} {P : Nat → Int} {Z : Nat → Nat → Int} (h2 : 2 ≤ N) (S : Spl N q d) (hP : ∀ i, i < N → (P i : Rat) = q i * B)
    (z0 : ∀ k, k + 1 < N → (Z k 0 : Rat) = q k * B) (z1 : ∀ k, k + 1 < N → (Z k 1 : Rat) = (q k + d k) * B) (z2 : ∀ k, k + 1 < N → (Z k 2 : Rat) = (q (k + 1) - d (k + 1)) * B) (z3 : ∀ k, k + 1 < N → (Z k 3 : Rat) = q (k + 1) * B) :
    (∀ k, k + 1 < N → Z k 0 = P k ∧ Z k 3 = P (k + 1)) ∧ (∀ k, k + 2 < N → Z k 3 - Z k 2 = Z (k + 1) 1 - Z (k + 1) 0 ∧ Z k 1 - 2 * Z k 2 + Z k 3 = Z (k + 1) 0 - 2 * Z (k + 1) 1 + Z (k + 1) 2) ∧ Z 0 0 - 2 * Z 0 1 + Z 0 2 = 0 ∧ Z (N - 2) 1 - 2 * Z (N - 2) 2 + Z (N - 2) 3 = 0 := by
  refine ⟨fun k hk => ⟨?_, ?_⟩, fun k hk => ⟨?_, ?_⟩, ?_, ?_⟩
  · exact Rat.intCast_inj.mp ((z0 k hk).trans (hP k (by omega)).symm)
  · exact Rat.intCast_inj.mp ((z3 k hk).trans (hP (k + 1) hk).symm)
  · apply Rat.intCast_inj.mp
    have a1 := z3 k (by omega); have a2 := z2 k (by omega); have a3 := z1 (k + 1) (by omega); have a4 := z0 (k + 1) (by omega)
    simp only [Rat.intCast_sub]
    grind
  · apply Rat.intCast_inj.mp
    have a1 := z3 k (by omega); have a2 := z2 k (by omega); have a3 := z1 (k + 1) (by omega); have a4 := z0 (k + 1) (by omega); have a5 := z1 k (by omega); have a6 := z2 (k + 1) (by omega)
    have m := S.mid k hk
    simp only [Rat.intCast_sub, Rat.intCast_add, Rat.intCast_mul]
    have c2 : ((2 : Int) : Rat) = 2 := rfl
    rw [c2, a1, a2, a3, a4, a5, a6]
    have m' : (d k + 4 * d (k + 1) + d (k + 2)) * B = (q (k + 2) - q k) * B := by rw [m]
    grind
  · apply Rat.intCast_inj.mp
    have a1 := z0 0 (by omega); have a2 := z1 0 (by omega); have a3 := z2 0 (by omega)
    have m := S.first
    simp only [Rat.intCast_sub, Rat.intCast_add, Rat.intCast_mul]
    have c2 : ((2 : Int) : Rat) = 2 := rfl
    rw [c2, a1, a2, a3]
    have m' : (2 * d 0 + d 1) * B = (q 1 - q 0) * B := by rw [m]
    have c0 : ((0 : Int) : Rat) = 0 := rfl
    rw [c0]
    grind
  · apply Rat.intCast_inj.mp
    obtain ⟨n, rfl⟩ : ∃ n, N = n + 2 := ⟨N - 2, by omega⟩
    rw [show n + 2 - 2 = n by omega]
    have a1 := z1 n (by omega); have a2 := z2 n (by omega); have a3 := z3 n (by omega)
    have m := S.last
    rw [show n + 2 - 2 = n by omega, show n + 2 - 1 = n + 1 by omega] at m
    simp only [Rat.intCast_sub, Rat.intCast_add, Rat.intCast_mul]
    have c2 : ((2 : Int) : Rat) = 2 := rfl
    rw [c2, a1, a2, a3]
    have m' : (d n + 2 * d (n + 1)) * B = (q (n + 1) - q n) * B := by rw [m]
    have c0 : ((0 : Int) : Rat) = 0 := rfl
    rw [c0]
    grind
end Cv

namespace Cv
open PySem PySem.Spec PyProof.Rows L2
theorem cut_betw (xs : List V) {i j : Int} (a b : Nat) (ei : i = (a : Int)) (ej : j = (b : Int)) (h1 : a ≤ b) (h2 : b ≤ xs.length) : cutV xs (some i) (some j) = (xs.drop a).take (b - a) := by
  subst ei; subst ej
  unfold cutV
  rw [HT.sIx_nat, HT.sIx_nat, show min b xs.length = b by omega, show min a xs.length = a by omega]
theorem take3 {us : List V} {k : Nat} {a b c : V} (h1 : us[k]? = some a) (h2 : us[k + 1]? = some b) (h3 : us[k + 2]? = some c) : (us.drop k).take 3 = [a, b, c] := by
  refine List.ext_getElem? fun i => ?_
  rw [List.getElem?_take]
  match i with
  | 0 => rw [if_pos (by decide), List.getElem?_drop]; exact h1
  | 1 => rw [if_pos (by decide), List.getElem?_drop]; exact h2
  | 2 => rw [if_pos (by decide), List.getElem?_drop]; exact h3
  | n + 3 => rw [if_neg (by omega)]; rfl
theorem plg {pl : List Pl} {k : Nat} (h : k < pl.length) : pl[k]? = some (gA pl k, gB pl k) := by
  unfold gA gB
  rw [List.getElem?_eq_getElem h]; rfl
noncomputable def spSecond (K : PySem.W.Frag) : Sp := fun vs H Q _ => ∃ (l : Addr) (k : Nat) (us : List V) (pl : List Pl), vs = [.ref l, .int (k : Int)] ∧ H l = some (.lst us) ∧ PlsV H us pl ∧ k + 3 ≤ pl.length ∧ pl.length ≤ 100 ∧
  ∀ (c : Addr) (H' : Hp), Same H H' → H' c = some (.tup [.int (gA pl k - 2 * gA pl (k + 1) + gA pl (k + 2)), .int (gB pl k - 2 * gB pl (k + 1) + gB pl (k + 2))]) → Q (.ref c) H'
noncomputable def spStepQ (K : PySem.W.Frag) : Sp := fun vs H Q _ => ∃ (l : Addr) (k : Nat) (us : List V) (pl : List Pl), vs = [.ref l, .int (k : Int)] ∧ H l = some (.lst us) ∧ PlsV H us pl ∧ k + 2 ≤ pl.length ∧ pl.length ≤ 100 ∧
  ∀ (c : Addr) (H' : Hp), Same H H' → H' c = some (.tup [.int (gA pl (k + 1) - gA pl k), .int (gB pl (k + 1) - gB pl k)]) → Q (.ref c) H'
noncomputable def spCommonM (K : PySem.W.Frag) : Sp := fun vs H Q _ => ∃ (a : Addr) (ws : List V) (ps : List Pt) (M : Int), vs = [.ref a] ∧ H a = some (.lst ws) ∧ PtsV H ws ps ∧ 0 < M ∧ Sz 1500 M ∧ (∀ p ∈ ps, ((p.1.den : Int) ∣ M ∧ Bd 1500 p.1) ∧ (p.2.den : Int) ∣ M ∧ Bd 1500 p.2) ∧ ps.length ≤ 100 ∧
  ∀ (c l : Addr) (us : List V) (pl : List Pl) (B : Int) (H' : Hp), Same H H' → H' c = some (.tup [.int B, .ref l]) → H' l = some (.lst us) → PlsV H' us pl → 0 < B → ptsOf B pl = ps → SzP 3000 pl → Q (.ref c) H'
end Cv
namespace Cv
open PySem PySem.Spec PyProof.Rows L2
noncomputable def CvsV (H : Hp) (us : List V) (ps : List Pt) (d e : Nat → Rat) : Prop := ∀ (i : Nat) (v : V), us[i]? = some v → ∃ (l : Addr) (xs : List V), v = V.ref l ∧ H l = some (HO.lst xs) ∧ PtsV H xs (cvP ps d e i)
theorem CvsV.same {H H' : Hp} {us : List V} {ps : List Pt} {d e : Nat → Rat} (h : CvsV H us ps d e) (s : Same H H') : CvsV H' us ps d e := fun i v ev => by
  obtain ⟨l, xs, e1, e2, e3⟩ := h i v ev
  exact ⟨l, xs, e1, s _ _ e2, e3.same s⟩
noncomputable def spGoodT (K : PySem.W.Frag) : Sp := fun vs H Q _ => ∃ (f pa : Addr) (us ws : List V) (ps : List Pt) (d e : Nat → Rat) (M : Int), vs = [.ref f, .ref pa] ∧ H f = some (.lst us) ∧ us.length = ps.length - 1 ∧ CvsV H us ps d e ∧ H pa = some (.lst ws) ∧ PtsV H ws ps ∧ 2 ≤ ps.length ∧ ps.length ≤ 12 ∧ Spl ps.length (gX ps) d ∧ Spl ps.length (gY ps) e ∧ 0 < M ∧ Sz 1500 M ∧ (∀ p ∈ allP ps d e, ((p.1.den : Int) ∣ M ∧ Bd 1500 p.1) ∧ (p.2.den : Int) ∣ M ∧ Bd 1500 p.2) ∧ ∀ H', Same H H' → Q (.bl true) H'
theorem all_step {ps : List Pt} {d e : Nat → Rat} (i : Nat) : ps ++ ((List.range (i + 1)).map (cvP ps d e)).flatten = ps ++ ((List.range i).map (cvP ps d e)).flatten ++ cvP ps d e i := by
  rw [range_snoc, List.flatten_append, List.append_assoc]; simp
theorem cv_mem {ps : List Pt} {d e : Nat → Rat} {i : Nat} (hi : i + 1 < ps.length) {p : Pt} (hp : p ∈ cvP ps d e i) : p ∈ allP ps d e := by
  unfold allP
  refine List.mem_append.mpr (.inr (List.mem_flatten.mpr ⟨_, List.mem_map.mpr ⟨i, List.mem_range.mpr (by omega), rfl⟩, hp⟩))
theorem good_chk {ps : List Pt} {d e : Nat → Rat} {B : Int} {pl : List Pl} (h2 : 2 ≤ ps.length) (hB : 0 < B) (h : ptsOf B pl = allP ps d e) (S1 : Spl ps.length (gX ps) d) (S2 : Spl ps.length (gY ps) e) :
    ((∀ k, k + 1 < ps.length → gA pl (ps.length + 4 * k + 0) = gA pl k ∧ gA pl (ps.length + 4 * k + 3) = gA pl (k + 1)) ∧ (∀ k, k + 2 < ps.length → gA pl (ps.length + 4 * k + 3) - gA pl (ps.length + 4 * k + 2) = gA pl (ps.length + 4 * (k + 1) + 1) - gA pl (ps.length + 4 * (k + 1) + 0) ∧ gA pl (ps.length + 4 * k + 1) - 2 * gA pl (ps.length + 4 * k + 2) + gA pl (ps.length + 4 * k + 3) = gA pl (ps.length + 4 * (k + 1) + 0) - 2 * gA pl (ps.length + 4 * (k + 1) + 1) + gA pl (ps.length + 4 * (k + 1) + 2)) ∧ gA pl (ps.length + 4 * 0 + 0) - 2 * gA pl (ps.length + 4 * 0 + 1) + gA pl (ps.length + 4 * 0 + 2) = 0 ∧ gA pl (ps.length + 4 * (ps.length - 2) + 1) - 2 * gA pl (ps.length + 4 * (ps.length - 2) + 2) + gA pl (ps.length + 4 * (ps.length - 2) + 3) = 0) ∧
    ((∀ k, k + 1 < ps.length → gB pl (ps.length + 4 * k + 0) = gB pl k ∧ gB pl (ps.length + 4 * k + 3) = gB pl (k + 1)) ∧ (∀ k, k + 2 < ps.length → gB pl (ps.length + 4 * k + 3) - gB pl (ps.length + 4 * k + 2) = gB pl (ps.length + 4 * (k + 1) + 1) - gB pl (ps.length + 4 * (k + 1) + 0) ∧ gB pl (ps.length + 4 * k + 1) - 2 * gB pl (ps.length + 4 * k + 2) + gB pl (ps.length + 4 * k + 3) = gB pl (ps.length + 4 * (k + 1) + 0) - 2 * gB pl (ps.length + 4 * (k + 1) + 1) + gB pl (ps.length + 4 * (k + 1) + 2)) ∧ gB pl (ps.length + 4 * 0 + 0) - 2 * gB pl (ps.length + 4 * 0 + 1) + gB pl (ps.length + 4 * 0 + 2) = 0 ∧ gB pl (ps.length + 4 * (ps.length - 2) + 1) - 2 * gB pl (ps.length + 4 * (ps.length - 2) + 2) + gB pl (ps.length + 4 * (ps.length - 2) + 3) = 0) := by
  have key : ∀ i p, (allP ps d e)[i]? = some p → (gA pl i : Rat) = p.1 * (B : Rat) ∧ (gB pl i : Rat) = p.2 * (B : Rat) := fun i p ep => by
    obtain ⟨z, ez, z1, z2⟩ := pl_of hB h ep
    unfold gA gB
    rw [ez]
    exact ⟨z1, z2⟩
  have kp : ∀ i, i < ps.length → (allP ps d e)[i]? = some (ptAt ps i) := fun i hi => by
    unfold allP
    rw [List.getElem?_append_left hi]; exact pt_get hi
  exact ⟨chk1 (Z := fun k j => gA pl (ps.length + 4 * k + j)) (P := gA pl) h2 S1 (fun i hi => (key i _ (kp i hi)).1) (fun k hk => (key _ _ (all_get hk (j := 0) (by decide))).1) (fun k hk => (key _ _ (all_get hk (j := 1) (by decide))).1) (fun k hk => (key _ _ (all_get hk (j := 2) (by decide))).1) (fun k hk => (key _ _ (all_get hk (j := 3) (by decide))).1),
    chk1 (Z := fun k j => gB pl (ps.length + 4 * k + j)) (P := gB pl) h2 S2 (fun i hi => (key i _ (kp i hi)).2) (fun k hk => (key _ _ (all_get hk (j := 0) (by decide))).2) (fun k hk => (key _ _ (all_get hk (j := 1) (by decide))).2) (fun k hk => (key _ _ (all_get hk (j := 2) (by decide))).2) (fun k hk => (key _ _ (all_get hk (j := 3) (by decide))).2)⟩
theorem gA_cut {pl : List Pl} {s n j : Nat} (hj : j < n) : gA ((pl.drop s).take n) j = gA pl (s + j) ∧ gB ((pl.drop s).take n) j = gB pl (s + j) := by
  unfold gA gB
  rw [List.getElem?_take, if_pos hj, List.getElem?_drop]
  exact ⟨rfl, rfl⟩
end Cv
namespace Cv
open PySem PySem.Spec PyProof.Rows L2
theorem pwq {c : Bool} {t : TT} {σ : L2.St} {H : Hp} {K : Bool → Hp → Prop} (hR : ∀ H', Same H H' → K false H') (h1 : (∀ H', Same H H' → K false H') → c = true → t σ H K) : if c = true then t σ H K else K false H := by
  cases c with
  | true => rw [if_pos rfl]; exact h1 hR rfl
  | false => rw [if_neg Bool.false_ne_true]; exact hR H (L2.Same.refl _)
end Cv
namespace Cv
open PySem PySem.Spec PyProof.Rows L2
theorem cut_nine (ns : List Int) : ∃ ms : List Int, cutV (ns.map V.int) (some 1) (some 10) = ms.map V.int ∧ ms.length ≤ 9 := by
  have e1 : HT.sIx (ns.map V.int).length 0 (some 1) = min 1 ns.length := by
    have := HT.sIx_nat (ns.map V.int).length 0 1
    rw [List.length_map] at this ⊢; exact this
  have e2 : HT.sIx (ns.map V.int).length (ns.map V.int).length (some 10) = min 10 ns.length := by
    have := HT.sIx_nat (ns.map V.int).length (ns.map V.int).length 10
    rw [List.length_map] at this ⊢; exact this
  refine ⟨(ns.drop (min 1 ns.length)).take (min 10 ns.length - min 1 ns.length), ?_, ?_⟩
  · unfold cutV
    rw [e1, e2, List.map_take, List.map_drop]
  · rw [List.length_take, List.length_drop]; omega
theorem cut_ten (t : List Int) : cutV (t.map V.int) none (some 10) = (t.take 10).map V.int := by
  have e2 : HT.sIx (t.map V.int).length (t.map V.int).length (some 10) = min 10 t.length := by
    have := HT.sIx_nat (t.map V.int).length (t.map V.int).length 10
    rw [List.length_map] at this ⊢; exact this
  unfold cutV
  rw [e2, HT.sIx_none, List.drop_zero, Nat.sub_zero, List.map_take]
  by_cases h : 10 ≤ t.length
  · rw [Nat.min_eq_left h]
  · rw [Nat.min_eq_right (by omega), List.take_of_length_le (by rw [List.length_map]; omega), List.take_of_length_le (by rw [List.length_map]; omega)]
theorem Ov.times {D S : Int} {m n : Nat} {x : Rat} (h : Ov D m x) (z : Sz n S) : Ov (D * S) (m + n) x := by
  obtain ⟨a, e, za⟩ := h
  refine ⟨a * S, ?_, za.mul z⟩
  rw [Rat.intCast_mul, Rat.intCast_mul, ← e]; grind
theorem all_ov {ps : List Pt} {d e : Nat → Rat} {D S : Int} {m z : Nat} (ho : ∀ p ∈ ps, OvP D m p) (zS : Sz 30 S)
    (hO : ∀ k, k < ps.length → (Ov (D * S) (m + z + 200) (gX ps k + d k) ∧ Ov (D * S) (m + z + 200) (gX ps k - d k)) ∧ Ov (D * S) (m + z + 200) (gY ps k + e k) ∧ Ov (D * S) (m + z + 200) (gY ps k - e k)) : ∀ p ∈ allP ps d e, OvP (D * S) (m + z + 200) p := by
  have up : ∀ p ∈ ps, OvP (D * S) (m + z + 200) p := fun p hp => ⟨((ho p hp).1.times zS).mono (by omega), ((ho p hp).2.times zS).mono (by omega)⟩
  intro p hp
  unfold allP at hp
  rcases List.mem_append.mp hp with hp | hp
  · exact up p hp
  · obtain ⟨c, hc, hp⟩ := List.mem_flatten.mp hp
    obtain ⟨k, hk, rfl⟩ := List.mem_map.mp hc
    have hk := List.mem_range.mp hk
    unfold cvP at hp
    simp only [List.mem_cons, List.not_mem_nil, or_false] at hp
    rcases hp with rfl | rfl | rfl | rfl
    · exact up _ (List.mem_of_getElem? (pt_get (by omega)))
    · exact ⟨(hO k (by omega)).1.1, (hO k (by omega)).2.1⟩
    · exact ⟨(hO (k + 1) (by omega)).1.2, (hO (k + 1) (by omega)).2.2⟩
    · exact up _ (List.mem_of_getElem? (pt_get (by omega)))
theorem all_fine {qs : List Pt} {M : Int} {n : Nat} (hM : 0 < M) (zM : Sz 1500 M) (hn : n ≤ 1500) (h : ∀ p ∈ qs, OvP M n p) : ∀ p ∈ qs, ((p.1.den : Int) ∣ M ∧ Bd 1500 p.1) ∧ (p.2.den : Int) ∣ M ∧ Bd 1500 p.2 := fun p hp => by
  obtain ⟨b1, b2⟩ := ovp_bd4 hM zM (h p hp) 1500 hn (Nat.le_refl _)
  exact ⟨⟨den_dvd (h p hp).1, b1⟩, den_dvd (h p hp).2, b2⟩
theorem LsV.cvs {H1 H2 : Hp} {D : Addr} {us : List V} {ps : List Pt} {d e : Nat → Rat} (h : LsV H1 H2 D us (fun k xs H => PtsV H xs (cvP ps d e k))) : CvsV H2 us ps d e := fun i v ev => by
  obtain ⟨l, xs, e1, _, _, e2, e3⟩ := h.get i v ev
  exact ⟨l, xs, e1, e2, e3⟩
end Cv

set_option maxHeartbeats 4000000
namespace Cv
open PySem L2
local macro_rules | `(tactic| walk_at "hf") => `(tactic| first
  | assumption
  | exact upd_same
  | (refine upd_keep (by assumption) ?_; walk_at "hf")
  | (refine (by assumption : L2.Same _ _) _ _ ?_; walk_at "hf")
  | fail)
local macro_rules | `(tactic| walk_at "sm") => `(tactic| first
  | assumption
  | exact L2.Same.refl _
  | (refine L2.Same.trans ?_ (by assumption : L2.Same _ _); walk_at "sm")
  | (refine L2.Same.trans ?_ (Same.new (by assumption)); walk_at "sm")
  | fail)
local macro_rules | `(tactic| walk_at "mv") => `(tactic| first
  | assumption
  | (refine ShV.same ?_ (by assumption : L2.Same _ _); walk_at "mv")
  | (refine ShV.same ?_ (Same.new (by assumption)); walk_at "mv")
  | (refine PtV.same ?_ (by assumption : L2.Same _ _); walk_at "mv")
  | (refine PtV.same ?_ (Same.new (by assumption)); walk_at "mv")
  | (refine RwV.same ?_ (by assumption : L2.Same _ _); walk_at "mv")
  | (refine RwV.same ?_ (Same.new (by assumption)); walk_at "mv")
  | (refine RwQ.same ?_ (by assumption : L2.Same _ _); walk_at "mv")
  | (refine RwQ.same ?_ (Same.new (by assumption)); walk_at "mv")
  | (refine MpV.same ?_ (by assumption : L2.Same _ _); walk_at "mv")
  | (refine MpV.same ?_ (Same.new (by assumption)); walk_at "mv")
  | (refine PtsV.same ?_ (by assumption : L2.Same _ _); walk_at "mv")
  | (refine PtsV.same ?_ (Same.new (by assumption)); walk_at "mv")
  | (refine AxV.same ?_ (by assumption : L2.Same _ _); walk_at "mv")
  | (refine AxV.same ?_ (Same.new (by assumption)); walk_at "mv")
  | (refine ShL.same ?_ (by assumption : L2.Same _ _); walk_at "mv")
  | (refine ShL.same ?_ (Same.new (by assumption)); walk_at "mv")
  | (refine SqL.same' ?_ (by assumption : L2.Same _ _); walk_at "mv")
  | (refine SqL.same' ?_ (Same.new (by assumption)); walk_at "mv")
  | fail)
local macro_rules | `(tactic| walk_at "sq") => `(tactic| first
  | exact SqT.of (by walk_at "hf")
  | exact SqL.of (by walk_at "hf")
  | walk_at "mv"
  | fail)
local macro_rules | `(tactic| walk_at "at") => `(tactic| first
  | rfl
  | assumption
  | exact at_mapZ _ _ (by omega) (by omega)
  | fail)
local macro_rules | `(tactic| walk_at "sz") => `(tactic| first
  | assumption
  | exact Bd.num (by assumption)
  | exact Bd.den (by assumption)
  | exact Sz.one
  | exact Sz.mul (by walk_at "sz") (by walk_at "sz")
  | exact Sz.add (by walk_at "sz") (by walk_at "sz")
  | exact Sz.sub (by walk_at "sz") (by walk_at "sz")
  | exact Sz.neg (by walk_at "sz")
  | fail)
local macro_rules | `(tactic| walk_at "bdx") => `(tactic| first
  | assumption
  | exact Bd.zero'
  | exact Bd.one'
  | exact Bd.add (by walk_at "bdx") (by walk_at "bdx")
  | exact Bd.sub (by walk_at "bdx") (by walk_at "bdx")
  | exact Bd.mul (by walk_at "bdx") (by walk_at "bdx")
  | fail)
local macro_rules | `(tactic| walk_at "bd") => `(tactic| exact Bd.mono (by walk_at "bdx") (by decide))
local macro_rules | `(tactic| walk_at "szm") => `(tactic| exact Sz.mono (by walk_at "sz") (by decide))
local macro_rules | `(tactic| walk_at "arith") => `(tactic| first
  | exact pos30
  | exact pl
  | exact ⟨by decide, by decide⟩
  | exact ⟨by decide, by decide, by decide⟩
  | exact mulL (by decide) (by decide)
  | exact mulR (by decide) (by decide)
  | exact mulR (by omega) (by omega)
  | exact mulL (by omega) (by omega)
  | exact mulB (by walk_at "sz") (by walk_at "sz")
  | fail)
local macro_rules | `(tactic| walk_at "len") => `(tactic| first
  | (show 2 ≤ sizeLine; decide)
  | (show 0 ≤ sizeLine; decide)
  | (show 1 ≤ sizeLine; decide)
  | (show 3 ≤ sizeLine; decide)
  | (show 4 ≤ sizeLine; decide)
  | (show 5 ≤ sizeLine; decide)
  | (show 6 ≤ sizeLine; decide)
  | (show 8 ≤ sizeLine; decide)
  | fail)
local macro_rules | `(tactic| walk_at "r1") => `(tactic| first
  | refine ⟨_, _, rfl, rfl, by walk_at "arith", ?_⟩
  | refine ⟨_, _, rfl, rfl, ?_⟩
  | refine ⟨_, _, _, _, rfl, rfl, by walk_at "sq", by walk_at "at", ?_⟩
  | refine ⟨_, rfl, ?_⟩
  | refine ⟨rfl, ?_⟩
  | refine ⟨_, _, rfl, .inr (SqT.of (by walk_at "hf")), ?_⟩
  | refine ⟨_, _, rfl, .inl (SqL.of (by walk_at "hf")), ?_⟩
  | refine ⟨_, "tuple", _, _, rfl, TyOf.tup (by walk_at "hf"), kit_tt _, ?_⟩
  | refine ⟨_, "list", _, _, rfl, TyOf.lst (by walk_at "hf"), kit_ll _, ?_⟩
  | refine ⟨_, "int", _, _, rfl, TyOf.int _, kit_ii _, ?_⟩
  | refine ⟨_, "bool", _, _, rfl, TyOf.int _, kit_ib _, ?_⟩
  | refine ⟨_, "bool", _, _, rfl, TyOf.bl _, kit_bb _, ?_⟩
  | refine ⟨by walk_at "len", ?_⟩
  | refine ⟨by decide, ?_⟩
  | fail)
local macro_rules | `(tactic| walk_at "rd") => `(tactic| repeat walk_at "r1")
local macro_rules | `(tactic| walk_at "fr") => `(tactic| first
  | assumption
  | (refine L2.Same.free (by assumption : L2.Same _ _) ?_; walk_at "fr")
  | (refine L2.Same.free (Same.new (by assumption)) ?_; walk_at "fr")
  | fail)
local macro_rules | `(tactic| walk_at "tk") => `(tactic| first
  | assumption
  | fail)
local macro_rules | `(tactic| walk_at "mv") => `(tactic| first
  | assumption
  | (refine ShK.same ?_ (by assumption : L2.Same _ _); walk_at "mv")
  | (refine ShK.same ?_ (Same.new (by assumption)); walk_at "mv")
  | (refine PtK.same ?_ (by assumption : L2.Same _ _); walk_at "mv")
  | (refine PtK.same ?_ (Same.new (by assumption)); walk_at "mv")
  | (refine PtsK.same ?_ (by assumption : L2.Same _ _); walk_at "mv")
  | (refine PtsK.same ?_ (Same.new (by assumption)); walk_at "mv")
  | (refine ShV.k ?_; walk_at "mv")
  | (refine PtV.k ?_; walk_at "mv")
  | (refine PtsV.k ?_; walk_at "mv")
  | fail)
local macro_rules | `(tactic| walk_at "sq") => `(tactic| first
  | exact TK.sq (by walk_at "tk")
  | fail)
local macro_rules | `(tactic| walk_at "rk1") => `(tactic| first
  | refine ⟨_, "tuple", _, _, rfl, .inr ⟨rfl, _, _, rfl, by walk_at "sq"⟩, kit_tt _, ?_⟩
  | refine ⟨_, "list", _, _, rfl, .inl (TyOf.lst (by walk_at "hf")), kit_ll _, ?_⟩
  | refine ⟨_, "int", _, _, rfl, .inl (TyOf.int _), kit_ii _, ?_⟩
  | refine ⟨_, "bool", _, _, rfl, .inl (TyOf.int _), kit_ib _, ?_⟩
  | refine ⟨_, "bool", _, _, rfl, .inl (TyOf.bl _), kit_bb _, ?_⟩
  | refine ⟨_, _, rfl, .inr (by walk_at "sq"), ?_⟩
  | walk_at "r1"
  | fail)
local macro_rules | `(tactic| walk_at "rk") => `(tactic| repeat walk_at "rk1")

noncomputable def top (i : Nat) : Stmt := PySem.Challenge.pw_curveseat_k72_through.main.body.getD i (.Pass ⟨0, 0, 0, 0⟩)
noncomputable abbrev s_greatest_common : Stmt := top 1
theorem sc_greatest_common : FnScope ["one", "other"] ["one", "other"] (defScope s_greatest_common) := ⟨rfl, rfl, rfl, by decide +kernel, rfl, by decide +kernel, by decide +kernel⟩
noncomputable abbrev s_common_bottoms : Stmt := top 3
theorem sc_common_bottoms : FnScope ["shares", "found", "whole", "one", "more"] ["shares"] (defScope s_common_bottoms) := ⟨rfl, rfl, rfl, by decide +kernel, rfl, by decide +kernel, by decide +kernel⟩
noncomputable abbrev s_product : Stmt := top 4
theorem sc_product : FnScope ["numbers", "found", "number"] ["numbers"] (defScope s_product) := ⟨rfl, rfl, rfl, by decide +kernel, rfl, by decide +kernel, by decide +kernel⟩
noncomputable abbrev s_share_over : Stmt := top 5
theorem sc_share_over : FnScope ["top", "bottoms", "below", "bottom", "common"] ["top", "bottoms"] (defScope s_share_over) := ⟨rfl, rfl, rfl, by decide +kernel, rfl, by decide +kernel, by decide +kernel⟩
noncomputable abbrev s_axis : Stmt := top 6
theorem sc_axis : FnScope ["shares", "bottoms", "whole"] ["shares"] (defScope s_axis) := ⟨rfl, rfl, rfl, by decide +kernel, rfl, by decide +kernel, by decide +kernel⟩
noncomputable abbrev s_axes : Stmt := top 7
theorem sc_axes : FnScope ["points"] ["points"] (defScope s_axes) := ⟨rfl, rfl, rfl, by decide +kernel, rfl, by decide +kernel, by decide +kernel⟩
noncomputable abbrev s_points_of : Stmt := top 8
theorem sc_points_of : FnScope ["xs", "ys"] ["xs", "ys"] (defScope s_points_of) := ⟨rfl, rfl, rfl, by decide +kernel, rfl, by decide +kernel, by decide +kernel⟩
noncomputable abbrev s_steps_beside : Stmt := top 10
theorem sc_steps_beside : FnScope ["tops", "wide", "ways", "sizes", "sums", "many", "way", "found", "k"] ["tops"] (defScope s_steps_beside) := ⟨rfl, rfl, rfl, by decide +kernel, rfl, by decide +kernel, by decide +kernel⟩
noncomputable abbrev s_axes_beside : Stmt := top 11
theorem sc_axes_beside : FnScope ["one", "tops", "bottoms", "steps", "bottom", "behind", "ahead"] ["one"] (defScope s_axes_beside) := ⟨rfl, rfl, rfl, by decide +kernel, rfl, by decide +kernel, by decide +kernel⟩
noncomputable abbrev s_through : Stmt := top 12
theorem sc_through : FnScope ["points", "xs", "ys", "x_behind", "x_ahead", "y_behind", "y_ahead", "behind", "ahead"] ["points"] (defScope s_through) := ⟨rfl, rfl, rfl, by decide +kernel, rfl, by decide +kernel, by decide +kernel⟩
noncomputable abbrev s_l_cell_at : Stmt := top 14
theorem sc_l_cell_at : FnScope ["_law_script", "_law_k"] ["_law_script", "_law_k"] (defScope s_l_cell_at) := ⟨rfl, rfl, rfl, by decide +kernel, rfl, by decide +kernel, by decide +kernel⟩
noncomputable abbrev s_l_stream : Stmt := top 15
theorem sc_l_stream : FnScope ["_law_cell", "_law_many", "_law_number", "_law_found", "_law_k"] ["_law_cell", "_law_many"] (defScope s_l_stream) := ⟨rfl, rfl, rfl, by decide +kernel, rfl, by decide +kernel, by decide +kernel⟩
noncomputable abbrev s_l_share : Stmt := top 16
theorem sc_l_share : FnScope ["_law_top", "_law_bottom", "_law_one", "_law_other", "_law_rest"] ["_law_top", "_law_bottom"] (defScope s_l_share) := ⟨rfl, rfl, rfl, by decide +kernel, rfl, by decide +kernel, by decide +kernel⟩
noncomputable abbrev s_l_way : Stmt := top 17
theorem sc_l_way : FnScope ["_law_cell", "_law_way_here", "_law_bottom", "_law_start"] ["_law_cell"] (defScope s_l_way) := ⟨rfl, rfl, rfl, by decide +kernel, rfl, by decide +kernel, by decide +kernel⟩
noncomputable abbrev s_l_place : Stmt := top 18
theorem sc_l_place : FnScope ["_law_cell", "_law_way_here", "_law_bottom", "_law_kind", "_law_start", "_law_by", "_law_row"] ["_law_cell", "_law_way_here"] (defScope s_l_place) := ⟨rfl, rfl, rfl, by decide +kernel, rfl, by decide +kernel, by decide +kernel⟩
noncomputable abbrev s_l_handed : Stmt := top 19
theorem sc_l_handed : FnScope ["_law_places", "_law_bottom"] ["_law_places", "_law_bottom"] (defScope s_l_handed) := ⟨rfl, rfl, rfl, by decide +kernel, rfl, by decide +kernel, by decide +kernel⟩
noncomputable abbrev s_l_common : Stmt := top 20
theorem sc_l_common : FnScope ["_law_places", "_law_bottom", "_law_place_here", "_law_one"] ["_law_places"] (defScope s_l_common) := ⟨rfl, rfl, rfl, by decide +kernel, rfl, by decide +kernel, by decide +kernel⟩
noncomputable abbrev s_l_are_points : Stmt := top 21
theorem sc_l_are_points : FnScope ["_law_found", "_law_many", "_law_place_here", "_law_one"] ["_law_found", "_law_many"] (defScope s_l_are_points) := ⟨rfl, rfl, rfl, by decide +kernel, rfl, by decide +kernel, by decide +kernel⟩
noncomputable abbrev s_l_second : Stmt := top 22
theorem sc_l_second : FnScope ["_law_seats", "_law_k", "_law_one", "_law_other", "_law_third"] ["_law_seats", "_law_k"] (defScope s_l_second) := ⟨rfl, rfl, rfl, by decide +kernel, rfl, by decide +kernel, by decide +kernel⟩
noncomputable abbrev s_l_step : Stmt := top 23
theorem sc_l_step : FnScope ["_law_seats", "_law_k"] ["_law_seats", "_law_k"] (defScope s_l_step) := ⟨rfl, rfl, rfl, by decide +kernel, rfl, by decide +kernel, by decide +kernel⟩
noncomputable abbrev s_l_good : Stmt := top 24
theorem sc_l_good : FnScope ["_law_found", "_law_points", "_law_some", "_law_seats", "_law_bottom", "_law_places", "_law_curves", "_law_k"] ["_law_found", "_law_points"] (defScope s_l_good) := ⟨rfl, rfl, rfl, by decide +kernel, rfl, by decide +kernel, by decide +kernel⟩
noncomputable abbrev s_law : Stmt := top 25
theorem sc_law : FnScope ["_law_script", "_law_way_here", "_law_cells", "_law_points", "_law_handed_here", "_law_found", "_law_seats"] ["_law_script"] (defScope s_law) := ⟨rfl, rfl, rfl, by decide +kernel, rfl, by decide +kernel, by decide +kernel⟩
section
variable {P : Program} {w : World} {K : PySem.W.Frag} {mg : Str → Option Value} {base : Heap}
theorem ok_l_cell_at (F : FunAt K mg "_law_cell_at" s_l_cell_at ["_law_script", "_law_k"]) (B : Blt mg) : DefOk P w K mg base CX0 1 "_law_cell_at" ["_law_script", "_law_k"] (spCell K) := by
  refine def_okI F sc_l_cell_at (fun vs H Q E h => ?_) (fun f cdv A outer s H vs Q E hr h => ?_)
  · obtain ⟨a, ns, i, rfl, _⟩ := h; rfl
  · obtain ⟨a, ns, i, rfl, hS, h0, k⟩ := h
    have hu := hr.units
    refine ⟨_, (pss_consI (ps_ifI (pt_cmpRI op_lt (pvI 1) (pe_callBI (call_lenK K) (by rfl) B.len PySem.boot_len (pa_consI (pvI 0) pa_nilI)) (nomark _)) (pss_oneI (ps_retI (pe_ixI (ix_listK K) (pvI 0) (pvI 1) (fun _ _ => rfl)))) pss_nilI)
      (pss_oneI (ps_retI pe_intI))), ?_⟩
    refine ⟨_, rfl, _, rfl, a, _, rfl, .inl hS, _, _, rfl, rfl, _, rfl, ite_dec (fun hn => ?_) (fun hn => ?_)⟩
    · rw [List.length_map] at hn
      refine ⟨_, rfl, _, rfl, a, _, _, _, rfl, rfl, hS, at_mapZ ns i h0 hn, ?_⟩
      exact k _
    · exact k 0
theorem ok_l_share (F : FunAt K mg "_law_share" s_l_share ["_law_top", "_law_bottom"]) (B : Blt mg) : DefOk P w K mg base CX0 1 "_law_share" ["_law_top", "_law_bottom"] spLShare := by
  refine def_okI F sc_l_share (fun vs H Q E h => ?_) (fun f cdv A outer s H vs Q E hr h => ?_)
  · obtain ⟨a, b, rfl, _⟩ := h; rfl
  · obtain ⟨t, b, rfl, hb, hz, k⟩ := h
    have hu := hr.units
    refine ⟨_, (pss_consI (ps_setI (i := 2) sc_l_share.nd rfl (by first | exact Or.inl rfl | exact Or.inr rfl) (pe_callBI call_abs (by rfl) B.abs PyProof.Rows.boot_abs (pa_consI (pvI 0) pa_nilI)))
      (pss_consI (ps_setI (i := 3) sc_l_share.nd rfl (by first | exact Or.inl rfl | exact Or.inr rfl) (pvI 1))
      (pss_consI (ps_whileI PassesOwn.never (pt_cmpRI op_gt (pvI 3) pe_intI (nomark _)) (pss_consI (ps_setI (i := 4) sc_l_share.nd rfl (by first | exact Or.inl rfl | exact Or.inr rfl) (pe_opI op_mod (pvI 2) (pvI 3)))
      (pss_consI (ps_setI (i := 2) sc_l_share.nd rfl (by first | exact Or.inl rfl | exact Or.inr rfl) (pvI 3))
      (pss_oneI (ps_setI (i := 3) sc_l_share.nd rfl (by first | exact Or.inl rfl | exact Or.inr rfl) (pvI 4))))))
      (pss_oneI (ps_retI (pe_tupI (pa_consI (pe_opI op_fdivB (pvI 0) (pvI 2)) (pa_consI (pe_opI op_fdivB (pvI 1) (pvI 2)) pa_nilI)))))))), ?_⟩
    have g0 : (Int.gcd t b : Int) ≠ 0 := gcd_pos' t b (by omega)
    have gz : Sz 9000 (Int.gcd t b : Int) := hz.le (by
      rw [Int.natAbs_natCast]
      exact Nat.le_of_dvd (by omega) (Int.gcd_dvd_natAbs_right t b))
    walk_at "rd"
    refine while_by (fun σ H' => ∃ (x y : Int) (z : Option V), σ = [some (.int t), some (.int b), some (.int x), some (.int y), z] ∧ H' = H ∧ 0 ≤ x ∧ 0 ≤ y ∧ Int.gcd x y = Int.gcd t b) (fun σ _ => match σ with | [_, _, _, some (.int y), _] => y.natAbs | _ => 0) ⟨_, b, none, rfl, rfl, by split <;> omega, by omega, gcd_abs t b⟩ ?_ ?_
    · rintro σ H' ⟨x, y, z, rfl, rfl, hx, hy, e⟩
      refine ⟨_, rfl, _, _, rfl, rfl, _, rfl, ite_dec (fun h0 => ?_) (fun h0 => ?_)⟩
      · refine ⟨_, rfl, _, rfl, _, _, rfl, rfl, h0, ?_⟩
        walk_at "rd"
        refine ⟨⟨_, _, _, rfl, rfl, hy, Int.emod_nonneg x (by omega), ?_⟩, ?_⟩
        · rw [emod_gcd x y h0]; exact e
        · show (x % y).natAbs < y.natAbs
          have := Int.emod_lt_of_pos x h0
          have := Int.emod_nonneg x (b := y) (by omega)
          omega
      · have h0' : y = 0 := by omega
        subst h0'
        have hg := low_gcd hx e
        subst hg
        refine ⟨_, rfl, _, rfl, _, _, rfl, rfl, ⟨g0, gz⟩, _, rfl, _, rfl, _, _, rfl, rfl, ⟨g0, gz⟩, (by show 2 ≤ sizeLine; decide), fun p hp => ?_⟩
        have e := share_pos t b hb
        refine k _ _ (Same.new hp) ⟨p, rfl, ?_⟩
        rw [upd_same, ← e.1, ← e.2]
    · rintro σ H' Q Q' hq ⟨v, h1, i, j, h2, h3, c, h4, h5⟩
      exact ⟨v, h1, i, j, h2, h3, c, h4, hq _ _ h5⟩
theorem ok_l_are_points (F : FunAt K mg "_law_are_points" s_l_are_points ["_law_found", "_law_many"]) (B : Blt mg) (D_l_share : DefOk P w K mg base CX0 1 "_law_share" ["_law_top", "_law_bottom"] spLShare) : DefOk P w K mg base CX0 2 "_law_are_points" ["_law_found", "_law_many"] (spArePts K) := by
  refine def_okI F sc_l_are_points (fun vs H Q E h => ?_) (fun f cdv A outer s H vs Q E hr h => ?_)
  · obtain ⟨a, n, ws, ps, rfl, _⟩ := h; rfl
  · obtain ⟨a, n, ws, ps, rfl, ha, hP, hn, hbd, k⟩ := h
    have hu := hr.units
    refine ⟨_, (pss_consI (ps_ifI (PW_ptI (pw_orI (pt_notI (pt_valI (pe_callBI (call_isiK K) (by rfl) B.isinstance PyProof.Rows.boot_isinstance (pa_consI (pvI 0) (pa_consI (pe_bltnI (v := .ty "list") rfl B.list PyProof.Rows.boot_list rfl) pa_nilI))))) (pw_or1I (pt_cmpRI op_ne (pe_callBI (call_lenK K) (by rfl) B.len PySem.boot_len (pa_consI (pvI 0) pa_nilI)) (pvI 1) (nomark _))))) (pss_oneI (ps_retI pe_blI)) pss_nilI)
      (pss_consI (ps_forI PassesOwn.never rfl (pi_listI (pvI 0)) (pg_nameI (i := 2) sc_l_are_points.nd rfl (by first | exact Or.inl rfl | exact Or.inr rfl))
      (pss_consI (ps_ifI (PW_ptI (pw_orI (pt_notI (pt_valI (pe_callBI (call_isiK K) (by rfl) B.isinstance PyProof.Rows.boot_isinstance (pa_consI (pvI 2) (pa_consI (pe_bltnI (v := .ty "tuple") rfl B.tuple PyProof.Rows.boot_tuple rfl) pa_nilI))))) (pw_or1I (pt_cmpRI op_ne (pe_callBI (call_lenK K) (by rfl) B.len PySem.boot_len (pa_consI (pvI 2) pa_nilI)) pe_intI (nomark _))))) (pss_oneI (ps_retI pe_blI)) pss_nilI)
      (pss_oneI (ps_forI PassesOwn.never rfl (pi_tupI (pvI 2)) (pg_nameI (i := 3) sc_l_are_points.nd rfl (by first | exact Or.inl rfl | exact Or.inr rfl))
      (pss_consI (ps_ifI (PW_ptI (pw_orI (pt_notI (pt_valI (pe_callBI (call_isiK K) (by rfl) B.isinstance PyProof.Rows.boot_isinstance (pa_consI (pvI 3) (pa_consI (pe_bltnI (v := .ty "tuple") rfl B.tuple PyProof.Rows.boot_tuple rfl) pa_nilI))))) (pw_orI (pt_cmpRI op_ne (pe_callBI (call_lenK K) (by rfl) B.len PySem.boot_len (pa_consI (pvI 3) pa_nilI)) pe_intI (nomark _)) (pw_orI (pt_valI (pe_callBI (call_isiK K) (by rfl) B.isinstance PyProof.Rows.boot_isinstance (pa_consI (pe_ixI (ix_tupK K) (pvI 3) pe_intI (fun _ _ => rfl)) (pa_consI (pe_bltnI (v := .ty "bool") rfl B.bool PyProof.Rows.boot_bool rfl) pa_nilI)))) (pw_or1I (pt_valI (pe_callBI (call_isiK K) (by rfl) B.isinstance PyProof.Rows.boot_isinstance (pa_consI (pe_ixI (ix_tupK K) (pvI 3) pe_intI (fun _ _ => rfl)) (pa_consI (pe_bltnI (v := .ty "bool") rfl B.bool PyProof.Rows.boot_bool rfl) pa_nilI))))))))) (pss_oneI (ps_retI pe_blI)) pss_nilI)
      (pss_consI (ps_ifI (PW_ptI (pw_orI (pt_notI (pt_valI (pe_callBI (call_isiK K) (by rfl) B.isinstance PyProof.Rows.boot_isinstance (pa_consI (pe_ixI (ix_tupK K) (pvI 3) pe_intI (fun _ _ => rfl)) (pa_consI (pe_bltnI (v := .ty "int") rfl B.int PyProof.Rows.boot_int rfl) pa_nilI))))) (pw_orI (pt_notI (pt_valI (pe_callBI (call_isiK K) (by rfl) B.isinstance PyProof.Rows.boot_isinstance (pa_consI (pe_ixI (ix_tupK K) (pvI 3) pe_intI (fun _ _ => rfl)) (pa_consI (pe_bltnI (v := .ty "int") rfl B.int PyProof.Rows.boot_int rfl) pa_nilI))))) (pw_or1I (pt_cmpRI op_lt (pe_ixI (ix_tupK K) (pvI 3) pe_intI (fun _ _ => rfl)) pe_intI (nomark _)))))) (pss_oneI (ps_retI pe_blI)) pss_nilI)
      (pss_oneI (ps_ifI (pt_cmpRI (op_neDK K hu) (pe_fnI D_l_share hr pass0 (pa_consI (pe_ixI (ix_tupK K) (pvI 3) pe_intI (fun _ _ => rfl)) (pa_consI (pe_ixI (ix_tupK K) (pvI 3) pe_intI (fun _ _ => rfl)) pa_nilI))) (pvI 3) (nomark _)) (pss_oneI (ps_retI pe_blI)) pss_nilI))))))))
      (pss_oneI (ps_retI pe_blI)))), ?_⟩
    subst hn
    have hwl := hP.len
    walk_at "rd"
    refine ifF (by simp [hwl]) ?_
    walk_at "rd"
    refine ⟨⟨_, SqL.of ha⟩, for_list (xs := ws) (fun i σ H' => ∃ (y1 y2 : Option V), σ = [some (.ref a), some (.int (ps.length : Int)), y1, y2] ∧ Same H H') ⟨none, none, rfl, L2.Same.refl _⟩ ?_ ?_ ?_⟩
    · rintro i σ H1 hi ⟨y1, y2, rfl, s1⟩
      exact SqL.of (s1 _ _ ha)
    · rintro i x σ H1 hx ⟨y1, y2, rfl, s1⟩
      have hi : i < ps.length := by have := (List.getElem?_eq_some_iff.mp hx).1; omega
      have ep : ps[i]? = some ps[i] := List.getElem?_eq_getElem hi
      obtain ⟨b, vx, vy, rfl, hb, hx1, hy1⟩ := (hP.same s1).get i x _ hx ep
      obtain ⟨b1, b2⟩ := hbd _ (List.mem_of_getElem? ep)
      walk_at "rd"
      refine ⟨⟨_, SqT.of hb⟩, for_tup (xs := [vx, vy]) (fun t σ H' => ∃ (y : Option V), σ = [some (.ref a), some (.int (ps.length : Int)), some (.ref b), y] ∧ Same H1 H') ⟨_, rfl, L2.Same.refl _⟩ ?_ ?_ ?_⟩
      · rintro t σ H2 ht ⟨y, rfl, s2⟩
        exact SqT.of (s2 _ _ hb)
      · rintro t v σ H2 hv ⟨y, rfl, s2⟩
        have ht : t < 2 := (List.getElem?_eq_some_iff.mp hv).1
        obtain ⟨q, hq, bq⟩ : ∃ q : Rat, ShV H2 v q ∧ Bd 9000 q := by
          match t, ht, hv with
          | 0, _, hv => cases hv; exact ⟨_, hx1.same s2, b1⟩
          | 1, _, hv => cases hv; exact ⟨_, hy1.same s2, b2⟩
        obtain ⟨g, rfl, hg⟩ := id hq
        have hd0 : 0 < (q.den : Int) := by have := q.den_pos; omega
        walk_at "rd"
        refine ifF (decide_eq_false (by omega)) ?_
        walk_at "rd"
        refine ⟨_, _, rfl, hd0, bq.den, fun vs H3 s3 hs => ?_⟩
        rw [Rat.num_divInt_den] at hs
        walk_at "rd"
        refine ⟨datSh q, datSh q, hs.dn, (hq.same s3).dn, datSh_ok _ 7, datSh_ok _ 7, fun bb hbb => ?_⟩
        obtain rfl := hbb.mpr rfl
        refine ⟨_, rfl, ifF rfl ?_⟩
        exact ⟨_, rfl, s2.trans s3⟩
      · rintro σ H2 ⟨y, rfl, s2⟩
        exact ⟨_, _, rfl, s1.trans s2⟩
    · rintro σ H1 ⟨y1, y2, rfl, s1⟩
      exact k H1 s1
theorem ok_l_common (F : FunAt K mg "_law_common" s_l_common ["_law_places"]) (B : Blt mg) (D_l_share : DefOk P w K mg base CX0 1 "_law_share" ["_law_top", "_law_bottom"] spLShare) : DefOk P w K mg base CX0 2 "_law_common" ["_law_places"] (spCommonM K) := by
  refine def_okI F sc_l_common (fun vs H Q E h => ?_) (fun f cdv A outer s H vs Q E hr h => ?_)
  · obtain ⟨a, ws, ps, M, rfl, _⟩ := h; rfl
  · obtain ⟨a, ws, ps, M, rfl, ha, hP, hM, zM, hdv, h40, k⟩ := h
    have hu := hr.units
    refine ⟨_, (pss_consI (ps_setI (i := 1) sc_l_common.nd rfl (by first | exact Or.inl rfl | exact Or.inr rfl) pe_intI)
      (pss_consI (ps_forI PassesOwn.never rfl (pi_listI (pvI 0)) (pg_nameI (i := 2) sc_l_common.nd rfl (by first | exact Or.inl rfl | exact Or.inr rfl))
      (pss_oneI (ps_forI PassesOwn.never rfl (pi_tupI (pvI 2)) (pg_nameI (i := 3) sc_l_common.nd rfl (by first | exact Or.inl rfl | exact Or.inr rfl))
      (pss_oneI (ps_setI (i := 1) sc_l_common.nd rfl (by first | exact Or.inl rfl | exact Or.inr rfl) (pe_opI op_mulA (pvI 1) (pe_ixI (ix_tupK K) (pe_fnI D_l_share hr pass0 (pa_consI (pe_ixI (ix_tupK K) (pvI 3) pe_intI (fun _ _ => rfl)) (pa_consI (pvI 1) pa_nilI))) pe_intI (fun _ _ => rfl))))))))
      (pss_oneI (ps_retI (pe_tupI (pa_consI (pvI 1) (pa_consI (pe_compSI (os := ["_law_x", "_law_y"]) (caps := [(1, "_law_bottom")]) ["_law_places", "_law_bottom", "_law_place_here", "_law_one"] (defScope s_l_common) (pi_listI (pvI 0)) (fun _ _ _ _ _ => (pg_tupKI (n := 2) K rfl (pgs_consI (pg_nameI (i := 0) (show List.Nodup (["_law_x", "_law_y", "_law_bottom"] : List Str) from by decide +kernel) rfl (by first | exact Or.inl rfl | exact Or.inr rfl)) (pgs_consI (pg_nameI (i := 1) (show List.Nodup (["_law_x", "_law_y", "_law_bottom"] : List Str) from by decide +kernel) rfl (by first | exact Or.inl rfl | exact Or.inr rfl)) pgs_nilI)))) (fun _ _ _ _ _ => (pe_tupI (pa_consI (pe_opI op_mulA (pe_ixI (ix_tupK K) (pvI 0) pe_intI (fun _ _ => rfl)) (pe_opI op_fdivB (pvI 2) (pe_ixI (ix_tupK K) (pvI 0) pe_intI (fun _ _ => rfl)))) (pa_consI (pe_opI op_mulA (pe_ixI (ix_tupK K) (pvI 1) pe_intI (fun _ _ => rfl)) (pe_opI op_fdivB (pvI 2) (pe_ixI (ix_tupK K) (pvI 1) pe_intI (fun _ _ => rfl)))) pa_nilI)))) (by decide +kernel)) pa_nilI))))))), ?_⟩
    have hwl := hP.len
    walk_at "rd"
    refine ⟨⟨_, SqL.of ha⟩, for_list (xs := ws) (fun i σ H' => ∃ (y1 y2 : Option V) (W : Int), σ = [some (.ref a), some (.int W), y1, y2] ∧ Same H H' ∧ 0 < W ∧ W ∣ M ∧ ∀ j p, j < i → ps[j]? = some p → (p.1.den : Int) ∣ W ∧ (p.2.den : Int) ∣ W) ⟨none, none, 1, rfl, L2.Same.refl _, by decide, ⟨M, by rw [Int.one_mul]⟩, fun j p h => absurd h (Nat.not_lt_zero _)⟩ ?_ ?_ ?_⟩
    · rintro i σ H1 hi ⟨y1, y2, W, rfl, s1, _⟩
      exact SqL.of (s1 _ _ ha)
    · rintro i x σ H1 hx ⟨y1, y2, W, rfl, s1, W0, WM, hW⟩
      have hi : i < ps.length := by have := (List.getElem?_eq_some_iff.mp hx).1; omega
      have ep : ps[i]? = some ps[i] := List.getElem?_eq_getElem hi
      obtain ⟨b, vx, vy, rfl, hb, hx1, hy1⟩ := (hP.same s1).get i x _ hx ep
      obtain ⟨⟨d1, b1⟩, d2, b2⟩ := hdv _ (List.mem_of_getElem? ep)
      walk_at "rd"
      refine ⟨⟨_, SqT.of hb⟩, for_tup (xs := [vx, vy]) (fun t σ H' => ∃ (y : Option V) (U : Int), σ = [some (.ref a), some (.int U), some (.ref b), y] ∧ Same H1 H' ∧ 0 < U ∧ U ∣ M ∧ W ∣ U ∧ (1 ≤ t → (ps[i].1.den : Int) ∣ U) ∧ (2 ≤ t → (ps[i].2.den : Int) ∣ U)) ⟨_, W, rfl, L2.Same.refl _, W0, WM, ⟨1, by rw [Int.mul_one]⟩, fun h => absurd h (by decide), fun h => absurd h (by decide)⟩ ?_ ?_ ?_⟩
      · rintro t σ H2 ht ⟨y, U, rfl, s2, _⟩
        exact SqT.of (s2 _ _ hb)
      · rintro t v σ H2 hv ⟨y, U, rfl, s2, U0, UM, WU, u1, u2⟩
        have ht : t < 2 := (List.getElem?_eq_some_iff.mp hv).1
        obtain ⟨q, hq, dq, bq, q1, q2⟩ : ∃ q : Rat, ShV H2 v q ∧ (q.den : Int) ∣ M ∧ Bd 1500 q ∧ (t = 0 → q = ps[i].1) ∧ (t = 1 → q = ps[i].2) := by
          match t, ht, hv with
          | 0, _, hv => cases hv; exact ⟨_, hx1.same s2, d1, b1, fun _ => rfl, fun e => absurd e (by decide)⟩
          | 1, _, hv => cases hv; exact ⟨_, hy1.same s2, d2, b2, fun e => absurd e (by decide), fun _ => rfl⟩
        obtain ⟨g, rfl, hg⟩ := hq
        have hd0 : 0 < (q.den : Int) := by have := q.den_pos; omega
        have zU : Sz 1500 U := sz_dvd (by omega) UM zM
        obtain ⟨l1, l2, l3, l4, l5⟩ := lcm_step hd0 UM dq
        have eN : (Rat.divInt (q.den : Int) U).num = (q.den : Int).fdiv (Int.gcd U q.den) := by rw [← (share_pos (q.den : Int) U U0).1, Int.gcd_comm]
        walk_at "rd"
        refine ⟨_, _, rfl, U0, zU.mono (by decide), fun vs H3 s3 hs => ?_⟩
        obtain ⟨gs, rfl, hgs⟩ := hs
        rw [eN] at hgs
        have zq : Sz 1500 ((q.den : Int).fdiv (Int.gcd U q.den)) := quo_sz hd0 l4 l5 bq.den
        walk_at "rd"
        refine ⟨_, _, rfl, s2.trans s3, Int.mul_pos U0 l3, l2, Int.dvd_trans WU ⟨_, rfl⟩, fun h => ?_, fun h => ?_⟩
        · by_cases h0 : t = 0
          · rw [← q1 h0]; exact l1
          · exact Int.dvd_trans (u1 (by omega)) ⟨_, rfl⟩
        · have h1 : t = 1 := by omega
          rw [← q2 h1]; exact l1
      · rintro σ H2 ⟨y, U, rfl, s2, U0, UM, WU, u1, u2⟩
        refine ⟨_, _, U, rfl, s1.trans s2, U0, UM, fun j p hj e => ?_⟩
        by_cases hji : j = i
        · subst hji
          rw [ep] at e; cases e
          exact ⟨u1 (by show 1 ≤ 2; decide), u2 (by show 2 ≤ 2; decide)⟩
        · obtain ⟨w1, w2⟩ := hW j p (by omega) e
          exact ⟨Int.dvd_trans w1 WU, Int.dvd_trans w2 WU⟩
    · rintro σ H1 ⟨y1, y2, W, rfl, s1, W0, WM, hW⟩
      have zW : Sz 1500 W := sz_dvd (by omega) WM zM
      have dW : ∀ (j : Nat) (p : Pt), ps[j]? = some p → (p.1.den : Int) ∣ W ∧ (p.2.den : Int) ∣ W := fun j p e => hW j p (by have := (List.getElem?_eq_some_iff.mp e).1; omega) e
      clear hW
      have hP1 := hP.same s1
      have ha1 := s1 _ _ ha
      obtain ⟨f, g, hpl, hfg⟩ := plain_pts (SqL.of ha1) (hP1.k (K := K))
      have key : ∀ q : Rat, (q.den : Int) ∣ W → Bd 1500 q → (W.fdiv q.den) * q.den = W ∧ Sz 1500 (W.fdiv q.den) ∧ Rat.divInt (q.num * W.fdiv q.den) W = q := fun q hd hb => by
        have hd0 : 0 < (q.den : Int) := by have := q.den_pos; omega
        have e : W.fdiv q.den * q.den = W := by rw [Int.fdiv_eq_ediv_of_nonneg _ (by omega)]; exact Int.ediv_mul_cancel hd
        refine ⟨e, quo_sz W0 hd0 hd zW, ?_⟩
        refine (eq_divInt (by omega) ?_).symm
        have n := num_cast q
        have e' : ((W.fdiv q.den : Int) : Rat) * ((q.den : Int) : Rat) = (W : Rat) := by rw [← Rat.intCast_mul, e]
        rw [Rat.intCast_mul, n, ← e']; grind
      walk_at "rd"
      refine ⟨⟨_, SqL.of ha1⟩, comp2 hpl (by omega) (fun i v H => ∀ p, ps[i]? = some p → RwV H v (p.1.num * W.fdiv p.1.den) (p.2.num * W.fdiv p.2.den)) (fun _ _ _ _ t h p e => (h p e).tup t) (fun i H2 kk hi s2 hk => ?_) (fun E ys H2 hE s2 hE2 hl hr => ?_)⟩
      · have ep : ps[i]? = some ps[i] := List.getElem?_eq_getElem hi
        obtain ⟨⟨gx, ex, hgx⟩, ⟨gy, ey, hgy⟩⟩ := hfg i _ ep
        obtain ⟨⟨_, b1⟩, _, b2⟩ := hdv _ (List.mem_of_getElem? ep)
        obtain ⟨w1, w2⟩ := dW i _ ep
        obtain ⟨_, z1, _⟩ := key _ w1 b1
        obtain ⟨_, z2, _⟩ := key _ w2 b2
        have hgx2 := hgx.same s2
        have hgy2 := hgy.same s2
        have d10 : (ps[i].1.den : Int) ≠ 0 := den_ne _
        have d20 : (ps[i].2.den : Int) ≠ 0 := den_ne _
        rw [ex, ey]
        walk_at "rd"
        refine ⟨⟨d10, b1.den.mono (by decide)⟩, ?_⟩
        refine ⟨_, _, rfl, rfl, mulN b1.num z1 (by decide), ?_⟩
        walk_at "rd"
        refine ⟨⟨d20, b2.den.mono (by decide)⟩, ?_⟩
        refine ⟨_, _, rfl, rfl, mulN b2.num z2 (by decide), ?_⟩
        walk_at "rd"
        intro r hr
        refine hk _ _ (Same.new hr) fun p e => ?_
        rw [ep] at e; cases e
        exact ⟨r, rfl, upd_same⟩
      · walk_at "rd"
        intro c hc
        have hyl : ys.length = ps.length := hl
        refine k c E ys (ps.map fun p => (p.1.num * W.fdiv p.1.den, p.2.num * W.fdiv p.2.den)) W _ ((s1.trans s2).trans (Same.new hc)) upd_same (upd_keep hc hE2) ⟨by rw [hyl, List.length_map], fun i v q e1 e2 => ?_⟩ W0 ?_ fun q hq => ?_
        · rw [List.getElem?_map] at e2
          cases e3 : ps[i]? with
          | none => rw [e3] at e2; cases e2
          | some p => rw [e3] at e2; cases e2; exact (hr i v e1 p e3).same (Same.new hc)
        · unfold ptsOf
          rw [List.map_map]
          refine (List.map_congr_left fun p hp => ?_).trans (List.map_id ps)
          obtain ⟨i, hi, rfl⟩ := List.getElem_of_mem hp
          obtain ⟨⟨_, b1⟩, _, b2⟩ := hdv _ hp
          obtain ⟨w1, w2⟩ := dW i _ (List.getElem?_eq_getElem hi)
          exact Prod.ext (key _ w1 b1).2.2 (key _ w2 b2).2.2
        · obtain ⟨p, hp, rfl⟩ := List.mem_map.mp hq
          obtain ⟨i, hi, rfl⟩ := List.getElem_of_mem hp
          obtain ⟨⟨_, b1⟩, _, b2⟩ := hdv _ hp
          obtain ⟨w1, w2⟩ := dW i _ (List.getElem?_eq_getElem hi)
          exact ⟨(b1.num.mul (key _ w1 b1).2.1).mono (by decide), (b2.num.mul (key _ w2 b2).2.1).mono (by decide)⟩
theorem ok_l_second (F : FunAt K mg "_law_second" s_l_second ["_law_seats", "_law_k"]) (B : Blt mg) : DefOk P w K mg base CX0 1 "_law_second" ["_law_seats", "_law_k"] (spSecond K) := by
  refine def_okI F sc_l_second (fun vs H Q E h => ?_) (fun f cdv A outer s H vs Q E hr h => ?_)
  · obtain ⟨l, n, us, pl, rfl, _⟩ := h; rfl
  · obtain ⟨l, n, us, pl, rfl, hl, hP, h3, h100, k⟩ := h
    have hu := hr.units
    refine ⟨_, (pss_consI (ps_asgI (pe_sliceI (sl_listK K) (pvI 0) (po_someI (pvI 1)) (po_someI (pe_opI op_add (pvI 1) pe_intI))) (pg_lstKI (n := 3) K rfl (pgs_consI (pg_nameI (i := 2) sc_l_second.nd rfl (by first | exact Or.inl rfl | exact Or.inr rfl)) (pgs_consI (pg_nameI (i := 3) sc_l_second.nd rfl (by first | exact Or.inl rfl | exact Or.inr rfl)) (pgs_consI (pg_nameI (i := 4) sc_l_second.nd rfl (by first | exact Or.inl rfl | exact Or.inr rfl)) pgs_nilI)))))
      (pss_oneI (ps_retI (pe_tupI (pa_consI (pe_opI op_add (pe_opI op_sub (pe_ixI (ix_tupK K) (pvI 2) pe_intI (fun _ _ => rfl)) (pe_opI op_mulA pe_intI (pe_ixI (ix_tupK K) (pvI 3) pe_intI (fun _ _ => rfl)))) (pe_ixI (ix_tupK K) (pvI 4) pe_intI (fun _ _ => rfl))) (pa_consI (pe_opI op_add (pe_opI op_sub (pe_ixI (ix_tupK K) (pvI 2) pe_intI (fun _ _ => rfl)) (pe_opI op_mulA pe_intI (pe_ixI (ix_tupK K) (pvI 3) pe_intI (fun _ _ => rfl)))) (pe_ixI (ix_tupK K) (pvI 4) pe_intI (fun _ _ => rfl))) pa_nilI)))))), ?_⟩
    have hul := hP.len
    obtain ⟨a0, u0, g0⟩ := hP.at (plg (k := n) (by omega))
    obtain ⟨a1, u1, g1⟩ := hP.at (plg (k := n + 1) (by omega))
    obtain ⟨a2, u2, g2⟩ := hP.at (plg (k := n + 2) (by omega))
    walk_at "rd"
    refine ⟨l, us, rfl, SqL.of hl, fun l2 hl2 => ?_⟩
    rw [cut_betw us n (n + 3) rfl (by omega) (by omega) (by omega), show n + 3 - n = 3 by omega, take3 u0 u1 u2]
    replace g0 := upd_keep (o := .lst [.ref a0, .ref a1, .ref a2]) hl2 g0
    replace g1 := upd_keep (o := .lst [.ref a0, .ref a1, .ref a2]) hl2 g1
    replace g2 := upd_keep (o := .lst [.ref a0, .ref a1, .ref a2]) hl2 g2
    refine ⟨l2, _, rfl, SqL.of upd_same, rfl, _, _, rfl, _, _, rfl, _, _, rfl, rfl, ?_⟩
    have s2 := Same.new (o := .lst [.ref a0, .ref a1, .ref a2]) hl2
    generalize upd H l2 (.lst [.ref a0, .ref a1, .ref a2]) = H2 at *
    walk_at "rd"
    intro c hc
    exact k c _ (s2.trans (Same.new hc)) upd_same
theorem ok_l_step (F : FunAt K mg "_law_step" s_l_step ["_law_seats", "_law_k"]) (B : Blt mg) : DefOk P w K mg base CX0 1 "_law_step" ["_law_seats", "_law_k"] (spStepQ K) := by
  refine def_okI F sc_l_step (fun vs H Q E h => ?_) (fun f cdv A outer s H vs Q E hr h => ?_)
  · obtain ⟨l, n, us, pl, rfl, _⟩ := h; rfl
  · obtain ⟨l, n, us, pl, rfl, hl, hP, h3, h100, k⟩ := h
    have hu := hr.units
    refine ⟨_, (pss_oneI (ps_retI (pe_tupI (pa_consI (pe_opI op_sub (pe_ixI (ix_tupK K) (pe_ixI (ix_listK K) (pvI 0) (pe_opI op_add (pvI 1) pe_intI) (fun _ _ => rfl)) pe_intI (fun _ _ => rfl)) (pe_ixI (ix_tupK K) (pe_ixI (ix_listK K) (pvI 0) (pvI 1) (fun _ _ => rfl)) pe_intI (fun _ _ => rfl))) (pa_consI (pe_opI op_sub (pe_ixI (ix_tupK K) (pe_ixI (ix_listK K) (pvI 0) (pe_opI op_add (pvI 1) pe_intI) (fun _ _ => rfl)) pe_intI (fun _ _ => rfl)) (pe_ixI (ix_tupK K) (pe_ixI (ix_listK K) (pvI 0) (pvI 1) (fun _ _ => rfl)) pe_intI (fun _ _ => rfl))) pa_nilI))))), ?_⟩
    have hul := hP.len
    obtain ⟨a0, u0, g0⟩ := hP.at (plg (k := n) (by omega))
    obtain ⟨a1, u1, g1⟩ := hP.at (plg (k := n + 1) (by omega))
    have x0 : atI us (n : Int) = some (.ref a0) := atI_nat' (j := n) rfl u0
    have x1 : atI us ((n : Int) + 1) = some (.ref a1) := atI_nat' (j := n + 1) (by omega) u1
    walk_at "rd"
    intro c hc
    exact k c _ (Same.new hc) upd_same
theorem ok_l_good (F : FunAt K mg "_law_good" s_l_good ["_law_found", "_law_points"]) (B : Blt mg) (D_l_are_points : DefOk P w K mg base CX0 2 "_law_are_points" ["_law_found", "_law_many"] (spArePts K)) (D_l_common : DefOk P w K mg base CX0 2 "_law_common" ["_law_places"] (spCommonM K)) (D_l_second : DefOk P w K mg base CX0 1 "_law_second" ["_law_seats", "_law_k"] (spSecond K)) (D_l_step : DefOk P w K mg base CX0 1 "_law_step" ["_law_seats", "_law_k"] (spStepQ K)) : DefOk P w K mg base CX0 3 "_law_good" ["_law_found", "_law_points"] (spGoodT K) := by
  refine def_okI F sc_l_good (fun vs H Q E h => ?_) (fun f cdv A outer s H vs Q E hr h => ?_)
  · obtain ⟨f, pa, us, ws, ps, d, e, M, rfl, _⟩ := h; rfl
  · obtain ⟨f, pa, us, ws, ps, d, e, M, rfl, hf, hfl, hC, hp, hP, h2, h12, S1, S2, hM, zM, hall, k⟩ := h
    have hu := hr.units
    refine ⟨_, (pss_consI (ps_ifI (PW_ptI (pw_orI (pt_notI (pt_valI (pe_callBI (call_isiK K) (by rfl) B.isinstance PyProof.Rows.boot_isinstance (pa_consI (pvI 0) (pa_consI (pe_bltnI (v := .ty "list") rfl B.list PyProof.Rows.boot_list rfl) pa_nilI))))) (pw_or1I (pt_cmpRI op_ne (pe_callBI (call_lenK K) (by rfl) B.len PySem.boot_len (pa_consI (pvI 0) pa_nilI)) (pe_opI op_sub (pe_callBI (call_lenK K) (by rfl) B.len PySem.boot_len (pa_consI (pvI 1) pa_nilI)) pe_intI) (nomark _))))) (pss_oneI (ps_retI pe_blI)) pss_nilI)
      (pss_consI (ps_setI (i := 2) sc_l_good.nd rfl (by first | exact Or.inl rfl | exact Or.inr rfl) (pe_callTyI call_list_of rfl B.list PyProof.Rows.boot_list (pa_consI (pvI 1) pa_nilI)))
      (pss_consI (ps_forI PassesOwn.never rfl (pi_listI (pvI 0)) (pg_nameI (i := 3) sc_l_good.nd rfl (by first | exact Or.inl rfl | exact Or.inr rfl))
      (pss_consI (ps_ifI (pt_notI (pt_valI (pe_fnI D_l_are_points hr pass0 (pa_consI (pvI 3) (pa_consI pe_intI pa_nilI))))) (pss_oneI (ps_retI pe_blI)) pss_nilI)
      (pss_oneI (ps_setI (i := 2) sc_l_good.nd rfl (by first | exact Or.inl rfl | exact Or.inr rfl) (pe_opI op_cat (pvI 2) (pvI 3))))))
      (pss_consI (ps_asgI (pe_fnI D_l_common hr pass0 (pa_consI (pvI 2) pa_nilI)) (pg_tupKI (n := 2) K rfl (pgs_consI (pg_nameI (i := 4) sc_l_good.nd rfl (by first | exact Or.inl rfl | exact Or.inr rfl)) (pgs_consI (pg_nameI (i := 5) sc_l_good.nd rfl (by first | exact Or.inl rfl | exact Or.inr rfl)) pgs_nilI))))
      (pss_consI (ps_compSI (i := 6) (os := ["_law_k"]) (caps := [(5, "_law_places"), (1, "_law_points")]) ["_law_found", "_law_points", "_law_some", "_law_seats", "_law_bottom", "_law_places", "_law_curves", "_law_k"] (defScope s_l_good) sc_l_good.nd rfl rfl (pi_range1I rfl B.range (pa_consI (pe_callBI (call_lenK K) (by rfl) B.len PySem.boot_len (pa_consI (pvI 0) pa_nilI)) pa_nilI)) (fun _ _ _ _ _ => (pg_nameI (i := 0) (show List.Nodup (["_law_k", "_law_places", "_law_points"] : List Str) from by decide +kernel) rfl (by first | exact Or.inl rfl | exact Or.inr rfl))) (fun _ _ _ _ _ => (pe_sliceI (sl_listK K) (pvI 1) (po_someI (pe_opI op_add (pe_callBI (call_lenK K) (by rfl) B.len PySem.boot_len (pa_consI (pvI 2) pa_nilI)) (pe_opI op_mulA pe_intI (pvI 0)))) (po_someI (pe_opI op_add (pe_opI op_add (pe_callBI (call_lenK K) (by rfl) B.len PySem.boot_len (pa_consI (pvI 2) pa_nilI)) (pe_opI op_mulA pe_intI (pvI 0))) pe_intI)))) (by decide +kernel))
      (pss_consI (ps_forI PassesOwn.never rfl (pi_range1I rfl B.range (pa_consI (pe_callBI (call_lenK K) (by rfl) B.len PySem.boot_len (pa_consI (pvI 6) pa_nilI)) pa_nilI)) (pg_nameI (i := 7) sc_l_good.nd rfl (by first | exact Or.inl rfl | exact Or.inr rfl))
      (pss_consI (ps_ifI (PW_ptI (pw_orI (pt_cmpRI (op_neDK K hu) (pe_ixI (ix_listK K) (pe_ixI (ix_listK K) (pvI 6) (pvI 7) (fun _ _ => rfl)) pe_intI (fun _ _ => rfl)) (pe_ixI (ix_listK K) (pvI 5) (pvI 7) (fun _ _ => rfl)) (nomark _)) (pw_or1I (pt_cmpRI (op_neDK K hu) (pe_ixI (ix_listK K) (pe_ixI (ix_listK K) (pvI 6) (pvI 7) (fun _ _ => rfl)) pe_intI (fun _ _ => rfl)) (pe_ixI (ix_listK K) (pvI 5) (pe_opI op_add (pvI 7) pe_intI) (fun _ _ => rfl)) (nomark _))))) (pss_oneI (ps_retI pe_blI)) pss_nilI)
      (pss_consI (ps_ifI (PW_ptI (pw_andI (pt_cmpRI op_gt (pvI 7) pe_intI (nomark _)) (pw_and1I (pt_cmpRI (op_neDK K hu) (pe_fnI D_l_step hr pass0 (pa_consI (pe_ixI (ix_listK K) (pvI 6) (pe_opI op_sub (pvI 7) pe_intI) (fun _ _ => rfl)) (pa_consI pe_intI pa_nilI))) (pe_fnI D_l_step hr pass0 (pa_consI (pe_ixI (ix_listK K) (pvI 6) (pvI 7) (fun _ _ => rfl)) (pa_consI pe_intI pa_nilI))) (nomark _))))) (pss_oneI (ps_retI pe_blI)) pss_nilI)
      (pss_oneI (ps_ifI (PW_ptI (pw_andI (pt_cmpRI op_gt (pvI 7) pe_intI (nomark _)) (pw_and1I (pt_cmpRI (op_neDK K hu) (pe_fnI D_l_second hr pass0 (pa_consI (pe_ixI (ix_listK K) (pvI 6) (pe_opI op_sub (pvI 7) pe_intI) (fun _ _ => rfl)) (pa_consI pe_intI pa_nilI))) (pe_fnI D_l_second hr pass0 (pa_consI (pe_ixI (ix_listK K) (pvI 6) (pvI 7) (fun _ _ => rfl)) (pa_consI pe_intI pa_nilI))) (nomark _))))) (pss_oneI (ps_retI pe_blI)) pss_nilI)))))
      (pss_oneI (ps_retI (pe_andI (pe_cmpRI (op_eqDK K hu) (pe_fnI D_l_second hr pass0 (pa_consI (pe_ixI (ix_listK K) (pvI 6) pe_intI (fun _ _ => rfl)) (pa_consI pe_intI pa_nilI))) (pe_tupI (pa_consI pe_intI (pa_consI pe_intI pa_nilI))) (nomark _)) (pe_oneI (pe_cmpRI (op_eqDK K hu) (pe_fnI D_l_second hr pass0 (pa_consI (pe_ixI (ix_listK K) (pvI 6) (pe_unI un_neg pe_intI) (fun _ _ => rfl)) (pa_consI pe_intI pa_nilI))) (pe_tupI (pa_consI pe_intI (pa_consI pe_intI pa_nilI))) (nomark _)))))))))))), ?_⟩
    have hwl := hP.len
    walk_at "rd"
    refine ifF (by simp; omega) ?_
    walk_at "rd"
    intro lv hlv
    have sF : Same H (upd H lv (.lst ws)) := Same.new hlv
    have hf1 := sF _ _ hf
    have hC1 := hC.same sF
    have hp1 := sF _ _ hp
    have hP1 := hP.same sF
    have hv1 : (upd H lv (.lst ws)) lv = some (.lst ws) := upd_same
    clear hf hC hp hlv
    generalize upd H lv (.lst ws) = H1 at *
    walk_at "rd"
    refine ⟨⟨_, SqL.of hf1⟩, for_list (xs := us) (fun i σ H' => ∃ (ls : Addr) (vs : List V) (y : Option V), σ = [some (.ref f), some (.ref pa), some (.ref ls), y, none, none, none, none] ∧ Same H1 H' ∧ H' ls = some (.lst vs) ∧ PtsV H' vs (ps ++ ((List.range i).map (cvP ps d e)).flatten)) ⟨lv, ws, none, rfl, L2.Same.refl _, hv1, by rw [show ps ++ ((List.range 0).map (cvP ps d e)).flatten = ps from List.append_nil _]; exact hP1⟩ ?_ ?_ ?_⟩
    · rintro i σ H2 hi ⟨ls, vs, y, rfl, s2, g1, g2⟩
      exact SqL.of (s2 _ _ hf1)
    · rintro i x σ H2 hx ⟨ls, vs, y, rfl, s2, g1, g2⟩
      have hi : i + 1 < ps.length := by have := (List.getElem?_eq_some_iff.mp hx).1; omega
      obtain ⟨lk, xk, rfl, hk, hPk⟩ := (hC1.same s2) i x hx
      have hvl := g2.len
      rw [List.length_append, (flat4 _ (cvP_len ps d e) _).1] at hvl
      have hxl := hPk.len
      rw [cvP_len] at hxl
      walk_at "rd"
      refine ⟨lk, _, xk, _, rfl, hk, hPk, by rw [cvP_len]; rfl, fun p hp => ?_, fun H3 s3 => ?_⟩
      · obtain ⟨⟨_, b1⟩, _, b2⟩ := hall p (cv_mem hi hp)
        exact ⟨b1.mono (by decide), b2.mono (by decide)⟩
      walk_at "rd"
      refine ⟨ls, lk, _, _, rfl, rfl, s3 _ _ g1, s3 _ _ hk, Nat.le_of_lt (small_line (by omega)), fun l4 hl4 => ?_⟩
      refine ⟨l4, _, _, rfl, (s2.trans s3).trans (Same.new hl4), upd_same, ?_⟩
      rw [all_step]
      exact (PtsV.append (g2.same s3) (hPk.same s3)).same (Same.new hl4)
    rintro σ H2 ⟨ls, vs, y, rfl, s2, g1, g2⟩
    rw [hfl] at g2
    have hf2 := s2 _ _ hf1
    have hp2 := s2 _ _ hp1
    have sG := sF.trans s2
    clear hC1 hf1 hp1 hP1 hv1 sF s2
    walk_at "rd"
    refine ⟨ls, vs, allP ps d e, M, rfl, g1, g2, hM, zM, hall, by rw [all_len]; omega, fun c l up pl B H3 s3 hcc hl hPl hB hpt hsz => ?_⟩
    refine ⟨c, _, rfl, SqT.of hcc, rfl, _, _, rfl, _, _, rfl, rfl, ?_⟩
    have hpll : pl.length = ps.length + 4 * (ps.length - 1) := by rw [← all_len ps d e, ← hpt, ptsOf_len]
    have hupl := hPl.len
    have hf3 := s3 _ _ hf2
    have hp3 := s3 _ _ hp2
    have sH := sG.trans s3
    obtain ⟨⟨A1, A2, A3, A4⟩, ⟨B1, B2, B3, B4⟩⟩ := good_chk h2 hB hpt S1 S2
    clear hf2 hp2 sG s3 g1 g2 hcc hall hpt S1 S2 hsz
    walk_at "rd"
    refine ⟨by omega, by omega, compL (plain_range 0 ((us.length : Int)).toNat _) (by omega) (fun j xs H => PlsV H xs ((pl.drop (ps.length + 4 * j)).take 4)) (fun _ _ _ _ tt h => h.tup tt) (fun j H4 kk hj s4 hk => ?_) (fun lc uc H4 hc0 s4 hc hcl hL => ?_)⟩
    · have hj' : j + 1 < ps.length := by omega
      have hp4 := s4 _ _ hp3
      have hl4 := s4 _ _ hl
      walk_at "rd"
      refine ⟨l, up, rfl, SqL.of hl4, fun l2 hl2 => ?_⟩
      rw [cut_betw up (ps.length + 4 * j) (ps.length + 4 * j + 4) (by omega) (by omega) (by omega) (by omega), show ps.length + 4 * j + 4 - (ps.length + 4 * j) = 4 by omega]
      exact hk l2 _ _ (Same.new hl2) hl2 upd_same ((((hPl.same s4).drop _).take _).same (Same.new hl2))
    have hcl' : uc.length = ps.length - 1 := by omega
    have hl4 := s4 _ _ hl
    have hPl4 := hPl.same s4
    have sI := sH.trans s4
    have L : ∀ k, k + 1 < ps.length → ∃ (lk : Addr) (xk : List V), uc[k]? = some (V.ref lk) ∧ H4 lk = some (HO.lst xk) ∧ PlsV H4 xk ((pl.drop (ps.length + 4 * k)).take 4) := fun k hk => by
      have e : uc[k]? = some uc[k] := List.getElem?_eq_getElem (by omega)
      obtain ⟨lk, xk, e1, _, _, e4, e5⟩ := hL.get k _ e
      exact ⟨lk, xk, by rw [e, e1], e4, e5⟩
    have L4 : ∀ k, k + 1 < ps.length → ((pl.drop (ps.length + 4 * k)).take 4).length = 4 := fun k hk => by rw [List.length_take, List.length_drop]; omega
    clear hL sH s4 hl hPl hf3 hp3 hc0
    walk_at "rd"
    refine ⟨by omega, by omega, for_range (fun i σ H' => ∃ (y7 : Option V), σ = [some (.ref f), some (.ref pa), some (.ref ls), y, some (.int B), some (.ref l), some (.ref lc), y7] ∧ Same H4 H') ⟨none, rfl, L2.Same.refl _⟩ ?_ ?_⟩
    · rintro i σ H5 hi ⟨y7, rfl, s5⟩
      have hi' : i + 1 < ps.length := by omega
      obtain ⟨lk, xk, e1, e2, e3⟩ := L i hi'
      have hc5 := s5 _ _ hc
      have hl5 := s5 _ _ hl4
      have e2' := s5 _ _ e2
      have e3' := e3.same s5
      have hPl5 := hPl4.same s5
      have ll := L4 i hi'
      obtain ⟨r0, x0, g0⟩ := e3'.at (plg (k := 0) (by omega))
      obtain ⟨r3, x3, g3⟩ := e3'.at (plg (k := 3) (by omega))
      obtain ⟨t0, y0, f0⟩ := hPl5.at (plg (k := i) (by omega))
      obtain ⟨t1, y1, f1⟩ := hPl5.at (plg (k := i + 1) (by omega))
      have at1 : atI uc (0 + (i : Int)) = some (.ref lk) := atI_nat' (j := i) (by omega) e1
      have at2 : atI xk 0 = some (.ref r0) := atI_nat' (j := 0) rfl x0
      have at3 : atI xk 3 = some (.ref r3) := atI_nat' (j := 3) rfl x3
      have at4 : atI up (0 + (i : Int)) = some (.ref t0) := atI_nat' (j := i) (by omega) y0
      have at5 : atI up (0 + (i : Int) + 1) = some (.ref t1) := atI_nat' (j := i + 1) (by omega) y1
      have c0 := gA_cut (pl := pl) (s := ps.length + 4 * i) (n := 4) (j := 0) (by decide)
      have c1 := gA_cut (pl := pl) (s := ps.length + 4 * i) (n := 4) (j := 1) (by decide)
      have c2 := gA_cut (pl := pl) (s := ps.length + 4 * i) (n := 4) (j := 2) (by decide)
      have c3 := gA_cut (pl := pl) (s := ps.length + 4 * i) (n := 4) (j := 3) (by decide)
      walk_at "rd"
      refine ⟨datPl (gA ((pl.drop (ps.length + 4 * i)).take 4) 0, gB ((pl.drop (ps.length + 4 * i)).take 4) 0), datPl (gA pl i, gB pl i), dnPl g0, dnPl f0, datPl_ok _ 7, datPl_ok _ 7, fun bb hbb => ?_⟩
      rw [hbb.mpr (datPl_inj.mpr (Prod.ext (c0.1.trans (A1 i hi').1) (c0.2.trans (B1 i hi').1)))]
      refine ⟨_, rfl, ifF rfl ?_⟩
      walk_at "rd"
      refine ⟨datPl (gA ((pl.drop (ps.length + 4 * i)).take 4) 3, gB ((pl.drop (ps.length + 4 * i)).take 4) 3), datPl (gA pl (i + 1), gB pl (i + 1)), dnPl g3, dnPl f1, datPl_ok _ 7, datPl_ok _ 7, fun bb hbb => ?_⟩
      rw [hbb.mpr (datPl_inj.mpr (Prod.ext (c3.1.trans (A1 i hi').2) (c3.2.trans (B1 i hi').2)))]
      refine ⟨_, rfl, ifF rfl ?_⟩
      clear g0 g3 f0 f1 x0 x3 y0 y1 at2 at3 at4 at5 hl5 hPl5
      walk_at "rd"
      refine pwq (fun H6 s6 => ?_) (fun hR hc => ?_)
      rotate_left
      · have h0 : 0 < i := by have := of_decide_eq_true hc; omega
        obtain ⟨i', rfl⟩ : ∃ i', i = i' + 1 := ⟨i - 1, by omega⟩
        obtain ⟨lp, xp, b1, b2, b3⟩ := L i' (by omega)
        have lp4 := L4 i' (by omega)
        have d2 := gA_cut (pl := pl) (s := ps.length + 4 * i') (n := 4) (j := 2) (by decide)
        have d3 := gA_cut (pl := pl) (s := ps.length + 4 * i') (n := 4) (j := 3) (by decide)
        have at6 : atI uc (0 + ((i' + 1 : Nat) : Int) - 1) = some (.ref lp) := atI_nat' (j := i') (by omega) b1
        walk_at "rd"
        refine ⟨lp, 2, xp, _, rfl, s5 _ _ b2, b3.same s5, by rw [lp4]; decide, by rw [lp4]; decide, fun q1 H6 s6 hq1 => ?_⟩
        have hc6 := s6 _ _ hc5
        walk_at "rd"
        refine ⟨lk, 0, xk, _, rfl, s6 _ _ e2', e3'.same s6, by rw [ll]; decide, by rw [ll]; decide, fun q2 H7 s7 hq2 => ?_⟩
        refine ⟨datPl (_, _), datPl (_, _), dnPl (p := (_, _)) (s7 _ _ hq1), dnPl (p := (_, _)) hq2, datPl_ok _ 7, datPl_ok _ 7, fun bb hbb => ?_⟩
        rw [hbb.mpr (datPl_inj.mpr (Prod.ext (by show gA _ 3 - gA _ 2 = gA _ 1 - gA _ 0; rw [d3.1, d2.1, c1.1, c0.1]; exact (A2 i' (by omega)).1) (by show gB _ 3 - gB _ 2 = gB _ 1 - gB _ 0; rw [d3.2, d2.2, c1.2, c0.2]; exact (B2 i' (by omega)).1)))]
        exact ⟨_, rfl, hR H7 (s6.trans s7)⟩
      refine ifF rfl ?_
      have hc6 := s6 _ _ hc5
      walk_at "rd"
      refine pwq (fun H7 s7 => ?_) (fun hR hc => ?_)
      rotate_left
      · have h0 : 0 < i := by have := of_decide_eq_true hc; omega
        obtain ⟨i', rfl⟩ : ∃ i', i = i' + 1 := ⟨i - 1, by omega⟩
        obtain ⟨lp, xp, b1, b2, b3⟩ := L i' (by omega)
        have lp4 := L4 i' (by omega)
        have d1 := gA_cut (pl := pl) (s := ps.length + 4 * i') (n := 4) (j := 1) (by decide)
        have d2 := gA_cut (pl := pl) (s := ps.length + 4 * i') (n := 4) (j := 2) (by decide)
        have d3 := gA_cut (pl := pl) (s := ps.length + 4 * i') (n := 4) (j := 3) (by decide)
        have at6 : atI uc (0 + ((i' + 1 : Nat) : Int) - 1) = some (.ref lp) := atI_nat' (j := i') (by omega) b1
        walk_at "rd"
        refine ⟨lp, 1, xp, _, rfl, s6 _ _ (s5 _ _ b2), (b3.same s5).same s6, by rw [lp4]; decide, by rw [lp4]; decide, fun q1 H7 s7 hq1 => ?_⟩
        have hc7 := s7 _ _ hc6
        walk_at "rd"
        refine ⟨lk, 0, xk, _, rfl, s7 _ _ (s6 _ _ e2'), (e3'.same s6).same s7, by rw [ll]; decide, by rw [ll]; decide, fun q2 H8 s8 hq2 => ?_⟩
        refine ⟨datPl (_, _), datPl (_, _), dnPl (p := (_, _)) (s8 _ _ hq1), dnPl (p := (_, _)) hq2, datPl_ok _ 7, datPl_ok _ 7, fun bb hbb => ?_⟩
        rw [hbb.mpr (datPl_inj.mpr (Prod.ext (by show gA _ 1 - 2 * gA _ 2 + gA _ 3 = gA _ 0 - 2 * gA _ 1 + gA _ 2; rw [d1.1, d2.1, d3.1, c0.1, c1.1, c2.1]; exact (A2 i' (by omega)).2) (by show gB _ 1 - 2 * gB _ 2 + gB _ 3 = gB _ 0 - 2 * gB _ 1 + gB _ 2; rw [d1.2, d2.2, d3.2, c0.2, c1.2, c2.2]; exact (B2 i' (by omega)).2)))]
        exact ⟨_, rfl, hR H8 (s7.trans s8)⟩
      refine ifF rfl ?_
      exact ⟨_, rfl, (s5.trans s6).trans s7⟩
    rintro σ H5 ⟨y7, rfl, s5⟩
    have hc5 := s5 _ _ hc
    obtain ⟨lk, xk, e1, e2, e3⟩ := L 0 (by omega)
    obtain ⟨lz, xz, z1, z2, z3⟩ := L (ps.length - 2) (by omega)
    have l0 := L4 0 (by omega)
    have l9 := L4 (ps.length - 2) (by omega)
    have at0 : atI uc 0 = some (.ref lk) := atI_nat' (j := 0) rfl e1
    walk_at "rd"
    refine ⟨lk, 0, xk, _, rfl, s5 _ _ e2, e3.same s5, by rw [l0]; decide, by rw [l0]; decide, fun q1 H6 s6 hq1 => ?_⟩
    walk_at "rd"
    intro t0 ht0
    walk_at "rd"
    have c0 := gA_cut (pl := pl) (s := ps.length + 4 * 0) (n := 4) (j := 0) (by decide)
    have c1 := gA_cut (pl := pl) (s := ps.length + 4 * 0) (n := 4) (j := 1) (by decide)
    have c2 := gA_cut (pl := pl) (s := ps.length + 4 * 0) (n := 4) (j := 2) (by decide)
    have d1 := gA_cut (pl := pl) (s := ps.length + 4 * (ps.length - 2)) (n := 4) (j := 1) (by decide)
    have d2 := gA_cut (pl := pl) (s := ps.length + 4 * (ps.length - 2)) (n := 4) (j := 2) (by decide)
    have d3 := gA_cut (pl := pl) (s := ps.length + 4 * (ps.length - 2)) (n := 4) (j := 3) (by decide)
    have s7 : Same H5 (upd H6 t0 (.tup [.int 0, .int 0])) := s6.trans (Same.new ht0)
    have ht7 : (upd H6 t0 (.tup [.int 0, .int 0])) t0 = some (.tup [.int 0, .int 0]) := upd_same
    have hq7 := upd_keep (o := .tup [.int 0, .int 0]) ht0 hq1
    clear s6 hq1 ht0
    generalize upd H6 t0 (.tup [.int 0, .int 0]) = H7 at *
    refine ⟨datPl (_, _), datPl (0, 0), dnPl (p := (_, _)) hq7, dnPl (p := (0, 0)) ht7, datPl_ok _ 7, datPl_ok _ 7, fun bb hbb => ?_⟩
    rw [hbb.mpr (datPl_inj.mpr (Prod.ext (by show gA _ 0 - 2 * gA _ 1 + gA _ 2 = 0; rw [c0.1, c1.1, c2.1]; exact A3) (by show gB _ 0 - 2 * gB _ 1 + gB _ 2 = 0; rw [c0.2, c1.2, c2.2]; exact B3)))]
    refine ⟨_, rfl, ifT rfl ?_⟩
    have hc7 := s7 _ _ hc5
    have at9 : atI uc (-1) = some (.ref lz) := atI_last' _ _ (by rw [hcl', show ps.length - 1 - 1 = ps.length - 2 by omega]; exact z1) (by omega)
    walk_at "rd"
    refine ⟨lz, 1, xz, _, rfl, s7 _ _ (s5 _ _ z2), (z3.same s5).same s7, by rw [l9]; decide, by rw [l9]; decide, fun q2 H8 s8 hq2 => ?_⟩
    walk_at "rd"
    intro t9 ht9
    refine ⟨datPl (_, _), datPl (0, 0), dnPl (p := (_, _)) (upd_keep ht9 hq2), dnPl (p := (0, 0)) upd_same, datPl_ok _ 7, datPl_ok _ 7, fun bb hbb => ?_⟩
    rw [hbb.mpr (datPl_inj.mpr (Prod.ext (by show gA _ 1 - 2 * gA _ 2 + gA _ 3 = 0; rw [d1.1, d2.1, d3.1]; exact A4) (by show gB _ 1 - 2 * gB _ 2 + gB _ 3 = 0; rw [d1.2, d2.2, d3.2]; exact B4)))]
    exact k _ ((((sI.trans s5).trans s7).trans s8).trans (Same.new ht9))
theorem ok_l_handed (F : FunAt K mg "_law_handed" s_l_handed ["_law_places", "_law_bottom"]) (B : Blt mg) (D_l_share : DefOk P w K mg base CX0 1 "_law_share" ["_law_top", "_law_bottom"] spLShare) : DefOk P w K mg base CX0 2 "_law_handed" ["_law_places", "_law_bottom"] (spHanded K) := by
  refine def_okI F sc_l_handed (fun vs H Q E h => ?_) (fun f cdv A outer s H vs Q E hr h => ?_)
  · obtain ⟨a, ws, pl, B, rfl, _⟩ := h; rfl
  · obtain ⟨a, ws, pl, B, rfl, hS, hP, B1, zB, h1000, k⟩ := h
    have hu := hr.units
    refine ⟨_, (pss_oneI (ps_retI (pe_compSI (os := ["_law_x", "_law_y"]) (caps := [(1, "_law_bottom")]) ["_law_places", "_law_bottom"] (defScope s_l_handed) (pi_listI (pvI 0)) (fun _ _ _ _ _ => (pg_tupKI (n := 2) K rfl (pgs_consI (pg_nameI (i := 0) (show List.Nodup (["_law_x", "_law_y", "_law_bottom"] : List Str) from by decide +kernel) rfl (by first | exact Or.inl rfl | exact Or.inr rfl)) (pgs_consI (pg_nameI (i := 1) (show List.Nodup (["_law_x", "_law_y", "_law_bottom"] : List Str) from by decide +kernel) rfl (by first | exact Or.inl rfl | exact Or.inr rfl)) pgs_nilI)))) (fun _ _ _ _ _ => (pe_tupI (pa_consI (pe_fnI D_l_share hr pass0 (pa_consI (pvI 0) (pa_consI (pvI 2) pa_nilI))) (pa_consI (pe_fnI D_l_share hr pass0 (pa_consI (pvI 1) (pa_consI (pvI 2) pa_nilI))) pa_nilI)))) (by decide +kernel)))), ?_⟩
    walk_at "rd"
    refine ⟨⟨_, hS⟩, comp2 (plain_pls hS hP) (by omega) (fun i v H => PtV H v (Rat.divInt ((pl[i]?).getD (0, 0)).1 B) (Rat.divInt ((pl[i]?).getD (0, 0)).2 B)) (fun _ _ _ _ t h => h.tup t) (fun i H2 kk hi s2 hk => ?_) (fun E us H2 hE s2 hE2 hl hr => ?_)⟩
    · walk_at "rd"
      refine ⟨_, _, rfl, by omega, zB, fun v3 H3 s3 w3 => ?_⟩
      walk_at "rd"
      refine ⟨_, _, rfl, by omega, zB, fun v4 H4 s4 w4 => ?_⟩
      walk_at "rd"
      intro p hp
      exact hk _ _ (by walk_at "sm") ⟨p, v3, v4, rfl, upd_same, by walk_at "mv", by walk_at "mv"⟩
    · refine k E us H2 s2 hE hE2 ⟨by rw [hl]; unfold ptsOf; rw [List.length_map], fun i v p e1 e2 => ?_⟩
      unfold ptsOf at e2
      rw [List.getElem?_map] at e2
      have := hr i v e1
      cases e3 : pl[i]? with
      | none => rw [e3] at e2; cases e2
      | some q => rw [e3] at e2 this; cases e2; exact this
theorem ok_l_stream (F : FunAt K mg "_law_stream" s_l_stream ["_law_cell", "_law_many"]) (B : Blt mg) : DefOk P w K mg base CX0 1 "_law_stream" ["_law_cell", "_law_many"] spStreamC := by
  refine def_okI F sc_l_stream (fun vs H Q E h => ?_) (fun f cdv A outer s H vs Q E hr h => ?_)
  · obtain ⟨c, n, rfl, _⟩ := h; rfl
  · obtain ⟨c, n, rfl, hn, k⟩ := h
    have hu := hr.units
    refine ⟨_, (pss_consI (ps_setI (i := 2) sc_l_stream.nd rfl (by first | exact Or.inl rfl | exact Or.inr rfl) (pe_opI op_add pe_intI (pe_opI op_mod (pvI 0) pe_intI)))
      (pss_consI (ps_setI (i := 3) sc_l_stream.nd rfl (by first | exact Or.inl rfl | exact Or.inr rfl) (pe_lstI pa_nilI))
      (pss_consI (ps_forI PassesOwn.never rfl (pi_range1I rfl B.range (pa_consI (pe_opI op_add (pvI 1) pe_intI) pa_nilI)) (pg_nameI (i := 4) sc_l_stream.nd rfl (by first | exact Or.inl rfl | exact Or.inr rfl))
      (pss_consI (ps_setI (i := 2) sc_l_stream.nd rfl (by first | exact Or.inl rfl | exact Or.inr rfl) (pe_opI op_mod (pe_opI op_mulA (pvI 2) pe_intI) pe_intI))
      (pss_oneI (ps_exprI (pe_bmI PySem.F.plainAttrs_list PySem.F.slot_list_append PySem.F.type_list_append mt_append (pvI 3) (pa_consI (pvI 2) pa_nilI))))))
      (pss_oneI (ps_retI (pe_sliceI (sl_listK K) (pvI 3) (po_someI pe_intI) po_noneI)))))), ?_⟩
    walk_at "rd"
    intro l hl
    walk_at "rd"
    refine ⟨by omega, by omega, for_range (fun i σ H' => ∃ (x : Int) (xs : List Int) (y : Option V), σ = [some (.int c), some (.int (n : Int)), some (.int x), some (.ref l), y] ∧ Same H H' ∧ H' l = some (.lst (xs.map V.int)) ∧ xs.length = i ∧ ∀ z ∈ xs, 0 ≤ z ∧ z ≤ 2147483647) ⟨_, [], none, rfl, Same.new hl, upd_same, rfl, fun _ h => nomatch h⟩ ?_ ?_⟩
    · rintro i σ H2 hi ⟨x, xs, y, rfl, s2, h2, hlen, hx⟩
      walk_at "rd"
      refine ⟨.inl ⟨rfl, _, SqL.of h2⟩, ?_⟩
      walk_at "rd"
      refine ⟨l, _, _, rfl, rfl, h2, ?_, ?_⟩
      · rw [List.length_map, hlen]; exact small_line (by omega)
      · refine ⟨_, xs ++ [x * 48271 % 2147483647], _, rfl, fun b o e => ?_, ?_, ?_, ?_⟩
        · rw [upd_ne (ne_of_none e hl)]; exact s2 b o e
        · rw [upd_same, List.map_append]; rfl
        · rw [List.length_append, hlen]; rfl
        · intro z hz
          rcases List.mem_append.mp hz with hz | hz
          · exact hx z hz
          · cases List.mem_singleton.mp hz
            have := Int.emod_nonneg (x * 48271) (b := 2147483647) (by decide)
            have := Int.emod_lt_of_pos (x * 48271) (b := 2147483647) (by decide)
            omega
    · rintro σ H2 ⟨x, xs, y, rfl, s2, h2, hlen, hx⟩
      refine ⟨_, rfl, 2, rfl, l, _, rfl, SqL.of h2, fun q hq => ?_⟩
      rw [cut_fromI V.int xs 2 2 rfl (by omega)]
      exact k q (xs.drop 2) _ (s2.trans (Same.new hq)) (s2.free hq) upd_same (by rw [List.length_drop, hlen]; omega) fun z hz => hx z (List.mem_of_mem_drop hz)
theorem ok_l_place (F : FunAt K mg "_law_place" s_l_place ["_law_cell", "_law_way_here"]) (B : Blt mg) (D_l_stream : DefOk P w K mg base CX0 1 "_law_stream" ["_law_cell", "_law_many"] spStreamC) : DefOk P w K mg base CX0 2 "_law_place" ["_law_cell", "_law_way_here"] spPlace := by
  refine def_okI F sc_l_place (fun vs H Q E h => ?_) (fun f cdv A outer s H vs Q E hr h => ?_)
  · obtain ⟨c, w, B, kd, rfl, _⟩ := h; rfl
  · obtain ⟨c, _, B, kd, rfl, ⟨a, s, b, sx, sy, bx, by_, rfl, ha, hs, hb, B1, B2, z1, z2, z3, z4⟩, k⟩ := h
    have hu := hr.units
    refine ⟨_, (pss_consI (ps_asgI (pvI 1) (pg_tupKI (n := 4) K rfl (pgs_consI (pg_nameI (i := 2) sc_l_place.nd rfl (by first | exact Or.inl rfl | exact Or.inr rfl)) (pgs_consI (pg_nameI (i := 3) sc_l_place.nd rfl (by first | exact Or.inl rfl | exact Or.inr rfl)) (pgs_consI (pg_nameI (i := 4) sc_l_place.nd rfl (by first | exact Or.inl rfl | exact Or.inr rfl)) (pgs_consI (pg_nameI (i := 5) sc_l_place.nd rfl (by first | exact Or.inl rfl | exact Or.inr rfl)) pgs_nilI))))))
      (pss_consI (ps_setI (i := 6) sc_l_place.nd rfl (by first | exact Or.inl rfl | exact Or.inr rfl) (pe_fnI D_l_stream hr pass0 (pa_consI (pvI 0) (pa_consI pe_intI pa_nilI))))
      (pss_consI (ps_ifI (pt_cmpRI op_eq (pvI 3) pe_intI (nomark _)) (pss_oneI (ps_retI (pe_tupI (pa_consI (pe_opI op_sub (pe_opI op_mod (pvI 0) (pe_opI op_pow pe_intI pe_intI)) (pe_opI op_mulA pe_intI (pe_opI op_pow pe_intI pe_intI))) (pa_consI (pe_opI op_sub (pe_opI op_mod (pe_opI op_mulA (pvI 0) (pe_ixI (ix_listK K) (pvI 6) pe_intI (fun _ _ => rfl))) (pe_opI op_pow pe_intI pe_intI)) (pe_opI op_mulA pe_intI (pe_opI op_pow pe_intI pe_intI))) pa_nilI))))) pss_nilI)
      (pss_consI (ps_ifI (pt_cmpRI op_eq (pvI 3) pe_intI (nomark _)) (pss_oneI (ps_retI (pe_tupI (pa_consI (pe_opI op_add (pe_ixI (ix_tupK K) (pvI 4) pe_intI (fun _ _ => rfl)) (pe_opI op_mulA (pe_ixI (ix_tupK K) (pvI 5) pe_intI (fun _ _ => rfl)) (pe_opI op_mod (pe_ixI (ix_listK K) (pvI 6) pe_intI (fun _ _ => rfl)) pe_intI))) (pa_consI (pe_opI op_add (pe_ixI (ix_tupK K) (pvI 4) pe_intI (fun _ _ => rfl)) (pe_opI op_mulA (pe_ixI (ix_tupK K) (pvI 5) pe_intI (fun _ _ => rfl)) (pe_opI op_mod (pe_ixI (ix_listK K) (pvI 6) pe_intI (fun _ _ => rfl)) pe_intI))) pa_nilI))))) pss_nilI)
      (pss_consI (ps_ifI (pt_cmpRI op_eq (pvI 3) pe_intI (nomark _)) (pss_oneI (ps_retI (pe_tupI (pa_consI (pe_opI op_add (pe_ixI (ix_tupK K) (pvI 4) pe_intI (fun _ _ => rfl)) (pe_opI op_mulA (pe_opI op_mod (pe_ixI (ix_listK K) (pvI 6) pe_intI (fun _ _ => rfl)) pe_intI) (pe_ixI (ix_tupK K) (pvI 5) pe_intI (fun _ _ => rfl)))) (pa_consI (pe_ixI (ix_tupK K) (pvI 4) pe_intI (fun _ _ => rfl)) pa_nilI))))) pss_nilI)
      (pss_consI (ps_ifI (pt_cmpRI op_eq (pvI 3) pe_intI (nomark _)) (pss_oneI (ps_retI (pe_tupI (pa_consI (pe_opI op_add (pe_opI op_mulA (pe_ixI (ix_tupK K) (pvI 4) pe_intI (fun _ _ => rfl)) (pe_opI op_pow pe_intI pe_intI)) (pe_opI op_mod (pe_ixI (ix_listK K) (pvI 6) pe_intI (fun _ _ => rfl)) pe_intI)) (pa_consI (pe_opI op_add (pe_opI op_mulA (pe_ixI (ix_tupK K) (pvI 4) pe_intI (fun _ _ => rfl)) (pe_opI op_pow pe_intI pe_intI)) (pe_opI op_mod (pe_ixI (ix_listK K) (pvI 6) pe_intI (fun _ _ => rfl)) pe_intI)) pa_nilI))))) pss_nilI)
      (pss_consI (ps_ifI (pt_cmpRI op_gt (pvI 0) pe_intI (nomark _)) (pss_oneI (ps_retI (pe_tupI (pa_consI (pe_opI op_sub (pe_opI op_mod (pvI 0) pe_intI) pe_intI) (pa_consI (pe_opI op_sub (pe_opI op_mod (pe_opI op_fdiv (pvI 0) pe_intI) pe_intI) pe_intI) pa_nilI))))) pss_nilI)
      (pss_oneI (ps_retI (pe_tupI (pa_consI (pe_opI op_sub (pe_opI op_mod (pe_ixI (ix_listK K) (pvI 6) pe_intI (fun _ _ => rfl)) pe_intI) pe_intI) (pa_consI (pe_opI op_sub (pe_opI op_mod (pe_ixI (ix_listK K) (pvI 6) pe_intI (fun _ _ => rfl)) pe_intI) pe_intI) pa_nilI)))))))))))), ?_⟩
    walk_at "rd"
    refine ⟨a, _, rfl, SqT.of ha, rfl, _, _, rfl, _, _, rfl, _, _, rfl, _, _, rfl, rfl, ?_⟩
    walk_at "rd"
    refine ⟨c, 4, rfl, by decide, fun lx xs H1 s1 hx0 hx hxl hnn => ?_⟩
    have nn : ∀ j : Nat, 0 ≤ xs.getD j 0 := fun j => getD_nn (fun x h => (hnn x h).1) j
    have n0 := nn 0
    have n1 := nn 1
    have m0 : xs.getD 0 0 ≤ 2147483647 := by
      have e : xs[0]? = some (xs[0]'(by omega)) := List.getElem?_eq_getElem _
      rw [List.getD_eq_getElem?_getD, e]; exact (hnn _ (List.getElem_mem _)).2
    have m0' : xs.getD (Int.toNat 0) 0 ≤ 2147483647 := m0
    have n0' : 0 ≤ xs.getD (Int.toNat 0) 0 := n0
    have n1' : 0 ≤ xs.getD (Int.toNat 1) 0 := n1
    have hx1 : SqL K H1 lx (xs.map V.int) := SqL.of hx
    walk_at "rd"
    refine ifB (fun _ => ?_) (fun _ => ?_)
    · walk_at "rd"
      intro g hg
      rw [p29, p30] at *
      have a1 := Int.emod_nonneg c (b := 1000000000000000000000000000000) (by decide)
      have a2 := Int.emod_lt_of_pos c (b := 1000000000000000000000000000000) (by decide)
      have a3 := Int.emod_nonneg (c * xs.getD (Int.toNat 0) 0) (b := 1000000000000000000000000000000) (by decide)
      have a4 := Int.emod_lt_of_pos (c * xs.getD (Int.toNat 0) 0) (b := 1000000000000000000000000000000) (by decide)
      exact k _ _ _ _ (by walk_at "sm") ⟨g, rfl, upd_same⟩ (sz_of (b := 1000000000000000000000000000000) (by omega) (by decide)) (sz_of (b := 1000000000000000000000000000000) (by omega) (by decide))
    have hs1 := s1 _ _ hs
    have hb1 := s1 _ _ hb
    have f9 : ∀ (u v : Int), u.natAbs ≤ 3 → 0 ≤ v → v < 9 → (u * v).natAbs ≤ 27 := fun u v h1 h2 h3 => by
      rw [Int.natAbs_mul]
      exact Nat.le_trans (Nat.mul_le_mul h1 (show v.natAbs ≤ 9 by omega)) (by decide)
    walk_at "rd"
    refine ifB (fun _ => ?_) (fun _ => ?_)
    · walk_at "rd"
      intro g hg
      have q1 := f9 bx (xs.getD (Int.toNat 0) 0 % 9) z3 (by omega) (by omega)
      have q2 := f9 by_ (xs.getD (Int.toNat 0) 0 % 9) z4 (by omega) (by omega)
      exact k _ _ _ _ (by walk_at "sm") ⟨g, rfl, upd_same⟩ (sz_of (b := 1000000000000000000000000000000) (by omega) (by decide)) (sz_of (b := 1000000000000000000000000000000) (by omega) (by decide))
    walk_at "rd"
    refine ifB (fun _ => ?_) (fun _ => ?_)
    · walk_at "rd"
      intro g hg
      have q1 := f9 bx (xs.getD (Int.toNat 0) 0 % 2) z3 (by omega) (by omega)
      rw [Int.mul_comm] at q1
      exact k _ _ _ _ (by walk_at "sm") ⟨g, rfl, upd_same⟩ (sz_of (b := 1000000000000000000000000000000) (by omega) (by decide)) (sz_of (b := 1000000000000000000000000000000) (by omega) (by decide))
    walk_at "rd"
    refine ifB (fun _ => ?_) (fun _ => ?_)
    · walk_at "rd"
      intro g hg
      rw [p25] at *
      exact k _ _ _ _ (by walk_at "sm") ⟨g, rfl, upd_same⟩ (sz_of (b := 1000000000000000000000000000000) (by omega) (by decide)) (sz_of (b := 1000000000000000000000000000000) (by omega) (by decide))
    walk_at "rd"
    refine ite_dec (fun _ => ?_) (fun _ => ?_)
    · walk_at "rd"
      intro g hg
      exact k _ _ _ _ (by walk_at "sm") ⟨g, rfl, upd_same⟩ (sz_of (b := 1000000000000000000000000000000) (by omega) (by decide)) (sz_of (b := 1000000000000000000000000000000) (by omega) (by decide))
    walk_at "rd"
    intro g hg
    exact k _ _ _ _ (by walk_at "sm") ⟨g, rfl, upd_same⟩ (sz_of (b := 1000000000000000000000000000000) (by omega) (by decide)) (sz_of (b := 1000000000000000000000000000000) (by omega) (by decide))
theorem ok_l_way (F : FunAt K mg "_law_way" s_l_way ["_law_cell"]) (B : Blt mg) (D_l_stream : DefOk P w K mg base CX0 1 "_law_stream" ["_law_cell", "_law_many"] spStreamC) : DefOk P w K mg base CX0 2 "_law_way" ["_law_cell"] spWay := by
  refine def_okI F sc_l_way (fun vs H Q E h => ?_) (fun f cdv A outer s H vs Q E hr h => ?_)
  · obtain ⟨c, rfl, _⟩ := h; rfl
  · obtain ⟨c, rfl, k⟩ := h
    have hu := hr.units
    refine ⟨_, (pss_consI (ps_setI (i := 1) sc_l_way.nd rfl (by first | exact Or.inl rfl | exact Or.inr rfl) (pe_fnI D_l_stream hr pass0 (pa_consI (pvI 0) (pa_consI pe_intI pa_nilI))))
      (pss_consI (ps_setI (i := 2) sc_l_way.nd rfl (by first | exact Or.inl rfl | exact Or.inr rfl) (pe_ixI (ix_listK K) (pe_lstI (pa_consI pe_intI (pa_consI pe_intI (pa_consI pe_intI (pa_consI pe_intI (pa_consI pe_intI (pa_consI pe_intI (pa_consI pe_intI (pa_consI (pe_opI op_add (pe_opI op_pow pe_intI pe_intI) pe_intI) pa_nilI))))))))) (pe_opI op_mod (pe_ixI (ix_listK K) (pvI 1) pe_intI (fun _ _ => rfl)) pe_intI) (fun _ _ => rfl)))
      (pss_consI (ps_setI (i := 3) sc_l_way.nd rfl (by first | exact Or.inl rfl | exact Or.inr rfl) (pe_tupI (pa_consI (pe_opI op_sub (pe_opI op_mod (pe_ixI (ix_listK K) (pvI 1) pe_intI (fun _ _ => rfl)) pe_intI) pe_intI) (pa_consI (pe_opI op_sub (pe_opI op_mod (pe_ixI (ix_listK K) (pvI 1) pe_intI (fun _ _ => rfl)) pe_intI) pe_intI) pa_nilI))))
      (pss_oneI (ps_retI (pe_tupI (pa_consI (pvI 2) (pa_consI (pe_opI op_mod (pe_ixI (ix_listK K) (pvI 1) pe_intI (fun _ _ => rfl)) pe_intI) (pa_consI (pvI 3) (pa_consI (pe_tupI (pa_consI (pe_opI op_sub (pe_opI op_mod (pe_ixI (ix_listK K) (pvI 1) pe_intI (fun _ _ => rfl)) pe_intI) pe_intI) (pa_consI (pe_opI op_sub (pe_opI op_mod (pe_ixI (ix_listK K) (pvI 1) pe_intI (fun _ _ => rfl)) pe_intI) pe_intI) pa_nilI))) pa_nilI)))))))))), ?_⟩
    walk_at "rd"
    refine ⟨c, 6, rfl, by decide, fun lx xs H1 s1 hx0 hx hxl hnn => ?_⟩
    have nn : ∀ j : Nat, 0 ≤ xs.getD j 0 := fun j => getD_nn (fun x h => (hnn x h).1) j
    have n0 := nn 0
    have n1 := nn 1
    have n2 := nn 2
    have n3 := nn 3
    have n4 := nn 4
    have n5 := nn 5
    have hx1 : SqL K H1 lx (xs.map V.int) := SqL.of hx
    walk_at "rd"
    intro lb hlb
    walk_at "rd"
    obtain ⟨B, hB, B1, B2⟩ := tab [1, 1, 2, 3, 6, 12, 8, (10 : Int) ^ (9 : Int).toNat + 7] 1 1000000007 (xs.getD (Int.toNat 0) 0 % 8) (by rw [p9]; decide) (by omega) (by show _ < (8 : Int); omega)
    refine ⟨_, _, _, _, rfl, rfl, SqL.of upd_same, hB, ?_⟩
    walk_at "rd"
    intro ls hls
    walk_at "rd"
    intro lz hlz
    walk_at "rd"
    intro la hla
    exact k _ B _ _ (by walk_at "sm") ⟨la, ls, lz, _, _, _, _, rfl, upd_same, by walk_at "hf", by walk_at "hf", by omega, by omega, by omega, by omega, by omega, by omega⟩
theorem ok_greatest_common (F : FunAt K mg "greatest_common" s_greatest_common ["one", "other"]) (B : Blt mg) : DefOk P w K mg base CX0 1 "greatest_common" ["one", "other"] spGcd := by
  refine def_okI F sc_greatest_common (fun vs H Q E h => ?_) (fun f cdv A outer s H vs Q E hr h => ?_)
  · obtain ⟨a, b, rfl, _⟩ := h; rfl
  · obtain ⟨a, b, rfl, k⟩ := h
    have hu := hr.units
    refine ⟨_, (pss_consI (ps_whileI PassesOwn.never (pt_cmpRI op_ne (pvI 1) pe_intI (nomark _)) (pss_oneI (ps_parI (i := 0) (j := 1) rfl sc_greatest_common.nd rfl rfl (by decide) rfl rfl (pa_consI (pvI 1) (pa_consI (pe_opI op_modN (pvI 0) (pvI 1)) pa_nilI)) rfl)))
      (pss_oneI (ps_retI (pe_callBI call_abs (by rfl) B.abs PyProof.Rows.boot_abs (pa_consI (pvI 0) pa_nilI))))), ?_⟩
    refine while_by (fun σ H' => ∃ x y : Int, σ = [some (.int x), some (.int y)] ∧ H' = H ∧ Int.gcd x y = Int.gcd a b) (fun σ _ => match σ with | [_, some (.int y)] => y.natAbs | _ => 0) ⟨a, b, rfl, rfl, rfl⟩ ?_ ?_
    · rintro σ H' ⟨x, y, rfl, rfl, e⟩
      refine ⟨_, rfl, rfl, _, rfl, ?_⟩
      by_cases hy : y = 0
      · subst hy
        refine iteNS rfl ?_
        refine ⟨_, rfl, _, rfl, ?_⟩
        rw [gcd_zero, e]
        exact k
      · refine ifT (dec_int_ne hy) ?_
        refine ⟨_, rfl, _, rfl, _, rfl, _, _, rfl, rfl, hy, _, _, rfl, ⟨_, _, rfl, rfl, ?_⟩, ?_⟩
        · rw [gcd_step]; exact e
        · exact fmod_lt x y hy
    · rintro σ H' Q Q' hq ⟨v, h1, hs, k1, h2, h3⟩
      exact ⟨v, h1, hs, k1, h2, hq _ _ h3⟩
theorem ok_common_bottoms (F : FunAt K mg "common_bottoms" s_common_bottoms ["shares"]) (B : Blt mg) (D_greatest_common : DefOk P w K mg base CX0 1 "greatest_common" ["one", "other"] spGcd) : DefOk P w K mg base CX0 2 "common_bottoms" ["shares"] (spCommon K) := by
  refine def_okI F sc_common_bottoms (fun vs H Q E h => ?_) (fun f cdv A outer s H vs Q E hr h => ?_)
  · obtain ⟨a, ws, qs, D, rfl, _⟩ := h; rfl
  · obtain ⟨a, ws, qs, D, rfl, hS, hQ, hD, zD, hdv, h40, k⟩ := h
    have hu := hr.units
    refine ⟨_, (pss_consI (ps_setI (i := 1) sc_common_bottoms.nd rfl (by first | exact Or.inl rfl | exact Or.inr rfl) (pe_lstI pa_nilI))
      (pss_consI (ps_setI (i := 2) sc_common_bottoms.nd rfl (by first | exact Or.inl rfl | exact Or.inr rfl) pe_intI)
      (pss_consI (ps_forI PassesOwn.never rfl (pi_listI (pvI 0)) (pg_nameI (i := 3) sc_common_bottoms.nd rfl (by first | exact Or.inl rfl | exact Or.inr rfl))
      (pss_consI (ps_setI (i := 4) sc_common_bottoms.nd rfl (by first | exact Or.inl rfl | exact Or.inr rfl) (pe_opI op_fdivB (pe_ixI (ix_tupK K) (pvI 3) pe_intI (fun _ _ => rfl)) (pe_fnI D_greatest_common hr pass0 (pa_consI (pvI 2) (pa_consI (pe_ixI (ix_tupK K) (pvI 3) pe_intI (fun _ _ => rfl)) pa_nilI)))))
      (pss_oneI (ps_ifI (pt_cmpRI op_gt (pvI 4) pe_intI (nomark _)) (pss_consI (ps_exprI (pe_bmI PySem.F.plainAttrs_list PySem.F.slot_list_append PySem.F.type_list_append mt_append (pvI 1) (pa_consI (pvI 4) pa_nilI)))
      (pss_oneI (ps_setI (i := 2) sc_common_bottoms.nd rfl (by first | exact Or.inl rfl | exact Or.inr rfl) (pe_opI op_mulA (pvI 2) (pvI 4))))) pss_nilI))))
      (pss_oneI (ps_retI (pvI 1)))))), ?_⟩
    walk_at "rd"
    intro l hl
    walk_at "rd"
    refine ⟨⟨ws, by walk_at "mv"⟩, for_list (xs := ws) (fun i σ H' => ∃ (y1 y2 : Option V) (W : Int) (bs : List Int), σ = [some (.ref a), some (.ref l), some (.int W), y1, y2] ∧ W = prodI bs ∧ Same H H' ∧ H' l = some (.lst (bs.map V.int)) ∧ (∀ b ∈ bs, 0 < b ∧ Sz 9000 b) ∧ W ∣ D ∧ (∀ j q, j < i → qs[j]? = some q → (q.den : Int) ∣ W) ∧ bs.length ≤ i)
      ⟨none, none, 1, [], rfl, rfl, Same.new hl, upd_same, (fun _ h => nomatch h), ⟨D, by rw [Int.one_mul]⟩, fun j q h => absurd h (Nat.not_lt_zero _), Nat.le_refl _⟩ ?_ ?_ ?_⟩
    · rintro i σ H' hi ⟨y1, y2, W, bs, rfl, eW, s1, h1, hb, hW, hq, hn⟩
      exact s1.seq hS
    · rintro i x σ H' hx ⟨y1, y2, W, bs, rfl, eW, s1, h1, hb, hW, hq, hn⟩
      have hi : i < ws.length := (List.getElem?_eq_some_iff.mp hx).1
      have hwl := hQ.len
      obtain ⟨q, eq, c, rfl, hc⟩ := (hQ.same s1).atV hx
      have hdq := hdv q (List.mem_of_getElem? eq)
      have hd0 : 0 < (q.den : Int) := by have := q.den_pos; omega
      obtain ⟨g1, g2, g3, g4, g5⟩ := lcm_step hd0 hW hdq
      have zq : Sz 9000 (q.den : Int) := sz_dvd (by omega) hdq zD
      have zg : Sz 9000 (Int.gcd W q.den : Int) := sz_dvd (by omega) g5 zq
      walk_at "rd"
      refine ⟨W, q.den, rfl, ?_⟩
      refine ⟨_, _, rfl, rfl, ⟨by omega, zg⟩, ?_⟩
      walk_at "rd"
      have zW : Sz 9000 W := sz_dvd (by omega) hW zD
      have zm : Sz 9000 ((q.den : Int).fdiv (Int.gcd W q.den)) := quo_sz hd0 g4 g5 zq
      refine ite_dec (fun hm => ?_) (fun hm => ?_)
      · walk_at "rd"
        refine ⟨.inl ⟨rfl, _, SqL.of h1⟩, ?_⟩
        walk_at "rd"
        refine ⟨l, _, _, rfl, rfl, h1, small_line (by rw [List.length_map]; omega), ?_⟩
        walk_at "rd"
        refine ⟨_, _, _, bs ++ [(q.den : Int).fdiv (Int.gcd W q.den)], rfl, by rw [prodI_snoc, eW], fun b o e => ?_, ?_, ?_, g2, ?_, ?_⟩
        · rw [upd_ne (ne_of_none e hl)]; exact s1 b o e
        · rw [upd_same, List.map_append]; rfl
        · intro b hb'
          rcases List.mem_append.mp hb' with h | h
          · exact hb b h
          · rw [List.mem_singleton.mp h]; exact ⟨g3, zm⟩
        · intro j r hj er
          by_cases hji : j = i
          · subst hji
            rw [eq] at er; cases er
            exact g1
          · exact Int.dvd_trans (hq j r (by omega) er) ⟨_, rfl⟩
        · rw [List.length_append]; show bs.length + 1 ≤ i + 1; omega
      · have e1 : (q.den : Int).fdiv (Int.gcd W q.den) = 1 := by omega
        rw [e1, Int.mul_one] at g1
        refine ⟨_, _, _, bs, rfl, eW, s1, h1, hb, hW, ?_, by omega⟩
        intro j r hj er
        by_cases hji : j = i
        · subst hji
          rw [eq] at er; cases er
          exact g1
        · exact hq j r (by omega) er
    · rintro σ H' ⟨y1, y2, W, bs, rfl, eW, s1, h1, hb, hW, hq, hn⟩
      have hwl := hQ.len
      refine ⟨_, rfl, k l bs H' s1 h1 hb (fun q hm => ?_) (eW ▸ hW) (by omega)⟩
      obtain ⟨j, hj, rfl⟩ := List.getElem_of_mem hm
      rw [← eW]
      exact hq j _ (by omega) (List.getElem?_eq_getElem hj)
theorem ok_product (F : FunAt K mg "product" s_product ["numbers"]) (B : Blt mg) : DefOk P w K mg base CX0 1 "product" ["numbers"] (spProduct K) := by
  refine def_okI F sc_product (fun vs H Q E h => ?_) (fun f cdv A outer s H vs Q E hr h => ?_)
  · obtain ⟨a, bs, rfl, _⟩ := h; rfl
  · obtain ⟨a, bs, rfl, hS, hb, hn, k⟩ := h
    have hu := hr.units
    refine ⟨_, (pss_consI (ps_setI (i := 1) sc_product.nd rfl (by first | exact Or.inl rfl | exact Or.inr rfl) pe_intI)
      (pss_consI (ps_forI PassesOwn.never rfl (pi_listI (pvI 0)) (pg_nameI (i := 2) sc_product.nd rfl (by first | exact Or.inl rfl | exact Or.inr rfl))
      (pss_oneI (ps_setI (i := 1) sc_product.nd rfl (by first | exact Or.inl rfl | exact Or.inr rfl) (pe_opI op_mulA (pvI 1) (pvI 2)))))
      (pss_oneI (ps_retI (pvI 1))))), ?_⟩
    walk_at "rd"
    refine ⟨⟨_, hS⟩, for_list (xs := bs.map V.int) (fun i σ H' => ∃ (y : Option V) (W : Int), σ = [some (.ref a), some (.int W), y] ∧ W = prodI (bs.take i) ∧ H' = H) ⟨none, 1, rfl, rfl, rfl⟩ ?_ ?_ ?_⟩
    · rintro i σ H' hi ⟨y, W, rfl, eW, rfl⟩
      exact hS
    · rintro i x σ H' hx ⟨y, W, rfl, eW, rfl⟩
      obtain ⟨b, eb, rfl⟩ := ints_at hx
      have zW : Sz (9000 * 100 + 1) W := by
        rw [eW]
        exact (prod_sz fun c hc => hb c (List.mem_of_mem_take hc)).mono (by rw [List.length_take]; omega)
      walk_at "rd"
      refine ⟨mulB zW (hb b (List.mem_of_getElem? eb)).2, _, _, rfl, ?_, rfl⟩
      rw [take_snoc eb, prodI_snoc, eW]
    · rintro σ H' ⟨y, W, rfl, eW, rfl⟩
      refine ⟨_, rfl, ?_⟩
      rw [List.length_map, List.take_length] at eW
      rw [eW]; exact k
theorem ok_axis (F : FunAt K mg "axis" s_axis ["shares"]) (B : Blt mg) (D_common_bottoms : DefOk P w K mg base CX0 2 "common_bottoms" ["shares"] (spCommon K)) (D_product : DefOk P w K mg base CX0 1 "product" ["numbers"] (spProduct K)) : DefOk P w K mg base CX0 3 "axis" ["shares"] (spAxisD K) := by
  refine def_okI F sc_axis (fun vs H Q E h => ?_) (fun f cdv A outer s H vs Q E hr h => ?_)
  · obtain ⟨a, ws, qs, D, m, rfl, _⟩ := h; rfl
  · obtain ⟨a, ws, qs, D, m, rfl, hS, hQ, hD, zD, hdv, hm, h40, k⟩ := h
    have hu := hr.units
    refine ⟨_, (pss_consI (ps_setI (i := 1) sc_axis.nd rfl (by first | exact Or.inl rfl | exact Or.inr rfl) (pe_fnI D_common_bottoms hr pass0 (pa_consI (pvI 0) pa_nilI)))
      (pss_consI (ps_setI (i := 2) sc_axis.nd rfl (by first | exact Or.inl rfl | exact Or.inr rfl) (pe_fnI D_product hr pass0 (pa_consI (pvI 1) pa_nilI)))
      (pss_oneI (ps_retI (pe_tupI (pa_consI (pe_compSI (os := ["one"]) (caps := [(2, "whole")]) ["shares", "bottoms", "whole"] (defScope s_axis) (pi_listI (pvI 0)) (fun _ _ _ _ _ => (pg_nameI (i := 0) (show List.Nodup (["one", "whole"] : List Str) from by decide +kernel) rfl (by first | exact Or.inl rfl | exact Or.inr rfl))) (fun _ _ _ _ _ => (pe_opI op_mulA (pe_ixI (ix_tupK K) (pvI 0) pe_intI (fun _ _ => rfl)) (pe_opI op_fdivB (pvI 1) (pe_ixI (ix_tupK K) (pvI 0) pe_intI (fun _ _ => rfl))))) (by decide +kernel)) (pa_consI (pvI 1) pa_nilI))))))), ?_⟩
    walk_at "rd"
    refine ⟨a, ws, qs, D, rfl, hS, hQ, hD, zD, fun q hq => (hdv q hq).1, h40, fun lb bs H1 s1 hlb hb hdb hbD hbl => ?_⟩
    have hW : 0 < prodI bs := prodI_pos fun b hb' => (hb b hb').1
    have zW : Sz 9000 (prodI bs) := sz_dvd (by omega) hbD zD
    have hwl := hQ.len
    walk_at "rd"
    refine ⟨lb, bs, rfl, SqL.of hlb, hb, by omega, ?_⟩
    walk_at "rd"
    refine ⟨⟨_, s1.seq hS⟩, comp1 (plain_list (s1.seq hS)) (by omega) (fun i v _ => ∀ q, qs[i]? = some q → v = .int (q.num * (prodI bs).fdiv q.den)) (fun _ _ _ _ _ h => h) (fun i H2 kk hi s2 hk => ?_) (fun E2 ys H2 hE s2 hE2 hl hr => ?_)⟩
    · have ew : ws[i]? = some ws[i] := List.getElem?_eq_getElem hi
      obtain ⟨q, eq, c, ec, hc⟩ := ((hQ.same s1).same s2).atV ew
      have ef : (ws[i]?).getD V.non = .ref c := by rw [ew]; exact ec
      obtain ⟨dq, bq⟩ := hdv q (List.mem_of_getElem? eq)
      have hd0 : 0 < (q.den : Int) := by have := q.den_pos; omega
      have zq : Sz 9000 (q.den : Int) := sz_dvd (by omega) dq zD
      have dW := hdb q (List.mem_of_getElem? eq)
      have zf : Sz 9000 ((prodI bs).fdiv q.den) := quo_sz hW hd0 dW zW
      rw [ef]
      walk_at "rd"
      refine ⟨⟨by omega, zq⟩, ?_⟩
      refine ⟨_, _, rfl, rfl, mulN bq.num zf (by omega), ?_⟩
      refine hk _ _ (L2.Same.refl _) fun q' e' => ?_
      rw [eq] at e'; cases e'
      rfl
    · walk_at "rd"
      intro p hp
      have ey := ints_of (by omega) hr
      refine k _ (qs.map fun q => q.num * (prodI bs).fdiv q.den) bs _ (by walk_at "sm") ⟨p, E2, lb, rfl, upd_same, ?_, ?_, ?_, hb, by omega, by rw [List.length_map]; omega⟩ (axR_tops hW hdb) hbl hbD
      · rw [← ey]; exact upd_keep hp hE2
      · exact upd_keep hp (s2 _ _ hlb)
      · intro x hx
        obtain ⟨q, hq, rfl⟩ := List.mem_map.mp hx
        obtain ⟨dq, bq⟩ := hdv q hq
        exact (bq.num.mul (quo_sz hW (by have := q.den_pos; omega) (hdb q hq) zW)).mono (by omega)
theorem ok_axes (F : FunAt K mg "axes" s_axes ["points"]) (B : Blt mg) (D_axis : DefOk P w K mg base CX0 3 "axis" ["shares"] (spAxisD K)) : DefOk P w K mg base CX0 4 "axes" ["points"] (spAxesD K) := by
  refine def_okI F sc_axes (fun vs H Q E h => ?_) (fun f cdv A outer s H vs Q E hr h => ?_)
  · obtain ⟨a, ws, ps, D, m, rfl, _⟩ := h; rfl
  · obtain ⟨a, ws, ps, D, m, rfl, hS, hP, hD, zD, hdv, hm, h40, k⟩ := h
    have hu := hr.units
    refine ⟨_, (pss_oneI (ps_retI (pe_tupI (pa_consI (pe_fnI D_axis hr pass0 (pa_consI (pe_compSI (os := ["place"]) (caps := []) ["points"] (defScope s_axes) (pi_listI (pvI 0)) (fun _ _ _ _ _ => (pg_nameI (i := 0) (show List.Nodup (["place"] : List Str) from by decide +kernel) rfl (by first | exact Or.inl rfl | exact Or.inr rfl))) (fun _ _ _ _ _ => (pe_ixI (ix_tupK K) (pvI 0) pe_intI (fun _ _ => rfl))) (by decide +kernel)) pa_nilI)) (pa_consI (pe_fnI D_axis hr pass0 (pa_consI (pe_compSI (os := ["place"]) (caps := []) ["points"] (defScope s_axes) (pi_listI (pvI 0)) (fun _ _ _ _ _ => (pg_nameI (i := 0) (show List.Nodup (["place"] : List Str) from by decide +kernel) rfl (by first | exact Or.inl rfl | exact Or.inr rfl))) (fun _ _ _ _ _ => (pe_ixI (ix_tupK K) (pvI 0) pe_intI (fun _ _ => rfl))) (by decide +kernel)) pa_nilI)) pa_nilI))))), ?_⟩
    have hwl := hP.len
    walk_at "rd"
    refine ⟨⟨ws, by walk_at "mv"⟩, comp1 (plain_list (by walk_at "mv" : SqL K _ a ws)) (by omega) (fun i v H => ∀ p, ps[i]? = some p → ShV H v p.1) (fun _ _ _ _ t h p e => (h p e).tup t) (fun i H2 kk hi s2 hk => ?_) (fun E2 ys2 H2 hE2 s2 hE'2 hl2 hr2 => ?_)⟩
    · have ew : ws[i]? = some ws[i] := List.getElem?_eq_getElem hi
      obtain ⟨p, ep, c, vx, vy, ec, hc, hx, hy⟩ := (show PtsV H2 ws ps by walk_at "mv").atV ew
      have ef : (ws[i]?).getD V.non = .ref c := by rw [ew]; exact ec
      rw [ef]
      walk_at "rd"
      refine hk _ _ (L2.Same.refl _) fun p' e' => ?_
      rw [ep] at e'; cases e'
      assumption
    have hq2 : ShL H2 ys2 (ps.map (·.1)) := ShL.map (by omega) hr2
    clear hr2
    refine ⟨E2, ys2, ps.map (·.1), D, m, rfl, SqL.of hE'2, hq2, hD, zD, fun q hq => ?_, hm, by rw [List.length_map]; omega, fun v3 t3 b3 H3 s3 A3 e3 n3 g3 => ?_⟩
    · obtain ⟨p, hp, rfl⟩ := List.mem_map.mp hq
      exact (hdv p hp).1
    rw [List.length_map] at n3
    walk_at "rd"
    refine ⟨⟨ws, by walk_at "mv"⟩, comp1 (plain_list (by walk_at "mv" : SqL K _ a ws)) (by omega) (fun i v H => ∀ p, ps[i]? = some p → ShV H v p.2) (fun _ _ _ _ t h p e => (h p e).tup t) (fun i H4 kk hi s4 hk => ?_) (fun E4 ys4 H4 hE4 s4 hE'4 hl4 hr4 => ?_)⟩
    · have ew : ws[i]? = some ws[i] := List.getElem?_eq_getElem hi
      obtain ⟨p, ep, c, vx, vy, ec, hc, hx, hy⟩ := (show PtsV H4 ws ps by walk_at "mv").atV ew
      have ef : (ws[i]?).getD V.non = .ref c := by rw [ew]; exact ec
      rw [ef]
      walk_at "rd"
      refine hk _ _ (L2.Same.refl _) fun p' e' => ?_
      rw [ep] at e'; cases e'
      assumption
    have hq4 : ShL H4 ys4 (ps.map (·.2)) := ShL.map (by omega) hr4
    clear hr4
    refine ⟨E4, ys4, ps.map (·.2), D, m, rfl, SqL.of hE'4, hq4, hD, zD, fun q hq => ?_, hm, by rw [List.length_map]; omega, fun v5 t5 b5 H5 s5 A5 e5 n5 g5 => ?_⟩
    · obtain ⟨p, hp, rfl⟩ := List.mem_map.mp hq
      exact (hdv p hp).2
    rw [List.length_map] at n5
    walk_at "rd"
    intro c hc
    exact k c v3 v5 t3 b3 t5 b5 _ (by walk_at "sm") upd_same (by walk_at "mv") (by walk_at "mv") e3 e5 n3 n5 g3 g5
theorem ok_steps_beside (F : FunAt K mg "steps_beside" s_steps_beside ["tops"]) (B : Blt mg) : DefOk P w K mg base CX0 1 "steps_beside" ["tops"] (spSteps K) := by
  refine def_okI F sc_steps_beside (fun vs H Q E h => ?_) (fun f cdv A outer s H vs Q E hr h => ?_)
  · obtain ⟨a, t, N, rfl, _⟩ := h; rfl
  · obtain ⟨a, t, N, rfl, ha, h2, h12, hN, hNb, k⟩ := h
    have hu := hr.units
    refine ⟨_, (pss_consI (ps_setI (i := 1) sc_steps_beside.nd rfl (by first | exact Or.inl rfl | exact Or.inr rfl) (pe_opI op_cat (pe_opI op_cat (pe_sliceI (sl_listK K) (pvI 0) po_noneI (po_someI pe_intI)) (pvI 0)) (pe_sliceI (sl_listK K) (pvI 0) (po_someI (pe_unI un_neg pe_intI)) po_noneI)))
      (pss_consI (ps_compSI (i := 2) (os := ["ahead", "behind"]) (caps := []) ["tops", "wide", "ways", "sizes", "sums", "many", "way", "found", "k"] (defScope s_steps_beside) sc_steps_beside.nd rfl rfl (pi_zipI rfl B.zip (pa_consI (pvI 1) (pa_consI (pe_sliceI (sl_listK K) (pvI 1) (po_someI pe_intI) po_noneI) pa_nilI))) (fun _ _ _ _ _ => (pg_tupKI (n := 2) K rfl (pgs_consI (pg_nameI (i := 0) (show List.Nodup (["ahead", "behind"] : List Str) from by decide +kernel) rfl (by first | exact Or.inl rfl | exact Or.inr rfl)) (pgs_consI (pg_nameI (i := 1) (show List.Nodup (["ahead", "behind"] : List Str) from by decide +kernel) rfl (by first | exact Or.inl rfl | exact Or.inr rfl)) pgs_nilI)))) (fun _ _ _ _ _ => (pe_opI op_sub (pvI 1) (pvI 0))) (by decide +kernel))
      (pss_consI (ps_parI (i := 3) (j := 4) rfl sc_steps_beside.nd rfl rfl (by decide) rfl rfl (pa_consI (pe_lstI (pa_consI pe_intI (pa_consI pe_intI pa_nilI))) (pa_consI (pe_lstI (pa_consI pe_intI pa_nilI)) pa_nilI)) rfl)
      (pss_consI (ps_forI PassesOwn.never rfl (pi_zipI rfl B.zip (pa_consI (pe_opI op_cat (pe_opI op_cat (pe_lstI (pa_consI pe_intI pa_nilI)) (pe_opI op_rep (pe_lstI (pa_consI pe_intI pa_nilI)) (pe_opI op_sub (pe_callBI (call_lenK K) (by rfl) B.len PySem.boot_len (pa_consI (pvI 0) pa_nilI)) pe_intI))) (pe_lstI (pa_consI pe_intI pa_nilI))) (pa_consI (pvI 2) pa_nilI))) (pg_tupKI (n := 2) K rfl (pgs_consI (pg_nameI (i := 5) sc_steps_beside.nd rfl (by first | exact Or.inl rfl | exact Or.inr rfl)) (pgs_consI (pg_nameI (i := 6) sc_steps_beside.nd rfl (by first | exact Or.inl rfl | exact Or.inr rfl)) pgs_nilI)))
      (pss_consI (ps_exprI (pe_bmI PySem.F.plainAttrs_list PySem.F.slot_list_append PySem.F.type_list_append mt_append (pvI 4) (pa_consI (pe_opI op_sub (pe_opI op_mulA (pe_ixI (ix_listK K) (pvI 3) (pe_unI un_neg pe_intI) (fun _ _ => rfl)) (pvI 6)) (pe_ixI (ix_listK K) (pvI 4) (pe_unI un_neg pe_intI) (fun _ _ => rfl))) pa_nilI)))
      (pss_oneI (ps_exprI (pe_bmI PySem.F.plainAttrs_list PySem.F.slot_list_append PySem.F.type_list_append mt_append (pvI 3) (pa_consI (pe_opI op_sub (pe_opI op_mulA (pvI 5) (pe_ixI (ix_listK K) (pvI 3) (pe_unI un_neg pe_intI) (fun _ _ => rfl))) (pe_ixI (ix_listK K) (pvI 3) (pe_unI un_neg pe_intI) (fun _ _ => rfl))) pa_nilI))))))
      (pss_consI (ps_setI (i := 7) sc_steps_beside.nd rfl (by first | exact Or.inl rfl | exact Or.inr rfl) (pe_lstI (pa_consI pe_intI pa_nilI)))
      (pss_consI (ps_forI PassesOwn.never rfl (pi_revrangeI rfl B.reversed rfl B.range (pa_consI (pe_callBI (call_lenK K) (by rfl) B.len PySem.boot_len (pa_consI (pvI 0) pa_nilI)) pa_nilI)) (pg_nameI (i := 8) sc_steps_beside.nd rfl (by first | exact Or.inl rfl | exact Or.inr rfl))
      (pss_oneI (ps_exprI (pe_bmI PySem.F.plainAttrs_list PySem.F.slot_list_append PySem.F.type_list_append mt_append (pvI 7) (pa_consI (pe_opI op_fdivB (pe_opI op_sub (pe_opI op_mulA (pe_ixI (ix_listK K) (pvI 3) (pe_unI un_neg pe_intI) (fun _ _ => rfl)) (pe_ixI (ix_listK K) (pvI 4) (pe_opI op_add (pvI 8) pe_intI) (fun _ _ => rfl))) (pe_opI op_mulA (pe_ixI (ix_listK K) (pvI 3) (pe_opI op_add (pvI 8) pe_intI) (fun _ _ => rfl)) (pe_ixI (ix_listK K) (pvI 7) (pe_unI un_neg pe_intI) (fun _ _ => rfl)))) (pe_ixI (ix_listK K) (pvI 3) (pe_opI op_add (pvI 8) pe_intI) (fun _ _ => rfl))) pa_nilI)))))
      (pss_oneI (ps_retI (pe_tupI (pa_consI (pe_tailbackI K (pvI 7) (po_someI pe_intI) (po_someI (pe_unI un_neg pe_intI))) (pa_consI (pe_ixI (ix_listK K) (pvI 3) (pe_unI un_neg pe_intI) (fun _ _ => rfl)) pa_nilI))))))))))), ?_⟩
    have hS : SqL K H a (t.map V.int) := SqL.of ha
    have hg : ∀ j, j < t.length → Sz N (gI t j) := fun j hj => by
      have e : t[j]? = some (gI t j) := by unfold gI; rw [List.getElem?_eq_getElem hj]; rfl
      exact hN _ (List.mem_of_getElem? e)
    walk_at "rd"
    refine ⟨a, _, rfl, hS, fun l1 hl1 => ?_⟩
    rw [show cutV (t.map V.int) none (some 1) = (t.take 1).map V.int from cut_firstI t 1 (by omega)]
    walk_at "rd"
    refine ⟨l1, a, _, _, rfl, rfl, upd_same, upd_keep hl1 ha, Nat.le_of_lt (small_line (by rw [List.length_map, List.length_map, List.length_take]; omega)), fun l2 hl2 => ?_⟩
    rw [← List.map_append]
    walk_at "rd"
    refine ⟨a, _, rfl, SqL.of (upd_keep hl2 (upd_keep hl1 ha)), fun l3 hl3 => ?_⟩
    rw [cut_lastI t (by omega)]
    refine ⟨l2, l3, _, _, rfl, rfl, upd_keep hl3 upd_same, upd_same, Nat.le_of_lt (small_line (by rw [List.length_map, List.length_map, List.length_append, List.length_take, List.length_drop]; omega)), fun l4 hl4 => ?_⟩
    rw [← List.map_append, show t.take 1 ++ t ++ t.drop (t.length - 1) = wdN t from rfl]
    have hw4 : (upd (upd (upd (upd H l1 (.lst ((t.take 1).map V.int))) l2 (.lst ((t.take 1 ++ t).map V.int))) l3 (.lst ((t.drop (t.length - 1)).map V.int))) l4 (.lst ((wdN t).map V.int))) l4 = some (.lst ((wdN t).map V.int)) := upd_same
    have s4 : Same H (upd (upd (upd (upd H l1 (.lst ((t.take 1).map V.int))) l2 (.lst ((t.take 1 ++ t).map V.int))) l3 (.lst ((t.drop (t.length - 1)).map V.int))) l4 (.lst ((wdN t).map V.int))) := ((Same.new hl1).trans (Same.new hl2)).trans ((Same.new hl3).trans (Same.new hl4))
    generalize upd (upd (upd (upd H l1 (.lst ((t.take 1).map V.int))) l2 (.lst ((t.take 1 ++ t).map V.int))) l3 (.lst ((t.drop (t.length - 1)).map V.int))) l4 (.lst ((wdN t).map V.int)) = H4 at *
    have hwl := wd_len (t := t) (by omega)
    walk_at "rd"
    refine ⟨l4, _, rfl, SqL.of hw4, fun l5 hl5 => ?_⟩
    rw [cut_dropV _ 2 2 rfl (by rw [List.length_map]; omega), ← List.map_drop]
    have hw5 : (upd H4 l5 (.lst (((wdN t).drop 2).map V.int))) l4 = some (.lst ((wdN t).map V.int)) := upd_keep hl5 hw4
    walk_at "rd"
    refine ⟨_, _, rfl, ⟨_, SqL.of hw5⟩, ⟨_, SqL.of upd_same⟩, comp2 (plain_zip (SqL.of hw5) (SqL.of upd_same)) (by rw [List.length_map, List.length_map, List.length_drop]; omega) (fun j v _ => v = .int (wyN t.length (gI t) j)) (fun _ _ _ _ _ h => h) (fun j H5 kk hj s5 hk => ?_) (fun le us H5 hE s5 hE5 hl hr => ?_)⟩
    · rw [List.length_map, List.length_map, List.length_drop] at hj
      have e1 := wd_get (t := t) (by omega) (j := j) (by omega)
      have e3 : ((wdN t).drop 2)[j]? = some (gI t (min (j + 2 - 1) (t.length - 1))) := by rw [List.getElem?_drop, Nat.add_comm 2 j]; exact wd_get (by omega) (by omega)
      rw [int_at e1, int_at e3]
      walk_at "rd"
      refine hk _ _ (L2.Same.refl _) ?_
      show V.int _ = V.int _
      rw [way_eq (by omega) (by omega)]
    rw [List.length_map, List.length_map, List.length_drop, show min (wdN t).length ((wdN t).length - 2) = t.length by omega] at hl
    have eus := ints_ext hl hr
    subst eus
    have s05 : Same H H5 := (s4.trans (Same.new hl5)).trans s5
    have ha5 := s05 _ _ ha
    clear s4 s5 hw4 hw5 hl1 hl2 hl3 hl4 hl5 hr hl hE hwl
    walk_at "rd"
    intro l6 hl6
    walk_at "rd"
    intro l7 hl7
    refine ⟨_, _, rfl, ?_⟩
    walk_at "rd"
    intro m1 hm1
    walk_at "rd"
    intro m2 hm2
    have ha7 := upd_keep (o := .lst [.int 4]) hm2 (upd_keep (o := .lst [.int 2]) hm1 (upd_keep (o := .lst [.int 0]) hl7 (upd_keep (o := .lst [.int 0, .int 1]) hl6 ha5)))
    walk_at "rd"
    refine ⟨m2, _, _, rfl, rfl, upd_same, by rw [List.length_map]; omega, by rw [List.length_map]; omega, Nat.le_of_lt (small_line (by rw [List.length_map, List.length_singleton]; omega)), fun m3 hm3 => ?_⟩
    refine ⟨m1, m3, _, _, rfl, rfl, upd_keep hm3 (upd_keep hm2 upd_same), upd_same, Nat.le_of_lt (small_line (by rw [flat_rep, List.length_replicate, List.length_map, List.length_singleton]; omega)), fun m4 hm4 => ?_⟩
    walk_at "rd"
    intro m5 hm5
    refine ⟨m4, m5, _, _, rfl, rfl, upd_keep hm5 upd_same, upd_same, Nat.le_of_lt (small_line (by rw [flat_rep, List.length_append, List.length_replicate, List.length_map]; show 1 + _ + 1 ≤ _; omega)), fun m6 hm6 => ?_⟩
    rw [fours t h2]
    have sC : Same H5 (upd (upd H5 l6 (.lst [.int 0, .int 1])) l7 (.lst [.int 0])) := (Same.new hl6).trans (Same.new hl7)
    have n67 : l6 ≠ l7 := fun e => by subst e; rw [upd_same] at hl7; cases hl7
    have g6 : (upd (upd H5 l6 (.lst [.int 0, .int 1])) l7 (.lst [.int 0])) l6 = some (.lst [.int 0, .int 1]) := upd_keep hl7 upd_same
    have g7 : (upd (upd H5 l6 (.lst [.int 0, .int 1])) l7 (.lst [.int 0])) l7 = some (.lst [.int 0]) := upd_same
    have hl7' : H5 l7 = none := (Same.new (o := .lst [.int 0, .int 1]) hl6).free hl7
    generalize upd (upd H5 l6 (.lst [.int 0, .int 1])) l7 (.lst [.int 0]) = H7 at *
    have sB := ((Same.new (o := .lst [V.int 2]) hm1).trans (Same.new (o := .lst [V.int 4]) hm2)).trans ((Same.new hm3).trans ((Same.new hm4).trans (Same.new (o := .lst [V.int 2]) hm5)))
    have n6m : l6 ≠ m6 := fun e => by rw [← e, sB _ _ g6] at hm6; cases hm6
    have n7m : l7 ≠ m6 := fun e => by rw [← e, sB _ _ g7] at hm6; cases hm6
    replace sB := sB.trans (Same.new (o := .lst ((mmN t.length).map V.int)) hm6)
    replace g6 := sB _ _ g6
    replace g7 := sB _ _ g7
    have g5 := sB _ _ (sC _ _ hE5)
    have sD := sC.trans sB
    have hm : (upd (upd (upd (upd (upd (upd H7 m1 (.lst [.int 2])) m2 (.lst [.int 4])) m3 (.lst (List.replicate (((t.map V.int).length : Int) - 2).toNat [V.int 4]).flatten)) m4 (.lst ([V.int 2] ++ (List.replicate (((t.map V.int).length : Int) - 2).toNat [V.int 4]).flatten))) m5 (.lst [.int 2])) m6 (.lst ((mmN t.length).map V.int))) m6 = some (.lst ((mmN t.length).map V.int)) := upd_same
    generalize upd (upd (upd (upd (upd (upd H7 m1 (.lst [.int 2])) m2 (.lst [.int 4])) m3 (.lst (List.replicate (((t.map V.int).length : Int) - 2).toNat [V.int 4]).flatten)) m4 (.lst ([V.int 2] ++ (List.replicate (((t.map V.int).length : Int) - 2).toNat [V.int 4]).flatten))) m5 (.lst [.int 2])) m6 (.lst ((mmN t.length).map V.int)) = H8 at *
    walk_at "rd"
    refine ⟨m6, le, rfl, ⟨_, SqL.of hm⟩, ⟨_, SqL.of g5⟩, for_zip (xs := (mmN t.length).map V.int) (ys := ((List.range t.length).map (wyN t.length (gI t))).map V.int) (fun i σ H' => ∃ (y5 y6 : Option V), σ = [some (.ref a), some (.ref l4), some (.ref le), some (.ref l6), some (.ref l7), y5, y6, none, none] ∧ Same H5 H' ∧ H' m6 = some (.lst ((mmN t.length).map V.int)) ∧ H' l6 = some (.lst (((List.range (i + 2)).map (sN t.length)).map V.int)) ∧ H' l7 = some (.lst (((List.range (i + 1)).map (suN t.length (gI t))).map V.int))) ⟨none, none, rfl, sD, hm, g6, g7⟩ ?_ ?_ ?_⟩
    · rintro i σ H9 ⟨y5, y6, rfl, s9, q1, q2, q3⟩
      exact ⟨SqL.of q1, SqL.of (s9 _ _ hE5)⟩
    · rintro i p σ H9 H10 hi ⟨y5, y6, rfl, s9, q1, q2, q3⟩ s10 hT
      have hi' : i < t.length := by rw [List.length_map, mm_len h2] at hi; omega
      have ew : ((List.range t.length).map (wyN t.length (gI t)))[i]? = some (wyN t.length (gI t) i) := by rw [List.getElem?_map, List.getElem?_range hi']; rfl
      rw [int_at (mm_get h2 hi'), int_at ew] at hT
      refine ⟨p, _, rfl, hT, rfl, _, _, rfl, _, _, rfl, rfl, ?_⟩
      have r1 := s10 _ _ q1
      have r2 := s10 _ _ q2
      have r3 := s10 _ _ q3
      have s11 := s9.trans s10
      clear q1 q2 q3 s9 s10 hT
      walk_at "rd"
      refine ⟨.inl ⟨rfl, _, SqL.of r3⟩, ?_⟩
      walk_at "rd"
      refine ⟨l6, _, _, _, rfl, rfl, SqL.of r2, ints_last (i + 1), ?_⟩
      walk_at "rd"
      refine ⟨mulN (sN_sz _ (i + 1)) (wy_sz hg hi') (by omega), ?_⟩
      walk_at "rd"
      refine ⟨l7, _, _, _, rfl, rfl, SqL.of r3, ints_last i, ?_⟩
      walk_at "rd"
      refine ⟨l7, _, _, rfl, rfl, r3, small_line (by rw [List.length_map, List.length_map, List.length_range]; omega), ?_⟩
      have u2 : (upd H10 l7 (.lst (((List.range (i + 1)).map (suN t.length (gI t))).map V.int ++ [.int (sN t.length (i + 1) * wyN t.length (gI t) i - suN t.length (gI t) i)]))) l6 = some (.lst (((List.range (i + 2)).map (sN t.length)).map V.int)) := by rw [upd_ne n67]; exact r2
      have u3 : (upd H10 l7 (.lst (((List.range (i + 1)).map (suN t.length (gI t))).map V.int ++ [.int (sN t.length (i + 1) * wyN t.length (gI t) i - suN t.length (gI t) i)]))) l7 = some (.lst (((List.range (i + 1 + 1)).map (suN t.length (gI t))).map V.int)) := by rw [upd_same, range_snoc _ (i + 1), List.map_append]; rfl
      have u1 : (upd H10 l7 (.lst (((List.range (i + 1)).map (suN t.length (gI t))).map V.int ++ [.int (sN t.length (i + 1) * wyN t.length (gI t) i - suN t.length (gI t) i)]))) m6 = some (.lst ((mmN t.length).map V.int)) := by rw [upd_ne n7m.symm]; exact r1
      have s12 : Same H5 (upd H10 l7 (.lst (((List.range (i + 1)).map (suN t.length (gI t))).map V.int ++ [.int (sN t.length (i + 1) * wyN t.length (gI t) i - suN t.length (gI t) i)]))) := same_upd hl7' s11
      clear r1 r2 r3 s11
      generalize upd H10 l7 (.lst (((List.range (i + 1)).map (suN t.length (gI t))).map V.int ++ [.int (sN t.length (i + 1) * wyN t.length (gI t) i - suN t.length (gI t) i)])) = H12 at *
      walk_at "rd"
      refine ⟨.inl ⟨rfl, _, SqL.of u2⟩, ?_⟩
      walk_at "rd"
      refine ⟨l6, _, _, _, rfl, rfl, SqL.of u2, ints_last (i + 1), ?_⟩
      have my := my_lo t.length i
      refine ⟨_, _, rfl, rfl, mulL (by omega) (by omega), ?_⟩
      walk_at "rd"
      refine ⟨l6, _, _, _, rfl, rfl, SqL.of u2, ints_last2 i, ?_⟩
      walk_at "rd"
      refine ⟨l6, _, _, rfl, rfl, u2, small_line (by rw [List.length_map, List.length_map, List.length_range]; omega), ?_⟩
      refine ⟨_, _, rfl, same_upd hl6 s12, by rw [upd_ne n6m.symm]; exact u1, by rw [upd_same, range_snoc _ (i + 2), List.map_append]; rfl, by rw [upd_ne n67.symm]; exact u3⟩
    · rintro σ H9 ⟨y5, y6, rfl, s9, q1, q2, q3⟩
      rw [List.length_map, mm_len h2, List.length_map, List.length_map, List.length_range, Nat.min_self] at q2 q3
      have ha9 := s9 _ _ ha5
      walk_at "rd"
      intro lf hlf
      have nf6 : l6 ≠ lf := fun e => by rw [← e, q2] at hlf; cases hlf
      have nf7 : l7 ≠ lf := fun e => by rw [← e, q3] at hlf; cases hlf
      have v2 := upd_keep (o := .lst [.int 0]) hlf q2
      have v3 := upd_keep (o := .lst [.int 0]) hlf q3
      have v4 := s9.trans (Same.new (o := .lst [V.int 0]) hlf)
      have hlf' : H5 lf = none := s9.free hlf
      have hlfH : H lf = none := s05.free hlf'
      have v1 : (upd H9 lf (.lst [.int 0])) lf = some (.lst (((List.range (0 + 1)).map fun j => xxN t.length (gI t) (t.length - j)).map V.int)) := by rw [upd_same]; show _ = some (HO.lst [V.int (xxN t.length (gI t) (t.length - 0))]); rw [Nat.sub_zero, xx_end]
      clear q1 q2 q3 hlf
      generalize upd H9 lf (.lst [.int 0]) = H10 at *
      have ha10 := v4 _ _ ha5
      walk_at "rd"
      refine ⟨by omega, by rw [List.length_map]; omega, for_down (fun i σ H' => ∃ (y : Option V), σ = [some (.ref a), some (.ref l4), some (.ref le), some (.ref l6), some (.ref l7), y5, y6, some (.ref lf), y] ∧ Same H5 H' ∧ H' l6 = some (.lst (((List.range (t.length + 2)).map (sN t.length)).map V.int)) ∧ H' l7 = some (.lst (((List.range (t.length + 1)).map (suN t.length (gI t))).map V.int)) ∧ H' lf = some (.lst (((List.range (i + 1)).map fun j => xxN t.length (gI t) (t.length - j)).map V.int))) ⟨none, rfl, v4, v2, v3, v1⟩ ?_ ?_⟩
      · rintro i σ H11 hi ⟨y, rfl, s11, q2, q3, q1⟩
        rw [List.length_map] at hi
        have hi' : i < t.length := by omega
        obtain ⟨kk, hkk⟩ : ∃ kk, t.length = kk + 1 + i := ⟨t.length - 1 - i, by omega⟩
        have ek : ((t.map V.int).length : Int) - 1 - (i : Int) = (kk : Int) := by rw [List.length_map]; omega
        rw [ek]
        have ez := xx_sz h12 hg i (by omega)
        rw [show t.length - i = kk + 1 by omega] at ez
        walk_at "rd"
        refine ⟨.inl ⟨rfl, _, SqL.of q1⟩, ?_⟩
        walk_at "rd"
        refine ⟨l6, _, _, _, rfl, rfl, SqL.of q2, ints_last (t.length + 1), ?_⟩
        walk_at "rd"
        refine ⟨l7, _, _, _, rfl, rfl, SqL.of q3, intsR_at (k := kk + 1) (by omega) (by omega), ?_⟩
        refine ⟨_, _, rfl, rfl, mulN (sN_sz _ (t.length + 1)) (su_sz hg (kk + 1) (by omega)) (by omega), ?_⟩
        walk_at "rd"
        refine ⟨l6, _, _, _, rfl, rfl, SqL.of q2, intsR_at (k := kk + 1) (by omega) (by omega), ?_⟩
        walk_at "rd"
        refine ⟨lf, _, _, _, rfl, rfl, SqL.of q1, ints_last i, ?_⟩
        rw [show t.length - i = kk + 1 by omega]
        refine ⟨_, _, rfl, rfl, mulN (sN_sz _ (kk + 1)) ez (by omega), ?_⟩
        walk_at "rd"
        refine ⟨l6, _, _, _, rfl, rfl, SqL.of q2, intsR_at (k := kk + 2) (by omega) (by omega), ?_⟩
        walk_at "rd"
        have sp : 0 < sN t.length (kk + 2) := sN_pos t.length (kk + 1)
        refine ⟨⟨by omega, (sN_sz _ (kk + 2)).mono (by omega)⟩, ?_⟩
        have ed := xx_fdiv t.length (gI t) (k := kk) (by omega)
        walk_at "rd"
        refine ⟨lf, _, _, rfl, rfl, q1, small_line (by rw [List.length_map, List.length_map, List.length_range]; omega), ?_⟩
        refine ⟨_, rfl, same_upd hlf' s11, by rw [upd_ne nf6]; exact q2, by rw [upd_ne nf7]; exact q3, ?_⟩
        rw [upd_same, range_snoc _ (i + 1), List.map_append, show t.length - (i + 1) = kk by omega]
        show some (HO.lst (_ ++ [V.int ((sN t.length (t.length + 1) * suN t.length (gI t) (kk + 1) - sN t.length (kk + 1) * xxN t.length (gI t) (kk + 1)).fdiv (sN t.length (kk + 2)))])) = _
        rw [ed]
        rfl
      · rintro σ H11 ⟨y, rfl, s11, q2, q3, q1⟩
        rw [List.length_map, Int.toNat_natCast] at q1
        walk_at "rd"
        refine ⟨lf, _, rfl, SqL.of q1, fun lb hlb => ?_⟩
        rw [back_list]
        have q2' := upd_keep (o := .lst (((List.range t.length).map (xxN t.length (gI t))).map V.int)) hlb q2
        walk_at "rd"
        refine ⟨l6, _, _, _, rfl, rfl, SqL.of q2', ints_last (t.length + 1), ?_⟩
        walk_at "rd"
        intro c hc
        exact k c lb _ (((s05.trans s11).trans (Same.new hlb)).trans (Same.new hc)) upd_same (upd_keep hc upd_same) fun j hj => by
          have := xx_sz h12 hg (t.length - j) (by omega)
          rw [show t.length - (t.length - j) = j by omega] at this
          exact this.mono (by omega)
theorem ok_axes_beside (F : FunAt K mg "axes_beside" s_axes_beside ["one"]) (B : Blt mg) (D_steps_beside : DefOk P w K mg base CX0 1 "steps_beside" ["tops"] (spSteps K)) : DefOk P w K mg base CX0 2 "axes_beside" ["one"] (spAxB K) := by
  refine def_okI F sc_axes_beside (fun vs H Q E h => ?_) (fun f cdv A outer s H vs Q E hr h => ?_)
  · obtain ⟨x, n, t, bs, rfl, _⟩ := h; rfl
  · obtain ⟨_, n, t, bs, rfl, ⟨a0, lt, lb, rfl, h0, hT, hB, zt, zb, b100, t1000⟩, h2, h12, hn, hbl, k⟩ := h
    have hu := hr.units
    refine ⟨_, (pss_consI (ps_asgI (pvI 0) (pg_tupKI (n := 2) K rfl (pgs_consI (pg_nameI (i := 1) sc_axes_beside.nd rfl (by first | exact Or.inl rfl | exact Or.inr rfl)) (pgs_consI (pg_nameI (i := 2) sc_axes_beside.nd rfl (by first | exact Or.inl rfl | exact Or.inr rfl)) pgs_nilI))))
      (pss_consI (ps_asgI (pe_fnI D_steps_beside hr pass0 (pa_consI (pvI 1) pa_nilI)) (pg_tupKI (n := 2) K rfl (pgs_consI (pg_nameI (i := 3) sc_axes_beside.nd rfl (by first | exact Or.inl rfl | exact Or.inr rfl)) (pgs_consI (pg_nameI (i := 4) sc_axes_beside.nd rfl (by first | exact Or.inl rfl | exact Or.inr rfl)) pgs_nilI))))
      (pss_consI (ps_compSI (i := 5) (os := ["top", "more"]) (caps := [(4, "bottom")]) ["one", "tops", "bottoms", "steps", "bottom", "behind", "ahead"] (defScope s_axes_beside) sc_axes_beside.nd rfl rfl (pi_zipI rfl B.zip (pa_consI (pvI 1) (pa_consI (pvI 3) pa_nilI))) (fun _ _ _ _ _ => (pg_tupKI (n := 2) K rfl (pgs_consI (pg_nameI (i := 0) (show List.Nodup (["top", "more", "bottom"] : List Str) from by decide +kernel) rfl (by first | exact Or.inl rfl | exact Or.inr rfl)) (pgs_consI (pg_nameI (i := 1) (show List.Nodup (["top", "more", "bottom"] : List Str) from by decide +kernel) rfl (by first | exact Or.inl rfl | exact Or.inr rfl)) pgs_nilI)))) (fun _ _ _ _ _ => (pe_opI op_add (pe_opI op_mulA (pvI 0) (pvI 2)) (pvI 1))) (by decide +kernel))
      (pss_consI (ps_compSI (i := 6) (os := ["top", "more"]) (caps := [(4, "bottom")]) ["one", "tops", "bottoms", "steps", "bottom", "behind", "ahead"] (defScope s_axes_beside) sc_axes_beside.nd rfl rfl (pi_zipI rfl B.zip (pa_consI (pvI 1) (pa_consI (pvI 3) pa_nilI))) (fun _ _ _ _ _ => (pg_tupKI (n := 2) K rfl (pgs_consI (pg_nameI (i := 0) (show List.Nodup (["top", "more", "bottom"] : List Str) from by decide +kernel) rfl (by first | exact Or.inl rfl | exact Or.inr rfl)) (pgs_consI (pg_nameI (i := 1) (show List.Nodup (["top", "more", "bottom"] : List Str) from by decide +kernel) rfl (by first | exact Or.inl rfl | exact Or.inr rfl)) pgs_nilI)))) (fun _ _ _ _ _ => (pe_opI op_sub (pe_opI op_mulA (pvI 0) (pvI 2)) (pvI 1))) (by decide +kernel))
      (pss_oneI (ps_retI (pe_tupI (pa_consI (pe_tupI (pa_consI (pvI 5) (pa_consI (pe_opI op_cat (pvI 2) (pe_lstI (pa_consI (pvI 4) pa_nilI))) pa_nilI))) (pa_consI (pe_tupI (pa_consI (pvI 6) (pa_consI (pe_opI op_cat (pvI 2) (pe_lstI (pa_consI (pvI 4) pa_nilI))) pa_nilI))) pa_nilI))))))))), ?_⟩
    walk_at "rd"
    refine ⟨a0, _, rfl, SqT.of h0, rfl, _, _, rfl, _, _, rfl, rfl, ?_⟩
    walk_at "rd"
    refine ⟨lt, t, n, rfl, hT, h2, h12, zt, hn, fun c lf H1 s1 hc hX zx => ?_⟩
    refine ⟨c, _, rfl, SqT.of hc, rfl, _, _, rfl, _, _, rfl, rfl, ?_⟩
    replace hT := s1 _ _ hT
    replace hB := s1 _ _ hB
    obtain ⟨z1, z2⟩ := bh_sz h12 zt zx
    have zS : ∀ b ∈ bs ++ [sN t.length (t.length + 1)], 0 < b ∧ Sz 9000 b := fun b hb => by
      rcases List.mem_append.mp hb with hb | hb
      · exact zb b hb
      · rw [List.mem_singleton.mp hb]; exact ⟨sN_pos _ _, (sN_sz _ (t.length + 1)).mono (by omega)⟩
    clear hc h0
    walk_at "rd"
    refine ⟨_, _, rfl, ⟨_, SqL.of hT⟩, ⟨_, SqL.of hX⟩, comp2 (plain_zip (SqL.of hT) (SqL.of hX)) (by rw [List.length_map, List.length_map, List.length_map, List.length_range]; omega) (fun j v _ => v = .int (gI t j * sN t.length (t.length + 1) + xxN t.length (gI t) j)) (fun _ _ _ _ _ h => h) (fun j H5 kk hj s5 hk => ?_) (fun lB us H5 hE s5 hE5 hl hr => ?_)⟩
    · rw [List.length_map, List.length_map, List.length_map, List.length_range, Nat.min_self] at hj
      have ex : ((List.range t.length).map (xxN t.length (gI t)))[j]? = some (xxN t.length (gI t) j) := by rw [List.getElem?_map, List.getElem?_range hj]; rfl
      rw [int_at (gI_get hj), int_at ex]
      have zz := zt _ (List.mem_of_getElem? (gI_get hj))
      walk_at "rd"
      refine ⟨mulN zz (sN_sz _ (t.length + 1)) (by omega), ?_⟩
      walk_at "rd"
      exact hk _ _ (L2.Same.refl _) rfl
    rw [List.length_map, List.length_map, List.length_map, List.length_range, Nat.min_self] at hl
    obtain rfl := ints_ext hl hr
    replace hT := s5 _ _ hT
    replace hX := s5 _ _ hX
    replace hB := s5 _ _ hB
    replace s1 := s1.trans s5
    clear hl hr hE
    have hBh := hE5
    clear hE5
    walk_at "rd"
    refine ⟨_, _, rfl, ⟨_, SqL.of hT⟩, ⟨_, SqL.of hX⟩, comp2 (plain_zip (SqL.of hT) (SqL.of hX)) (by rw [List.length_map, List.length_map, List.length_map, List.length_range]; omega) (fun j v _ => v = .int (gI t j * sN t.length (t.length + 1) - xxN t.length (gI t) j)) (fun _ _ _ _ _ h => h) (fun j H5 kk hj s5 hk => ?_) (fun lA us H5 hE s5 hE5 hl hr => ?_)⟩
    · rw [List.length_map, List.length_map, List.length_map, List.length_range, Nat.min_self] at hj
      have ex : ((List.range t.length).map (xxN t.length (gI t)))[j]? = some (xxN t.length (gI t) j) := by rw [List.getElem?_map, List.getElem?_range hj]; rfl
      rw [int_at (gI_get hj), int_at ex]
      have zz := zt _ (List.mem_of_getElem? (gI_get hj))
      walk_at "rd"
      refine ⟨mulN zz (sN_sz _ (t.length + 1)) (by omega), ?_⟩
      walk_at "rd"
      exact hk _ _ (L2.Same.refl _) rfl
    rw [List.length_map, List.length_map, List.length_map, List.length_range, Nat.min_self] at hl
    obtain rfl := ints_ext hl hr
    replace hT := s5 _ _ hT
    replace hX := s5 _ _ hX
    replace hB := s5 _ _ hB
    replace s1 := s1.trans s5
    clear hl hr hE
    replace hBh := s5 _ _ hBh
    have hAh := hE5
    clear hE5 s5

    have eS : bs.map V.int ++ [V.int (sN t.length (t.length + 1))] = (bs ++ [sN t.length (t.length + 1)]).map V.int := by rw [List.map_append]; rfl
    have small : (bs.map V.int).length + [V.int (sN t.length (t.length + 1))].length ≤ sizeLine := Nat.le_of_lt (small_line (by rw [List.length_map, List.length_singleton]; omega))
    walk_at "rd"
    intro m1 hm1
    walk_at "rd"
    refine ⟨lb, m1, _, _, rfl, rfl, upd_keep hm1 hB, upd_same, small, fun m2 hm2 => ?_⟩
    rw [eS]
    walk_at "rd"
    intro q1 hq1
    have sA := (Same.new (o := .lst [V.int (sN t.length (t.length + 1))]) hm1).trans ((Same.new (o := .lst ((bs ++ [sN t.length (t.length + 1)]).map V.int)) hm2).trans (Same.new (o := .tup [.ref lB, .ref m2]) hq1))
    have w1 := upd_keep (o := .tup [.ref lB, .ref m2]) hq1 (upd_same (H := upd H5 m1 (.lst [V.int (sN t.length (t.length + 1))])) (a := m2) (o := .lst ((bs ++ [sN t.length (t.length + 1)]).map V.int)))
    have w2 : (upd (upd (upd H5 m1 (.lst [V.int (sN t.length (t.length + 1))])) m2 (.lst ((bs ++ [sN t.length (t.length + 1)]).map V.int))) q1 (.tup [.ref lB, .ref m2])) q1 = some (.tup [.ref lB, .ref m2]) := upd_same
    replace hBh := sA _ _ hBh
    replace hAh := sA _ _ hAh
    replace hB := sA _ _ hB
    replace s1 := s1.trans sA
    clear hm1 hm2 hq1 sA hT hX
    generalize upd (upd (upd H5 m1 (.lst [V.int (sN t.length (t.length + 1))])) m2 (.lst ((bs ++ [sN t.length (t.length + 1)]).map V.int))) q1 (.tup [.ref lB, .ref m2]) = H6 at *
    walk_at "rd"
    intro m3 hm3
    walk_at "rd"
    refine ⟨lb, m3, _, _, rfl, rfl, upd_keep hm3 hB, upd_same, small, fun m4 hm4 => ?_⟩
    rw [eS]
    walk_at "rd"
    intro q2 hq2
    walk_at "rd"
    intro c' hc'
    have sA := (Same.new (o := .lst [V.int (sN t.length (t.length + 1))]) hm3).trans ((Same.new (o := .lst ((bs ++ [sN t.length (t.length + 1)]).map V.int)) hm4).trans ((Same.new (o := .tup [.ref lA, .ref m4]) hq2).trans (Same.new (o := .tup [.ref q1, .ref q2]) hc')))
    have tl : (bhN t).length ≤ 1000 ∧ (ahN t).length ≤ 1000 := by unfold bhN ahN; rw [List.length_map, List.length_map, List.length_range]; omega
    have bl : (bs ++ [sN t.length (t.length + 1)]).length ≤ 100 := by rw [List.length_append, List.length_singleton]; omega
    exact k c' (.ref q1) (.ref q2) _ (s1.trans sA) upd_same ⟨q1, lB, m2, rfl, sA _ _ w2, sA _ _ hBh, sA _ _ w1, z1, zS, bl, tl.1⟩ ⟨q2, lA, m4, rfl, upd_keep hc' upd_same, sA _ _ hAh, upd_keep hc' (upd_keep hq2 upd_same), z2, zS, bl, tl.2⟩
theorem ok_share_over (F : FunAt K mg "share_over" s_share_over ["top", "bottoms"]) (B : Blt mg) (D_greatest_common : DefOk P w K mg base CX0 1 "greatest_common" ["one", "other"] spGcd) : DefOk P w K mg base CX0 2 "share_over" ["top", "bottoms"] (spOverAll K) := by
  refine def_okI F sc_share_over (fun vs H Q E h => ?_) (fun f cdv A outer s H vs Q E hr h => ?_)
  · obtain ⟨top, a, bs, rfl, _⟩ := h; rfl
  · obtain ⟨top, a, bs, rfl, hS, hb, hn, k⟩ := h
    have hu := hr.units
    refine ⟨_, (pss_consI (ps_setI (i := 2) sc_share_over.nd rfl (by first | exact Or.inl rfl | exact Or.inr rfl) pe_intI)
      (pss_consI (ps_forI PassesOwn.never rfl (pi_listI (pvI 1)) (pg_nameI (i := 3) sc_share_over.nd rfl (by first | exact Or.inl rfl | exact Or.inr rfl))
      (pss_consI (ps_setI (i := 4) sc_share_over.nd rfl (by first | exact Or.inl rfl | exact Or.inr rfl) (pe_fnI D_greatest_common hr pass0 (pa_consI (pvI 0) (pa_consI (pvI 3) pa_nilI))))
      (pss_oneI (ps_parI (i := 0) (j := 2) rfl sc_share_over.nd rfl rfl (by decide) rfl rfl (pa_consI (pe_opI op_fdivB (pvI 0) (pvI 4)) (pa_consI (pe_opI op_mulA (pvI 2) (pe_opI op_fdivB (pvI 3) (pvI 4))) pa_nilI)) rfl))))
      (pss_oneI (ps_retI (pe_tupI (pa_consI (pvI 0) (pa_consI (pvI 2) pa_nilI))))))), ?_⟩
    walk_at "rd"
    refine ⟨⟨_, hS⟩, for_list (xs := bs.map V.int) (fun i σ H' => ∃ (y1 y2 : Option V) (T B : Int), σ = [some (.int T), some (.ref a), some (.int B), y1, y2] ∧ 0 < B ∧ Int.gcd T B = 1 ∧ T * prodI (bs.take i) = top * B ∧ Sz (9000 * i + 1) B ∧ H' = H) ⟨none, none, top, 1, rfl, by decide, by simp, by simp [prodI], ⟨by decide⟩, rfl⟩ ?_ ?_ ?_⟩
    · rintro i σ H' hi ⟨y1, y2, T, B, rfl, hB, hg, he, hz, rfl⟩
      exact hS
    · rintro i x σ H' hx ⟨y1, y2, T, B, rfl, hB, hg, he, hz, rfl⟩
      obtain ⟨b, eb, rfl⟩ := ints_at hx
      have hi : i < bs.length := (List.getElem?_eq_some_iff.mp eb).1
      obtain ⟨b0, zb⟩ := hb b (List.mem_of_getElem? eb)
      obtain ⟨g1, g2, g3, g4, g5⟩ := over_step b0 hB hg
      have zg : Sz 9000 (Int.gcd T b : Int) := sz_dvd (by omega) g5 zb
      have zq : Sz 9000 (b.fdiv (Int.gcd T b)) := quo_sz b0 g4 g5 zb
      walk_at "rd"
      refine ⟨T, b, rfl, ?_⟩
      walk_at "rd"
      refine ⟨⟨by omega, zg⟩, ?_⟩
      walk_at "rd"
      refine ⟨⟨by omega, zg⟩, ?_⟩
      refine ⟨_, _, rfl, rfl, mulN hz zq (by omega), ?_⟩
      refine ⟨_, _, rfl, _, _, _, _, rfl, g2, g1, ?_, (hz.mul zq).mono (by omega), rfl⟩
      rw [take_snoc eb, prodI_snoc]
      have e1 : T.fdiv (Int.gcd T b) * (prodI (bs.take i) * b) = (T.fdiv (Int.gcd T b) * b) * prodI (bs.take i) := by grind
      rw [e1, g3]
      have e2 : T * b.fdiv (Int.gcd T b) * prodI (bs.take i) = (T * prodI (bs.take i)) * b.fdiv (Int.gcd T b) := by grind
      rw [e2, he]; grind
    · rintro σ H' ⟨y1, y2, T, B, rfl, hB, hg, he, hz, rfl⟩
      rw [List.length_map, List.take_length] at he
      walk_at "rd"
      intro p hp
      have hu := low_unique hB (prodI_pos fun b hb' => (hb b hb').1) hg he
      refine k _ _ (Same.new hp) ⟨p, rfl, ?_⟩
      rw [upd_same, hu.1, hu.2]
theorem ok_points_of (F : FunAt K mg "points_of" s_points_of ["xs", "ys"]) (B : Blt mg) (D_share_over : DefOk P w K mg base CX0 2 "share_over" ["top", "bottoms"] (spOverAll K)) : DefOk P w K mg base CX0 3 "points_of" ["xs", "ys"] spPointsOf := by
  refine def_okI F sc_points_of (fun vs H Q E h => ?_) (fun f cdv A outer s H vs Q E hr h => ?_)
  · obtain ⟨x, y, n, t1, b1, t2, b2, rfl, _⟩ := h; rfl
  · obtain ⟨_, _, n, t1, b1, t2, b2, rfl, ⟨a1, lt1, lb1, rfl, h1, ht1, hb1, z1, g1, n1, m1⟩, ⟨a2, lt2, lb2, rfl, h2, ht2, hb2, z2, g2, n2, m2⟩, h12, k⟩ := h
    have hu := hr.units
    refine ⟨_, (pss_oneI (ps_retI (pe_compSI (os := ["x", "y"]) (caps := [(0, "xs"), (1, "ys")]) ["xs", "ys"] (defScope s_points_of) (pi_zipI rfl B.zip (pa_consI (pe_ixI (ix_tupK K) (pvI 0) pe_intI (fun _ _ => rfl)) (pa_consI (pe_ixI (ix_tupK K) (pvI 1) pe_intI (fun _ _ => rfl)) pa_nilI))) (fun _ _ _ _ _ => (pg_tupKI (n := 2) K rfl (pgs_consI (pg_nameI (i := 0) (show List.Nodup (["x", "y", "xs", "ys"] : List Str) from by decide +kernel) rfl (by first | exact Or.inl rfl | exact Or.inr rfl)) (pgs_consI (pg_nameI (i := 1) (show List.Nodup (["x", "y", "xs", "ys"] : List Str) from by decide +kernel) rfl (by first | exact Or.inl rfl | exact Or.inr rfl)) pgs_nilI)))) (fun _ _ _ _ _ => (pe_tupI (pa_consI (pe_fnI D_share_over hr pass0 (pa_consI (pvI 0) (pa_consI (pe_ixI (ix_tupK K) (pvI 2) pe_intI (fun _ _ => rfl)) pa_nilI))) (pa_consI (pe_fnI D_share_over hr pass0 (pa_consI (pvI 1) (pa_consI (pe_ixI (ix_tupK K) (pvI 3) pe_intI (fun _ _ => rfl)) pa_nilI))) pa_nilI)))) (by decide +kernel)))), ?_⟩
    walk_at "rd"
    refine ⟨_, _, rfl, ⟨_, SqL.of ht1⟩, ⟨_, SqL.of ht2⟩, comp2 (plain_zip (SqL.of ht1) (SqL.of ht2)) (by rw [List.length_map, List.length_map]; omega) (fun i v H => ∀ x y, t1[i]? = some x → t2[i]? = some y → PtV H v (Rat.divInt x (prodI b1)) (Rat.divInt y (prodI b2))) (fun _ _ _ _ t h x y e f => (h x y e f).tup t) (fun i H2 kk hi s2 hk => ?_) (fun D us H2 hD s2 hD2 hl hr => ?_)⟩
    · rw [List.length_map, List.length_map] at hi
      have e1 : t1[i]? = some (t1[i]'(by omega)) := List.getElem?_eq_getElem _
      have e2 : t2[i]? = some (t2[i]'(by omega)) := List.getElem?_eq_getElem _
      rw [int_at e1, int_at e2]
      walk_at "rd"
      refine ⟨_, lb1, b1, rfl, SqL.of (by walk_at "hf"), g1, n1, fun v3 H3 s3 w3 => ?_⟩
      walk_at "rd"
      refine ⟨_, lb2, b2, rfl, SqL.of (by walk_at "hf"), g2, n2, fun v4 H4 s4 w4 => ?_⟩
      walk_at "rd"
      intro p hp
      refine hk _ _ (by walk_at "sm") fun x y ex ey => ?_
      rw [e1] at ex; rw [e2] at ey
      cases ex; cases ey
      exact ⟨p, v3, v4, rfl, upd_same, (w3.same s4).same (Same.new hp), w4.same (Same.new hp)⟩
    · rw [List.length_map, List.length_map] at hl
      obtain ⟨ps, q1, q2, q3⟩ := pts_zip (b1 := b1) (b2 := b2) (show us.length = t1.length by omega) h12 hr
      exact k D us ps H2 s2 hD hD2 q1 q2 q3
theorem ok_through (F : FunAt K mg "through" s_through ["points"]) (B : Blt mg) (D_axes : DefOk P w K mg base CX0 4 "axes" ["points"] (spAxesD K)) (D_axes_beside : DefOk P w K mg base CX0 2 "axes_beside" ["one"] (spAxB K)) (D_points_of : DefOk P w K mg base CX0 3 "points_of" ["xs", "ys"] spPointsOf) : DefOk P w K mg base CX0 5 "through" ["points"] (spThru K) := by
  refine def_okI F sc_through (fun vs H Q E h => ?_) (fun f cdv A outer s H vs Q E hr h => ?_)
  · obtain ⟨a, ws, ps, D, m, z, rfl, _⟩ := h; rfl
  · obtain ⟨a, ws, ps, D, m, z, rfl, ha, hP, h2, h12, hD, zD, hz, hm, hov, k⟩ := h
    have hu := hr.units
    refine ⟨_, (pss_consI (ps_asgI (pe_fnI D_axes hr pass0 (pa_consI (pvI 0) pa_nilI)) (pg_tupKI (n := 2) K rfl (pgs_consI (pg_nameI (i := 1) sc_through.nd rfl (by first | exact Or.inl rfl | exact Or.inr rfl)) (pgs_consI (pg_nameI (i := 2) sc_through.nd rfl (by first | exact Or.inl rfl | exact Or.inr rfl)) pgs_nilI))))
      (pss_consI (ps_asgI (pe_fnI D_axes_beside hr pass0 (pa_consI (pvI 1) pa_nilI)) (pg_tupKI (n := 2) K rfl (pgs_consI (pg_nameI (i := 3) sc_through.nd rfl (by first | exact Or.inl rfl | exact Or.inr rfl)) (pgs_consI (pg_nameI (i := 4) sc_through.nd rfl (by first | exact Or.inl rfl | exact Or.inr rfl)) pgs_nilI))))
      (pss_consI (ps_asgI (pe_fnI D_axes_beside hr pass0 (pa_consI (pvI 2) pa_nilI)) (pg_tupKI (n := 2) K rfl (pgs_consI (pg_nameI (i := 5) sc_through.nd rfl (by first | exact Or.inl rfl | exact Or.inr rfl)) (pgs_consI (pg_nameI (i := 6) sc_through.nd rfl (by first | exact Or.inl rfl | exact Or.inr rfl)) pgs_nilI))))
      (pss_consI (ps_asgI (pe_tupI (pa_consI (pe_fnI D_points_of hr pass0 (pa_consI (pvI 3) (pa_consI (pvI 5) pa_nilI))) (pa_consI (pe_fnI D_points_of hr pass0 (pa_consI (pvI 4) (pa_consI (pvI 6) pa_nilI))) pa_nilI))) (pg_tupKI (n := 2) K rfl (pgs_consI (pg_nameI (i := 7) sc_through.nd rfl (by first | exact Or.inl rfl | exact Or.inr rfl)) (pgs_consI (pg_nameI (i := 8) sc_through.nd rfl (by first | exact Or.inl rfl | exact Or.inr rfl)) pgs_nilI))))
      (pss_oneI (ps_retI (pe_compSI (os := ["k"]) (caps := [(0, "points"), (7, "behind"), (8, "ahead")]) ["points", "xs", "ys", "x_behind", "x_ahead", "y_behind", "y_ahead", "behind", "ahead"] (defScope s_through) (pi_range1I rfl B.range (pa_consI (pe_opI op_sub (pe_callBI (call_lenK K) (by rfl) B.len PySem.boot_len (pa_consI (pvI 0) pa_nilI)) pe_intI) pa_nilI)) (fun _ _ _ _ _ => (pg_nameI (i := 0) (show List.Nodup (["k", "points", "behind", "ahead"] : List Str) from by decide +kernel) rfl (by first | exact Or.inl rfl | exact Or.inr rfl))) (fun _ _ _ _ _ => (pe_lstI (pa_consI (pe_ixI (ix_listK K) (pvI 1) (pvI 0) (fun _ _ => rfl)) (pa_consI (pe_ixI (ix_listK K) (pvI 2) (pvI 0) (fun _ _ => rfl)) (pa_consI (pe_ixI (ix_listK K) (pvI 3) (pe_opI op_add (pvI 0) pe_intI) (fun _ _ => rfl)) (pa_consI (pe_ixI (ix_listK K) (pvI 1) (pe_opI op_add (pvI 0) pe_intI) (fun _ _ => rfl)) pa_nilI)))))) (by decide +kernel)))))))), ?_⟩
    have hwl := hP.len
    walk_at "rd"
    refine ⟨a, ws, ps, D, 400, rfl, SqL.of ha, hP, hD, zD.mono (by omega), fun p hp => ?_, by omega, by omega, fun c x y t1 b1 t2 b2 H1 s1 hc A1 A2 e1 e2 n1 n2 g1 g2 => ?_⟩
    · obtain ⟨o1, o2⟩ := hov p hp
      obtain ⟨b1, b2⟩ := ovp_bd4 hD zD ⟨o1, o2⟩ 400 (by omega) (by omega)
      exact ⟨⟨den_dvd o1, b1⟩, den_dvd o2, b2⟩
    have l1 : t1.length = ps.length := by have := congrArg List.length e1; rw [axR_len, List.length_map] at this; exact this
    have l2 : t2.length = ps.length := by have := congrArg List.length e2; rw [axR_len, List.length_map] at this; exact this
    have W1 : 0 < prodI b1 := by obtain ⟨_, _, _, _, _, _, _, _, zz, _⟩ := id A1; exact prodI_pos fun b hb => (zz b hb).1
    have W2 : 0 < prodI b2 := by obtain ⟨_, _, _, _, _, _, _, _, zz, _⟩ := id A2; exact prodI_pos fun b hb => (zz b hb).1
    refine ⟨c, _, rfl, SqT.of hc, rfl, _, _, rfl, _, _, rfl, rfl, ?_⟩
    walk_at "rd"
    refine ⟨x, _, t1, b1, rfl, A1, by omega, by omega, by omega, by omega, fun c2 u1 v1 H2 s2 hc2 B1 B2 => ?_⟩
    refine ⟨c2, _, rfl, SqT.of hc2, rfl, _, _, rfl, _, _, rfl, rfl, ?_⟩
    walk_at "rd"
    refine ⟨y, _, t2, b2, rfl, A2.same s2, by omega, by omega, by omega, by omega, fun c3 u2 v2 H3 s3 hc3 B3 B4 => ?_⟩
    refine ⟨c3, _, rfl, SqT.of hc3, rfl, _, _, rfl, _, _, rfl, rfl, ?_⟩
    walk_at "rd"
    refine ⟨u1, u2, _, _, _, _, _, rfl, B1.same s3, B3, by unfold bhN; rw [List.length_map, List.length_map, List.length_range, List.length_range]; omega, fun lb wb pb H4 s4 hb0 hb hPb eb1 eb2 => ?_⟩
    walk_at "rd"
    refine ⟨v1, v2, _, _, _, _, _, rfl, (B2.same s3).same s4, B4.same s4, by unfold ahN; rw [List.length_map, List.length_map, List.length_range, List.length_range]; omega, fun la wa pa H5 s5 ha0 hla hPa ea1 ea2 => ?_⟩
    walk_at "rd"
    intro tq htq
    refine ⟨tq, _, rfl, SqT.of upd_same, rfl, _, _, rfl, _, _, rfl, rfl, ?_⟩
    have sN5 : Same H5 (upd H5 tq (.tup [.ref lb, .ref la])) := Same.new htq
    have sA : Same H (upd H5 tq (.tup [.ref lb, .ref la])) := ((((s1.trans s2).trans s3).trans s4).trans s5).trans sN5
    have ha5 := sA _ _ ha
    have hP5 := hP.same sA
    have hb5 := sN5 _ _ (s5 _ _ hb)
    have hPb5 := (hPb.same s5).same sN5
    have hla5 := sN5 _ _ hla
    have hPa5 := hPa.same sN5
    clear s1 s2 s3 s4 s5 sN5 hb hPb hla hPa hc hc2 hc3 A1 A2 B1 B2 B3 B4 ha0 hb0 htq
    generalize upd H5 tq (.tup [.ref lb, .ref la]) = H6 at *
    have q1 : ∀ k, k < t1.length → gX ps k = Rat.divInt (gI t1 k) (prodI b1) := fun k hk => by
      have h := axR_get (bs := b1) hk
      rw [e1, List.getElem?_map, List.getElem?_eq_getElem (by omega)] at h
      unfold gX; rw [List.getElem?_eq_getElem (by omega)]
      exact Option.some.inj h
    have q2 : ∀ k, k < t2.length → gY ps k = Rat.divInt (gI t2 k) (prodI b2) := fun k hk => by
      have h := axR_get (bs := b2) hk
      rw [e2, List.getElem?_map, List.getElem?_eq_getElem (by omega)] at h
      unfold gY; rw [List.getElem?_eq_getElem (by omega)]
      exact Option.some.inj h
    have gp : ∀ k, k < ps.length → ps[k]? = some (ptAt ps k) := fun k hk => by
      unfold ptAt gX gY
      rw [List.getElem?_eq_getElem hk]; rfl
    have gb : ∀ k, k < ps.length → pb[k]? = some (gX ps k + dX t1 (prodI b1) k, gY ps k + dX t2 (prodI b2) k) := fun k hk => by
      have h1 := (bh_get (bs := b1) (t := t1) (k := k) (by omega) W1).1
      have h2 := (bh_get (bs := b2) (t := t2) (k := k) (by omega) W2).1
      rw [← eb1, List.getElem?_map] at h1
      rw [← eb2, List.getElem?_map] at h2
      rw [q1 k (by omega), q2 k (by omega)]
      cases hh : pb[k]? with
      | none => rw [hh] at h1; cases h1
      | some p => rw [hh] at h1 h2; rw [← Option.some.inj h1, ← Option.some.inj h2]
    have ga : ∀ k, k < ps.length → pa[k]? = some (gX ps k - dX t1 (prodI b1) k, gY ps k - dX t2 (prodI b2) k) := fun k hk => by
      have h1 := (bh_get (bs := b1) (t := t1) (k := k) (by omega) W1).2
      have h2 := (bh_get (bs := b2) (t := t2) (k := k) (by omega) W2).2
      rw [← ea1, List.getElem?_map] at h1
      rw [← ea2, List.getElem?_map] at h2
      rw [q1 k (by omega), q2 k (by omega)]
      cases hh : pa[k]? with
      | none => rw [hh] at h1; cases h1
      | some p => rw [hh] at h1 h2; rw [← Option.some.inj h1, ← Option.some.inj h2]
    walk_at "rd"
    refine ⟨by omega, by omega, compL (plain_range 0 ((ws.length : Int) - 1).toNat _) (by omega) (fun j xs H => PtsV H xs (cvP ps (dX t1 (prodI b1)) (dX t2 (prodI b2)) j)) (fun _ _ _ _ tt h => h.tup tt) (fun j H7 kk hj s7 hk => ?_) (fun l us H7 hl0 s7 hl hln hL => ?_)⟩
    · have hj' : j + 1 < ps.length := by omega
      obtain ⟨v0, w0, p0⟩ := (hP5.same s7).at (gp j (by omega))
      obtain ⟨vb, wb', pb'⟩ := (hPb5.same s7).at (gb j (by omega))
      obtain ⟨va, wa', pa'⟩ := (hPa5.same s7).at (ga (j + 1) hj')
      obtain ⟨v3, w3, p3⟩ := (hP5.same s7).at (gp (j + 1) hj')
      walk_at "rd"
      refine ⟨a, _, _, _, rfl, rfl, SqL.of (s7 _ _ ha5), atI_nat' (j := j) (by omega) w0, ?_⟩
      walk_at "rd"
      refine ⟨lb, _, _, _, rfl, rfl, SqL.of (s7 _ _ hb5), atI_nat' (j := j) (by omega) wb', ?_⟩
      walk_at "rd"
      refine ⟨la, _, _, _, rfl, rfl, SqL.of (s7 _ _ hla5), atI_nat' (j := j + 1) (by omega) wa', ?_⟩
      walk_at "rd"
      refine ⟨a, _, _, _, rfl, rfl, SqL.of (s7 _ _ ha5), atI_nat' (j := j + 1) (by omega) w3, ?_⟩
      walk_at "rd"
      intro l4 hl4
      exact hk l4 _ _ (Same.new hl4) hl4 upd_same ((pts4 p0 pb' pa' p3).same (Same.new hl4))
    · have S1 := spl_of (q := gX ps) W1 (by omega) q1
      have S2 := spl_of (q := gY ps) W2 (by omega) q2
      rw [l1] at S1
      rw [l2] at S2
      refine k l us _ _ (sN ps.length (ps.length + 1)) H7 (sA.trans s7) (sA.free hl0) hl (by omega) (hL.base sA) S1 S2 (sN_pos _ _) ((sN_sz _ (ps.length + 1)).mono (by omega)) fun j hj => ?_
      have O1 := beside_ov (q := gX ps) (m := m) W1 hD g1 zD (by omega) q1 (fun k hk => (hov _ (List.mem_of_getElem? (gp k (by omega)))).1) (k := j) (by omega)
      have O2 := beside_ov (q := gY ps) (m := m) W2 hD g2 zD (by omega) q2 (fun k hk => (hov _ (List.mem_of_getElem? (gp k (by omega)))).2) (k := j) (by omega)
      rw [l1] at O1
      rw [l2] at O2
      exact ⟨O1, O2⟩
theorem ok_law (F : FunAt K mg "law" s_law ["_law_script"]) (B : Blt mg) (D_l_cell_at : DefOk P w K mg base CX0 1 "_law_cell_at" ["_law_script", "_law_k"] (spCell K)) (D_l_good : DefOk P w K mg base CX0 3 "_law_good" ["_law_found", "_law_points"] (spGoodT K)) (D_l_handed : DefOk P w K mg base CX0 2 "_law_handed" ["_law_places", "_law_bottom"] (spHanded K)) (D_l_stream : DefOk P w K mg base CX0 1 "_law_stream" ["_law_cell", "_law_many"] spStreamC) (D_l_place : DefOk P w K mg base CX0 2 "_law_place" ["_law_cell", "_law_way_here"] spPlace) (D_l_way : DefOk P w K mg base CX0 2 "_law_way" ["_law_cell"] spWay) (D_through : DefOk P w K mg base CX0 5 "through" ["points"] (spThru K)) : DefOk P w K mg base CX0 6 "law" ["_law_script"] (spLaw K) := by
  refine def_okI F sc_law (fun vs H Q E h => ?_) (fun f cdv A outer s H vs Q E hr h => ?_)
  · obtain ⟨a, ns, rfl, _⟩ := h; rfl
  · obtain ⟨a, ns, rfl, hS, hlen, k⟩ := h
    have hu := hr.units
    refine ⟨_, (pss_consI (ps_setI (i := 1) sc_law.nd rfl (by first | exact Or.inl rfl | exact Or.inr rfl) (pe_fnI D_l_way hr pass0 (pa_consI (pe_fnI D_l_cell_at hr pass0 (pa_consI (pvI 0) (pa_consI pe_intI pa_nilI))) pa_nilI)))
      (pss_consI (ps_setI (i := 2) sc_law.nd rfl (by first | exact Or.inl rfl | exact Or.inr rfl) (pe_opI op_cat (pe_sliceI (sl_listK K) (pvI 0) (po_someI pe_intI) (po_someI pe_intI)) (pe_fnI D_l_stream hr pass0 (pa_consI (pe_opI op_fdiv (pe_fnI D_l_cell_at hr pass0 (pa_consI (pvI 0) (pa_consI pe_intI pa_nilI))) pe_intI) (pa_consI pe_intI pa_nilI)))))
      (pss_consI (ps_setI (i := 3) sc_law.nd rfl (by first | exact Or.inl rfl | exact Or.inr rfl) (pe_fnI D_l_handed hr pass0 (pa_consI (pe_compSI (os := ["_law_cell"]) (caps := [(1, "_law_way_here")]) ["_law_script", "_law_way_here", "_law_cells", "_law_points", "_law_handed_here", "_law_found", "_law_seats"] (defScope s_law) (pi_listI (pe_sliceI (sl_listK K) (pvI 2) po_noneI (po_someI pe_intI))) (fun _ _ _ _ _ => (pg_nameI (i := 0) (show List.Nodup (["_law_cell", "_law_way_here"] : List Str) from by decide +kernel) rfl (by first | exact Or.inl rfl | exact Or.inr rfl))) (fun _ _ _ _ _ => (pe_fnI D_l_place hr pass0 (pa_consI (pvI 0) (pa_consI (pvI 1) pa_nilI)))) (by decide +kernel)) (pa_consI (pe_ixI (ix_tupK K) (pvI 1) pe_intI (fun _ _ => rfl)) pa_nilI))))
      (pss_consI (ps_setI (i := 4) sc_law.nd rfl (by first | exact Or.inl rfl | exact Or.inr rfl) (pe_callTyI call_list_of rfl B.list PyProof.Rows.boot_list (pa_consI (pvI 3) pa_nilI)))
      (pss_consI (ps_setI (i := 5) sc_law.nd rfl (by first | exact Or.inl rfl | exact Or.inr rfl) (pe_fnI D_through hr pass0 (pa_consI (pvI 4) pa_nilI)))
      (pss_consI (ps_ifI (PW_ptI (pw_orI (pt_notI (pt_valI (pe_fnI D_l_good hr pass0 (pa_consI (pvI 5) (pa_consI (pvI 3) pa_nilI))))) (pw_or1I (pt_cmpRI (op_neDK K hu) (pvI 4) (pvI 3) (nomark _))))) (pss_oneI (ps_retI pe_blI)) pss_nilI)
      (pss_consI (ps_forI PassesOwn.never rfl (pi_listI (pvI 5)) (pg_nameI (i := 6) sc_law.nd rfl (by first | exact Or.inl rfl | exact Or.inr rfl))
      (pss_consI (ps_ifI (pt_cmpRI op_ne (pe_callBI (call_lenK K) (by rfl) B.len PySem.boot_len (pa_consI (pvI 6) pa_nilI)) pe_intI (nomark _)) (pss_oneI (ps_retI pe_blI)) pss_nilI)
      (pss_oneI (ps_exprI (pe_bmI PySem.F.plainAttrs_list PySem.F.slot_list_append PySem.F.type_list_append mt_append (pvI 6) (pa_consI (pe_ixI (ix_listK K) (pvI 6) pe_intI (fun _ _ => rfl)) pa_nilI))))))
      (pss_consI (ps_exprI (pe_bm0I PySem.F.plainAttrs_list PySem.F.slot_list_clear PySem.F.type_list_clear mt_clear (pvI 5)))
      (pss_oneI (ps_retI (pe_fnI D_l_good hr pass0 (pa_consI (pe_fnI D_through hr pass0 (pa_consI (pvI 4) pa_nilI)) (pa_consI (pvI 3) pa_nilI))))))))))))), ?_⟩
    walk_at "rd"
    refine ⟨a, ns, _, rfl, hS, by decide, fun z0 => ?_⟩
    walk_at "rd"
    intro vw Bt kd H1 s1 hW
    obtain ⟨wa, sa, ba, sx, sy, bx, by_, rfl, hwa, hsa, hba, B1, B2, r⟩ := id hW
    have zBt : Sz 31 Bt := sz_of (b := 1000000007) (by omega) (by decide)
    have hS1 := s1.seq hS
    clear s1
    walk_at "rd"
    refine ⟨a, _, rfl, hS1, fun l1 hl1 => ?_⟩
    obtain ⟨ms, hms, ms9⟩ := cut_nine ns
    rw [hms]
    have hS2 : SqL K (upd H1 l1 (.lst (ms.map V.int))) a (ns.map V.int) := (Same.new hl1).seq hS1
    walk_at "rd"
    refine ⟨a, ns, _, rfl, hS2, by decide, fun z1 => ?_⟩
    walk_at "rd"
    refine ⟨_, 2, rfl, by decide, fun lx xs H2 s2 hx0 hx hxl hnn => ?_⟩
    have h1 := s2 _ _ (upd_same (H := H1) (a := l1) (o := .lst (ms.map V.int)))
    have hW2 := (hW.same (Same.new (o := .lst (ms.map V.int)) hl1)).same s2
    clear hl1 s2 hS1 hS2 hW hwa hsa hba
    refine ⟨l1, lx, _, _, rfl, rfl, h1, hx, Nat.le_of_lt (small_line (by rw [List.length_map, List.length_map]; omega)), fun l2 hl2 => ?_⟩
    rw [← List.map_append]
    have h2 : (upd H2 l2 (.lst ((ms ++ xs).map V.int))) l2 = some (.lst ((ms ++ xs).map V.int)) := upd_same
    have hW3 := hW2.same (Same.new (o := .lst ((ms ++ xs).map V.int)) hl2)
    clear hl2 hW2 h1 hx
    generalize upd H2 l2 (.lst ((ms ++ xs).map V.int)) = H3 at *
    walk_at "rd"
    refine ⟨l2, _, rfl, SqL.of h2, fun l3 hl3 => ?_⟩
    rw [cut_ten]
    have csl : 2 ≤ ((ms ++ xs).take 10).length ∧ ((ms ++ xs).take 10).length ≤ 10 := by rw [List.length_take, List.length_append]; omega
    generalize (ms ++ xs).take 10 = cs at *
    have h3 : (upd H3 l3 (.lst (cs.map V.int))) l3 = some (.lst (cs.map V.int)) := upd_same
    have hW4 := hW3.same (Same.new (o := .lst (cs.map V.int)) hl3)
    clear hl3 hW3 h2
    generalize upd H3 l3 (.lst (cs.map V.int)) = H4 at *
    walk_at "rd"
    refine ⟨⟨_, SqL.of h3⟩, comp1 (plain_list (SqL.of h3)) (by rw [List.length_map]; omega) (fun i v H => ∃ x y : Int, RwV H v x y ∧ Sz 110 x ∧ Sz 110 y) (fun _ _ _ _ t h => by obtain ⟨x, y, h1, h2⟩ := h; exact ⟨x, y, h1.tup t, h2⟩) (fun i H5 kk hi s5 hk => ?_) (fun E ys H5 hE s5 hE' hl5 hr => ?_)⟩
    · rw [List.length_map] at hi
      rw [int_at (List.getElem?_eq_getElem hi)]
      walk_at "rd"
      exact ⟨_, _, Bt, kd, rfl, hW4.same s5, fun v x y H6 s6 r z1 z2 => hk v H6 s6 ⟨x, y, r, z1, z2⟩⟩
    obtain ⟨pl, hP, hZ⟩ := pls_exist hr
    clear hr
    have hpl := hP.len
    rw [List.length_map] at hl5
    obtain ⟨wa', sa', ba', sx', sy', bx', by_', e', hwa, hsa, hba, r'⟩ := id (hW4.same s5)
    cases e'
    clear r'
    walk_at "rd"
    refine ⟨E, ys, pl, Bt, rfl, SqL.of hE', hP, by omega, zBt.mono (by decide), by omega, fun lc wc H6 s6 hc0 hc hC => ?_⟩
    have hcl := hC.len
    rw [ptsOf_len] at hcl
    have ov : ∀ p ∈ ptsOf Bt pl, OvP Bt 110 p := ptsOf_ov (by omega) hZ
    have psl : (ptsOf Bt pl).length = pl.length := ptsOf_len _ _
    clear hW4 s5 s6 hE' hP hwa hsa hba h3 hE hZ
    generalize ptsOf Bt pl = ps at *
    walk_at "rd"
    intro lh hlh
    have hc5 : (upd H6 lh (.lst wc)) lc = some (.lst wc) := upd_keep hlh hc
    have hh5 : (upd H6 lh (.lst wc)) lh = some (.lst wc) := upd_same
    have hC5 := hC.same (Same.new (o := .lst wc) hlh)
    clear hC hc hlh
    generalize upd H6 lh (.lst wc) = H7 at *
    walk_at "rd"
    refine ⟨lh, wc, ps, Bt, 110, 31, rfl, hh5, hC5, by omega, by omega, by omega, zBt, by decide, by decide, ov, fun lf uf d e S H8 s8 hf0 hf hfl hL T1 T2 S0 zS hO => ?_⟩
    have hM : 0 < Bt * S := Int.mul_pos (by omega) S0
    have zM : Sz 1500 (Bt * S) := (zBt.mul zS).mono (by decide)
    have hall := all_fine hM zM (by decide) (all_ov ov zS hO)
    have hc8 := s8 _ _ hc5
    have hh8 := s8 _ _ hh5
    have hC8 := hC5.same s8
    walk_at "rd"
    refine ⟨lf, lc, uf, wc, ps, d, e, Bt * S, rfl, hf, hfl, hL.cvs, hc8, hC8, by omega, by omega, T1, T2, hM, zM, hall, fun H9 s9 => ?_⟩
    walk_at "rd"
    refine ⟨datPts ps, datPts ps, dnP (s9 _ _ hh8) (hC8.same s9), dnP (s9 _ _ hc8) (hC8.same s9), datPts_ok _ 5, datPts_ok _ 5, fun bb hbb => ?_⟩
    obtain rfl := hbb.mpr rfl
    refine ⟨_, rfl, ifF rfl ?_⟩
    have nf1 : lh ≠ lf := fun e => by rw [← e, hh5] at hf0; cases hf0
    have nf2 : lc ≠ lf := fun e => by rw [← e, hc5] at hf0; cases hf0
    have G : ∀ (i : Nat) (v : V), uf[i]? = some v → ∃ (l : Addr) (xs : List V), v = V.ref l ∧ lh ≠ l ∧ lc ≠ l ∧ lf ≠ l ∧ H9 l = some (HO.lst xs) ∧ xs.length = 4 := fun i v ev => by
      obtain ⟨l, xs, e1, e2, e3, e4, e5⟩ := hL.get i v ev
      exact ⟨l, xs, e1, (fun z => by rw [← z, hh5] at e2; cases e2), (fun z => by rw [← z, hc5] at e2; cases e2), fun z => e3 z.symm, s9 _ _ e4, by rw [e5.len, cvP_len]⟩
    have one := hL.one
    have hf9 := s9 _ _ hf
    have hc9 := s9 _ _ hc8
    have hh9 := s9 _ _ hh8
    have hC9 := hC8.same s9
    clear hL hall T1 T2 hO s8 s9 hf hc8 hh8 hC8 hc5 hh5 hC5 hf0 hM zM
    walk_at "rd"
    refine ⟨⟨_, SqL.of hf9⟩, for_list (xs := uf) (fun i σ H' => ∃ (y : Option V), σ = [some (.ref a), some (.ref wa), some (.ref l2), some (.ref lc), some (.ref lh), some (.ref lf), y] ∧ Tup H9 H' ∧ H' lf = some (.lst uf) ∧ H' lc = some (.lst wc) ∧ H' lh = some (.lst wc) ∧ ∀ (j : Nat) (v : V), i ≤ j → uf[j]? = some v → ∃ (l : Addr) (xs : List V), v = V.ref l ∧ H' l = some (HO.lst xs) ∧ xs.length = 4) ⟨none, rfl, Tup.refl _, hf9, hc9, hh9, fun j v _ ev => by obtain ⟨l, xs, e1, _, _, _, e4, e5⟩ := G j v ev; exact ⟨l, xs, e1, e4, e5⟩⟩ ?_ ?_ ?_⟩
    · rintro i σ H10 hi ⟨y, rfl, t10, g1, g2, g3, g4⟩
      exact SqL.of g1
    · rintro i x σ H10 hx ⟨y, rfl, t10, g1, g2, g3, g4⟩
      obtain ⟨lk, xk, rfl, hk, hkl⟩ := g4 i x (Nat.le_refl _) hx
      obtain ⟨lk', xk', ek, nk1, nk2, nk3, _, _⟩ := G i _ hx
      cases ek
      obtain ⟨v0, ev0⟩ : ∃ v0, xk[0]? = some v0 := ⟨_, List.getElem?_eq_getElem (by omega)⟩
      have at0 : atI xk 0 = some v0 := atI_nat' (j := 0) rfl ev0
      walk_at "rd"
      refine ifF (by simp; omega) ?_
      walk_at "rd"
      refine ⟨.inl ⟨rfl, _, SqL.of hk⟩, ?_⟩
      walk_at "rd"
      refine ⟨lk, _, _, rfl, rfl, hk, small_line (by omega), ?_⟩
      refine ⟨_, rfl, t10.trans (Tup.lst hk), by rw [upd_ne nk3]; exact g1, by rw [upd_ne nk2]; exact g2, by rw [upd_ne nk1]; exact g3, fun j v hj ev => ?_⟩
      obtain ⟨l, xs, rfl, e2, e3⟩ := g4 j v (by omega) ev
      refine ⟨l, xs, rfl, ?_, e3⟩
      rw [upd_ne (fun z => by subst z; have := one i j _ hx ev; omega)]; exact e2
    rintro σ H10 ⟨y, rfl, t10, g1, g2, g3, g4⟩
    have hC10 := hC9.tup t10
    clear g4 G one t10 hC9
    walk_at "rd"
    refine ⟨.inl ⟨rfl, _, SqL.of g1⟩, lf, _, rfl, rfl, g1, ?_⟩
    have hh11 : (upd H10 lf (.lst [])) lh = some (.lst wc) := by rw [upd_ne nf1]; exact g3
    have hc11 : (upd H10 lf (.lst [])) lc = some (.lst wc) := by rw [upd_ne nf2]; exact g2
    have hC11 := hC10.tup (Tup.lst (o := .lst []) g1)
    clear hC10 g1 g2 g3 zS S0
    generalize upd H10 lf (.lst []) = H11 at *
    walk_at "rd"
    refine ⟨lh, wc, ps, Bt, 110, 31, rfl, hh11, hC11, by omega, by omega, by omega, zBt, by decide, by decide, ov, fun lg ug d2 e2 S2 H12 s12 hg0 hg hgl hL T1 T2 S0 zS hO => ?_⟩
    have hM : 0 < Bt * S2 := Int.mul_pos (by omega) S0
    have zM : Sz 1500 (Bt * S2) := (zBt.mul zS).mono (by decide)
    have hall := all_fine hM zM (by decide) (all_ov ov zS hO)
    walk_at "rd"
    exact ⟨lg, lc, ug, wc, ps, d2, e2, Bt * S2, rfl, hg, hgl, hL.cvs, s12 _ _ hc11, hC11.same s12, by omega, by omega, T1, T2, hM, zM, hall, fun H13 s13 => k _⟩
end
theorem all_mk {w : World} {K : PySem.W.Frag} {h : Heap} {mg : Str → Option Value} {fa : Addr} (KX : K.In h) (GN : h.Ns mainGlobals mg) (hfa : mg "law" = some (.ref fa))
    {f0 : Addr} {od0 an0 : Option Addr} {sl0 : Array (Option Value)} {oc0 kV0 dc0 pm0 cd0 ct0 : Value}
    {f1 : Addr} {od1 an1 : Option Addr} {sl1 : Array (Option Value)} {oc1 kV1 dc1 pm1 cd1 ct1 : Value}
    {f2 : Addr} {od2 an2 : Option Addr} {sl2 : Array (Option Value)} {oc2 kV2 dc2 pm2 cd2 ct2 : Value}
    {f3 : Addr} {od3 an3 : Option Addr} {sl3 : Array (Option Value)} {oc3 kV3 dc3 pm3 cd3 ct3 : Value}
    {f4 : Addr} {od4 an4 : Option Addr} {sl4 : Array (Option Value)} {oc4 kV4 dc4 pm4 cd4 ct4 : Value}
    {f5 : Addr} {od5 an5 : Option Addr} {sl5 : Array (Option Value)} {oc5 kV5 dc5 pm5 cd5 ct5 : Value}
    {f6 : Addr} {od6 an6 : Option Addr} {sl6 : Array (Option Value)} {oc6 kV6 dc6 pm6 cd6 ct6 : Value}
    {f7 : Addr} {od7 an7 : Option Addr} {sl7 : Array (Option Value)} {oc7 kV7 dc7 pm7 cd7 ct7 : Value}
    {f8 : Addr} {od8 an8 : Option Addr} {sl8 : Array (Option Value)} {oc8 kV8 dc8 pm8 cd8 ct8 : Value}
    {f9 : Addr} {od9 an9 : Option Addr} {sl9 : Array (Option Value)} {oc9 kV9 dc9 pm9 cd9 ct9 : Value}
    {f10 : Addr} {od10 an10 : Option Addr} {sl10 : Array (Option Value)} {oc10 kV10 dc10 pm10 cd10 ct10 : Value}
    {f11 : Addr} {od11 an11 : Option Addr} {sl11 : Array (Option Value)} {oc11 kV11 dc11 pm11 cd11 ct11 : Value}
    {f12 : Addr} {od12 an12 : Option Addr} {sl12 : Array (Option Value)} {oc12 kV12 dc12 pm12 cd12 ct12 : Value}
    {f13 : Addr} {od13 an13 : Option Addr} {sl13 : Array (Option Value)} {oc13 kV13 dc13 pm13 cd13 ct13 : Value}
    {f14 : Addr} {od14 an14 : Option Addr} {sl14 : Array (Option Value)} {oc14 kV14 dc14 pm14 cd14 ct14 : Value}
    {f15 : Addr} {od15 an15 : Option Addr} {sl15 : Array (Option Value)} {oc15 kV15 dc15 pm15 cd15 ct15 : Value}
    {f16 : Addr} {od16 an16 : Option Addr} {sl16 : Array (Option Value)} {oc16 kV16 dc16 pm16 cd16 ct16 : Value}
    {f17 : Addr} {od17 an17 : Option Addr} {sl17 : Array (Option Value)} {oc17 kV17 dc17 pm17 cd17 ct17 : Value}
    {f18 : Addr} {od18 an18 : Option Addr} {sl18 : Array (Option Value)} {oc18 kV18 dc18 pm18 cd18 ct18 : Value}
    {f19 : Addr} {od19 an19 : Option Addr} {sl19 : Array (Option Value)} {oc19 kV19 dc19 pm19 cd19 ct19 : Value}
    {f20 : Addr} {od20 an20 : Option Addr} {sl20 : Array (Option Value)} {oc20 kV20 dc20 pm20 cd20 ct20 : Value}
    {f21 : Addr} {od21 an21 : Option Addr} {sl21 : Array (Option Value)} {oc21 kV21 dc21 pm21 cd21 ct21 : Value}
    (a0 : PySem.W.nsIn K mainGlobals "_law_cell_at" = some (some (.ref f0))) (l0 : K.lookup f0 = some ⟨oc0, od0, .func (PySem.W.fnOf "_law_cell_at" "_law_cell_at" (defArgs s_l_cell_at) (defBody s_l_cell_at) (defScope s_l_cell_at) .none kV0 dc0 pm0 an0 cd0 ct0), sl0⟩) (c0 : PySem.W.codeIn K cd0 "_law_cell_at" = true) (k0 : PySem.W.keepIn K (.ref f0) = true)
    (a1 : PySem.W.nsIn K mainGlobals "_law_share" = some (some (.ref f1))) (l1 : K.lookup f1 = some ⟨oc1, od1, .func (PySem.W.fnOf "_law_share" "_law_share" (defArgs s_l_share) (defBody s_l_share) (defScope s_l_share) .none kV1 dc1 pm1 an1 cd1 ct1), sl1⟩) (c1 : PySem.W.codeIn K cd1 "_law_share" = true) (k1 : PySem.W.keepIn K (.ref f1) = true)
    (a2 : PySem.W.nsIn K mainGlobals "_law_are_points" = some (some (.ref f2))) (l2 : K.lookup f2 = some ⟨oc2, od2, .func (PySem.W.fnOf "_law_are_points" "_law_are_points" (defArgs s_l_are_points) (defBody s_l_are_points) (defScope s_l_are_points) .none kV2 dc2 pm2 an2 cd2 ct2), sl2⟩) (c2 : PySem.W.codeIn K cd2 "_law_are_points" = true) (k2 : PySem.W.keepIn K (.ref f2) = true)
    (a3 : PySem.W.nsIn K mainGlobals "_law_common" = some (some (.ref f3))) (l3 : K.lookup f3 = some ⟨oc3, od3, .func (PySem.W.fnOf "_law_common" "_law_common" (defArgs s_l_common) (defBody s_l_common) (defScope s_l_common) .none kV3 dc3 pm3 an3 cd3 ct3), sl3⟩) (c3 : PySem.W.codeIn K cd3 "_law_common" = true) (k3 : PySem.W.keepIn K (.ref f3) = true)
    (a4 : PySem.W.nsIn K mainGlobals "_law_second" = some (some (.ref f4))) (l4 : K.lookup f4 = some ⟨oc4, od4, .func (PySem.W.fnOf "_law_second" "_law_second" (defArgs s_l_second) (defBody s_l_second) (defScope s_l_second) .none kV4 dc4 pm4 an4 cd4 ct4), sl4⟩) (c4 : PySem.W.codeIn K cd4 "_law_second" = true) (k4 : PySem.W.keepIn K (.ref f4) = true)
    (a5 : PySem.W.nsIn K mainGlobals "_law_step" = some (some (.ref f5))) (l5 : K.lookup f5 = some ⟨oc5, od5, .func (PySem.W.fnOf "_law_step" "_law_step" (defArgs s_l_step) (defBody s_l_step) (defScope s_l_step) .none kV5 dc5 pm5 an5 cd5 ct5), sl5⟩) (c5 : PySem.W.codeIn K cd5 "_law_step" = true) (k5 : PySem.W.keepIn K (.ref f5) = true)
    (a6 : PySem.W.nsIn K mainGlobals "_law_good" = some (some (.ref f6))) (l6 : K.lookup f6 = some ⟨oc6, od6, .func (PySem.W.fnOf "_law_good" "_law_good" (defArgs s_l_good) (defBody s_l_good) (defScope s_l_good) .none kV6 dc6 pm6 an6 cd6 ct6), sl6⟩) (c6 : PySem.W.codeIn K cd6 "_law_good" = true) (k6 : PySem.W.keepIn K (.ref f6) = true)
    (a7 : PySem.W.nsIn K mainGlobals "_law_handed" = some (some (.ref f7))) (l7 : K.lookup f7 = some ⟨oc7, od7, .func (PySem.W.fnOf "_law_handed" "_law_handed" (defArgs s_l_handed) (defBody s_l_handed) (defScope s_l_handed) .none kV7 dc7 pm7 an7 cd7 ct7), sl7⟩) (c7 : PySem.W.codeIn K cd7 "_law_handed" = true) (k7 : PySem.W.keepIn K (.ref f7) = true)
    (a8 : PySem.W.nsIn K mainGlobals "_law_stream" = some (some (.ref f8))) (l8 : K.lookup f8 = some ⟨oc8, od8, .func (PySem.W.fnOf "_law_stream" "_law_stream" (defArgs s_l_stream) (defBody s_l_stream) (defScope s_l_stream) .none kV8 dc8 pm8 an8 cd8 ct8), sl8⟩) (c8 : PySem.W.codeIn K cd8 "_law_stream" = true) (k8 : PySem.W.keepIn K (.ref f8) = true)
    (a9 : PySem.W.nsIn K mainGlobals "_law_place" = some (some (.ref f9))) (l9 : K.lookup f9 = some ⟨oc9, od9, .func (PySem.W.fnOf "_law_place" "_law_place" (defArgs s_l_place) (defBody s_l_place) (defScope s_l_place) .none kV9 dc9 pm9 an9 cd9 ct9), sl9⟩) (c9 : PySem.W.codeIn K cd9 "_law_place" = true) (k9 : PySem.W.keepIn K (.ref f9) = true)
    (a10 : PySem.W.nsIn K mainGlobals "_law_way" = some (some (.ref f10))) (l10 : K.lookup f10 = some ⟨oc10, od10, .func (PySem.W.fnOf "_law_way" "_law_way" (defArgs s_l_way) (defBody s_l_way) (defScope s_l_way) .none kV10 dc10 pm10 an10 cd10 ct10), sl10⟩) (c10 : PySem.W.codeIn K cd10 "_law_way" = true) (k10 : PySem.W.keepIn K (.ref f10) = true)
    (a11 : PySem.W.nsIn K mainGlobals "greatest_common" = some (some (.ref f11))) (l11 : K.lookup f11 = some ⟨oc11, od11, .func (PySem.W.fnOf "greatest_common" "greatest_common" (defArgs s_greatest_common) (defBody s_greatest_common) (defScope s_greatest_common) .none kV11 dc11 pm11 an11 cd11 ct11), sl11⟩) (c11 : PySem.W.codeIn K cd11 "greatest_common" = true) (k11 : PySem.W.keepIn K (.ref f11) = true)
    (a12 : PySem.W.nsIn K mainGlobals "common_bottoms" = some (some (.ref f12))) (l12 : K.lookup f12 = some ⟨oc12, od12, .func (PySem.W.fnOf "common_bottoms" "common_bottoms" (defArgs s_common_bottoms) (defBody s_common_bottoms) (defScope s_common_bottoms) .none kV12 dc12 pm12 an12 cd12 ct12), sl12⟩) (c12 : PySem.W.codeIn K cd12 "common_bottoms" = true) (k12 : PySem.W.keepIn K (.ref f12) = true)
    (a13 : PySem.W.nsIn K mainGlobals "product" = some (some (.ref f13))) (l13 : K.lookup f13 = some ⟨oc13, od13, .func (PySem.W.fnOf "product" "product" (defArgs s_product) (defBody s_product) (defScope s_product) .none kV13 dc13 pm13 an13 cd13 ct13), sl13⟩) (c13 : PySem.W.codeIn K cd13 "product" = true) (k13 : PySem.W.keepIn K (.ref f13) = true)
    (a14 : PySem.W.nsIn K mainGlobals "axis" = some (some (.ref f14))) (l14 : K.lookup f14 = some ⟨oc14, od14, .func (PySem.W.fnOf "axis" "axis" (defArgs s_axis) (defBody s_axis) (defScope s_axis) .none kV14 dc14 pm14 an14 cd14 ct14), sl14⟩) (c14 : PySem.W.codeIn K cd14 "axis" = true) (k14 : PySem.W.keepIn K (.ref f14) = true)
    (a15 : PySem.W.nsIn K mainGlobals "axes" = some (some (.ref f15))) (l15 : K.lookup f15 = some ⟨oc15, od15, .func (PySem.W.fnOf "axes" "axes" (defArgs s_axes) (defBody s_axes) (defScope s_axes) .none kV15 dc15 pm15 an15 cd15 ct15), sl15⟩) (c15 : PySem.W.codeIn K cd15 "axes" = true) (k15 : PySem.W.keepIn K (.ref f15) = true)
    (a16 : PySem.W.nsIn K mainGlobals "steps_beside" = some (some (.ref f16))) (l16 : K.lookup f16 = some ⟨oc16, od16, .func (PySem.W.fnOf "steps_beside" "steps_beside" (defArgs s_steps_beside) (defBody s_steps_beside) (defScope s_steps_beside) .none kV16 dc16 pm16 an16 cd16 ct16), sl16⟩) (c16 : PySem.W.codeIn K cd16 "steps_beside" = true) (k16 : PySem.W.keepIn K (.ref f16) = true)
    (a17 : PySem.W.nsIn K mainGlobals "axes_beside" = some (some (.ref f17))) (l17 : K.lookup f17 = some ⟨oc17, od17, .func (PySem.W.fnOf "axes_beside" "axes_beside" (defArgs s_axes_beside) (defBody s_axes_beside) (defScope s_axes_beside) .none kV17 dc17 pm17 an17 cd17 ct17), sl17⟩) (c17 : PySem.W.codeIn K cd17 "axes_beside" = true) (k17 : PySem.W.keepIn K (.ref f17) = true)
    (a18 : PySem.W.nsIn K mainGlobals "share_over" = some (some (.ref f18))) (l18 : K.lookup f18 = some ⟨oc18, od18, .func (PySem.W.fnOf "share_over" "share_over" (defArgs s_share_over) (defBody s_share_over) (defScope s_share_over) .none kV18 dc18 pm18 an18 cd18 ct18), sl18⟩) (c18 : PySem.W.codeIn K cd18 "share_over" = true) (k18 : PySem.W.keepIn K (.ref f18) = true)
    (a19 : PySem.W.nsIn K mainGlobals "points_of" = some (some (.ref f19))) (l19 : K.lookup f19 = some ⟨oc19, od19, .func (PySem.W.fnOf "points_of" "points_of" (defArgs s_points_of) (defBody s_points_of) (defScope s_points_of) .none kV19 dc19 pm19 an19 cd19 ct19), sl19⟩) (c19 : PySem.W.codeIn K cd19 "points_of" = true) (k19 : PySem.W.keepIn K (.ref f19) = true)
    (a20 : PySem.W.nsIn K mainGlobals "through" = some (some (.ref f20))) (l20 : K.lookup f20 = some ⟨oc20, od20, .func (PySem.W.fnOf "through" "through" (defArgs s_through) (defBody s_through) (defScope s_through) .none kV20 dc20 pm20 an20 cd20 ct20), sl20⟩) (c20 : PySem.W.codeIn K cd20 "through" = true) (k20 : PySem.W.keepIn K (.ref f20) = true)
    (a21 : PySem.W.nsIn K mainGlobals "law" = some (some (.ref f21))) (l21 : K.lookup f21 = some ⟨oc21, od21, .func (PySem.W.fnOf "law" "law" (defArgs s_law) (defBody s_law) (defScope s_law) .none kV21 dc21 pm21 an21 cd21 ct21), sl21⟩) (c21 : PySem.W.codeIn K cd21 "law" = true) (k21 : PySem.W.keepIn K (.ref f21) = true)
    (z_len : PySem.W.nsIn K mainGlobals "len" = some none)
    (z_abs : PySem.W.nsIn K mainGlobals "abs" = some none)
    (z_range : PySem.W.nsIn K mainGlobals "range" = some none)
    (z_max : PySem.W.nsIn K mainGlobals "max" = some none)
    (z_min : PySem.W.nsIn K mainGlobals "min" = some none)
    (z_any : PySem.W.nsIn K mainGlobals "any" = some none)
    (z_all : PySem.W.nsIn K mainGlobals "all" = some none)
    (z_sum : PySem.W.nsIn K mainGlobals "sum" = some none)
    (z_isinstance : PySem.W.nsIn K mainGlobals "isinstance" = some none)
    (z_int : PySem.W.nsIn K mainGlobals "int" = some none)
    (z_bool : PySem.W.nsIn K mainGlobals "bool" = some none)
    (z_tuple : PySem.W.nsIn K mainGlobals "tuple" = some none)
    (z_list : PySem.W.nsIn K mainGlobals "list" = some none)
    (z_str : PySem.W.nsIn K mainGlobals "str" = some none)
    (z_ValueError : PySem.W.nsIn K mainGlobals "ValueError" = some none)
    (z_zip : PySem.W.nsIn K mainGlobals "zip" = some none)
    (z_reversed : PySem.W.nsIn K mainGlobals "reversed" = some none)
    (z_enumerate : PySem.W.nsIn K mainGlobals "enumerate" = some none)
    (z_sorted : PySem.W.nsIn K mainGlobals "sorted" = some none)
    (z_dict : PySem.W.nsIn K mainGlobals "dict" = some none)
    : ∃ fd : FuncData, (∀ (s : Shared) (v : Value), BindsTo s fd ⟨[v], []⟩ [("_law_script", v)]) ∧ ∀ (P : Program) (base : Heap), K.In base → base.Ns mainGlobals mg → FnOk P w K mg base CX0 6 fa fd ["_law_script"] ((spLaw K)) := by
  have e := hfa.symm.trans (PySem.W.mg_of KX GN a21)
  cases e
  have B : Blt mg := ⟨PySem.W.mg_none_of KX GN z_len, PySem.W.mg_none_of KX GN z_abs, PySem.W.mg_none_of KX GN z_range, PySem.W.mg_none_of KX GN z_max, PySem.W.mg_none_of KX GN z_min, PySem.W.mg_none_of KX GN z_any, PySem.W.mg_none_of KX GN z_all, PySem.W.mg_none_of KX GN z_sum, PySem.W.mg_none_of KX GN z_isinstance, PySem.W.mg_none_of KX GN z_int, PySem.W.mg_none_of KX GN z_bool, PySem.W.mg_none_of KX GN z_tuple, PySem.W.mg_none_of KX GN z_list, PySem.W.mg_none_of KX GN z_str, PySem.W.mg_none_of KX GN z_ValueError, PySem.W.mg_none_of KX GN z_zip, PySem.W.mg_none_of KX GN z_reversed, PySem.W.mg_none_of KX GN z_enumerate, PySem.W.mg_none_of KX GN z_sorted, PySem.W.mg_none_of KX GN z_dict⟩
  have F0 : FunAt K mg "_law_cell_at" s_l_cell_at ["_law_script", "_law_k"] := FunAt.mk' (PySem.W.mg_of KX GN a0) l0 c0 k0 fun _ _ _ _ _ _ us hl => match us, hl with | [_, _], _ => rfl
  have F1 : FunAt K mg "_law_share" s_l_share ["_law_top", "_law_bottom"] := FunAt.mk' (PySem.W.mg_of KX GN a1) l1 c1 k1 fun _ _ _ _ _ _ us hl => match us, hl with | [_, _], _ => rfl
  have F2 : FunAt K mg "_law_are_points" s_l_are_points ["_law_found", "_law_many"] := FunAt.mk' (PySem.W.mg_of KX GN a2) l2 c2 k2 fun _ _ _ _ _ _ us hl => match us, hl with | [_, _], _ => rfl
  have F3 : FunAt K mg "_law_common" s_l_common ["_law_places"] := FunAt.mk' (PySem.W.mg_of KX GN a3) l3 c3 k3 fun _ _ _ _ _ _ us hl => match us, hl with | [_], _ => rfl
  have F4 : FunAt K mg "_law_second" s_l_second ["_law_seats", "_law_k"] := FunAt.mk' (PySem.W.mg_of KX GN a4) l4 c4 k4 fun _ _ _ _ _ _ us hl => match us, hl with | [_, _], _ => rfl
  have F5 : FunAt K mg "_law_step" s_l_step ["_law_seats", "_law_k"] := FunAt.mk' (PySem.W.mg_of KX GN a5) l5 c5 k5 fun _ _ _ _ _ _ us hl => match us, hl with | [_, _], _ => rfl
  have F6 : FunAt K mg "_law_good" s_l_good ["_law_found", "_law_points"] := FunAt.mk' (PySem.W.mg_of KX GN a6) l6 c6 k6 fun _ _ _ _ _ _ us hl => match us, hl with | [_, _], _ => rfl
  have F7 : FunAt K mg "_law_handed" s_l_handed ["_law_places", "_law_bottom"] := FunAt.mk' (PySem.W.mg_of KX GN a7) l7 c7 k7 fun _ _ _ _ _ _ us hl => match us, hl with | [_, _], _ => rfl
  have F8 : FunAt K mg "_law_stream" s_l_stream ["_law_cell", "_law_many"] := FunAt.mk' (PySem.W.mg_of KX GN a8) l8 c8 k8 fun _ _ _ _ _ _ us hl => match us, hl with | [_, _], _ => rfl
  have F9 : FunAt K mg "_law_place" s_l_place ["_law_cell", "_law_way_here"] := FunAt.mk' (PySem.W.mg_of KX GN a9) l9 c9 k9 fun _ _ _ _ _ _ us hl => match us, hl with | [_, _], _ => rfl
  have F10 : FunAt K mg "_law_way" s_l_way ["_law_cell"] := FunAt.mk' (PySem.W.mg_of KX GN a10) l10 c10 k10 fun _ _ _ _ _ _ us hl => match us, hl with | [_], _ => rfl
  have F11 : FunAt K mg "greatest_common" s_greatest_common ["one", "other"] := FunAt.mk' (PySem.W.mg_of KX GN a11) l11 c11 k11 fun _ _ _ _ _ _ us hl => match us, hl with | [_, _], _ => rfl
  have F12 : FunAt K mg "common_bottoms" s_common_bottoms ["shares"] := FunAt.mk' (PySem.W.mg_of KX GN a12) l12 c12 k12 fun _ _ _ _ _ _ us hl => match us, hl with | [_], _ => rfl
  have F13 : FunAt K mg "product" s_product ["numbers"] := FunAt.mk' (PySem.W.mg_of KX GN a13) l13 c13 k13 fun _ _ _ _ _ _ us hl => match us, hl with | [_], _ => rfl
  have F14 : FunAt K mg "axis" s_axis ["shares"] := FunAt.mk' (PySem.W.mg_of KX GN a14) l14 c14 k14 fun _ _ _ _ _ _ us hl => match us, hl with | [_], _ => rfl
  have F15 : FunAt K mg "axes" s_axes ["points"] := FunAt.mk' (PySem.W.mg_of KX GN a15) l15 c15 k15 fun _ _ _ _ _ _ us hl => match us, hl with | [_], _ => rfl
  have F16 : FunAt K mg "steps_beside" s_steps_beside ["tops"] := FunAt.mk' (PySem.W.mg_of KX GN a16) l16 c16 k16 fun _ _ _ _ _ _ us hl => match us, hl with | [_], _ => rfl
  have F17 : FunAt K mg "axes_beside" s_axes_beside ["one"] := FunAt.mk' (PySem.W.mg_of KX GN a17) l17 c17 k17 fun _ _ _ _ _ _ us hl => match us, hl with | [_], _ => rfl
  have F18 : FunAt K mg "share_over" s_share_over ["top", "bottoms"] := FunAt.mk' (PySem.W.mg_of KX GN a18) l18 c18 k18 fun _ _ _ _ _ _ us hl => match us, hl with | [_, _], _ => rfl
  have F19 : FunAt K mg "points_of" s_points_of ["xs", "ys"] := FunAt.mk' (PySem.W.mg_of KX GN a19) l19 c19 k19 fun _ _ _ _ _ _ us hl => match us, hl with | [_, _], _ => rfl
  have F20 : FunAt K mg "through" s_through ["points"] := FunAt.mk' (PySem.W.mg_of KX GN a20) l20 c20 k20 fun _ _ _ _ _ _ us hl => match us, hl with | [_], _ => rfl
  have F21 : FunAt K mg "law" s_law ["_law_script"] := FunAt.mk' (PySem.W.mg_of KX GN a21) l21 c21 k21 fun _ _ _ _ _ _ us hl => match us, hl with | [_], _ => rfl
  refine ⟨PySem.W.fnOf "law" "law" (defArgs s_law) (defBody s_law) (defScope s_law) .none kV21 dc21 pm21 an21 cd21 ct21, fun s v => .of_eq rfl, fun P base _ _ => ?_⟩
  have D0 : DefOk P w K mg base CX0 1 "_law_cell_at" ["_law_script", "_law_k"] (spCell K) := ok_l_cell_at F0 B
  have D1 : DefOk P w K mg base CX0 1 "_law_share" ["_law_top", "_law_bottom"] spLShare := ok_l_share F1 B
  have D2 : DefOk P w K mg base CX0 2 "_law_are_points" ["_law_found", "_law_many"] (spArePts K) := ok_l_are_points F2 B D1
  have D3 : DefOk P w K mg base CX0 2 "_law_common" ["_law_places"] (spCommonM K) := ok_l_common F3 B D1
  have D4 : DefOk P w K mg base CX0 1 "_law_second" ["_law_seats", "_law_k"] (spSecond K) := ok_l_second F4 B
  have D5 : DefOk P w K mg base CX0 1 "_law_step" ["_law_seats", "_law_k"] (spStepQ K) := ok_l_step F5 B
  have D6 : DefOk P w K mg base CX0 3 "_law_good" ["_law_found", "_law_points"] (spGoodT K) := ok_l_good F6 B D2 D3 D4 D5
  have D7 : DefOk P w K mg base CX0 2 "_law_handed" ["_law_places", "_law_bottom"] (spHanded K) := ok_l_handed F7 B D1
  have D8 : DefOk P w K mg base CX0 1 "_law_stream" ["_law_cell", "_law_many"] spStreamC := ok_l_stream F8 B
  have D9 : DefOk P w K mg base CX0 2 "_law_place" ["_law_cell", "_law_way_here"] spPlace := ok_l_place F9 B D8
  have D10 : DefOk P w K mg base CX0 2 "_law_way" ["_law_cell"] spWay := ok_l_way F10 B D8
  have D11 : DefOk P w K mg base CX0 1 "greatest_common" ["one", "other"] spGcd := ok_greatest_common F11 B
  have D12 : DefOk P w K mg base CX0 2 "common_bottoms" ["shares"] (spCommon K) := ok_common_bottoms F12 B D11
  have D13 : DefOk P w K mg base CX0 1 "product" ["numbers"] (spProduct K) := ok_product F13 B
  have D14 : DefOk P w K mg base CX0 3 "axis" ["shares"] (spAxisD K) := ok_axis F14 B D12 D13
  have D15 : DefOk P w K mg base CX0 4 "axes" ["points"] (spAxesD K) := ok_axes F15 B D14
  have D16 : DefOk P w K mg base CX0 1 "steps_beside" ["tops"] (spSteps K) := ok_steps_beside F16 B
  have D17 : DefOk P w K mg base CX0 2 "axes_beside" ["one"] (spAxB K) := ok_axes_beside F17 B D16
  have D18 : DefOk P w K mg base CX0 2 "share_over" ["top", "bottoms"] (spOverAll K) := ok_share_over F18 B D11
  have D19 : DefOk P w K mg base CX0 3 "points_of" ["xs", "ys"] spPointsOf := ok_points_of F19 B D18
  have D20 : DefOk P w K mg base CX0 5 "through" ["points"] (spThru K) := ok_through F20 B D15 D17 D19
  have D21 : DefOk P w K mg base CX0 6 "law" ["_law_script"] (spLaw K) := ok_law F21 B D0 D6 D7 D8 D9 D10 D20
  exact D21.law l21 (PySem.W.mg_of KX GN a21)
end Cv
open PySem PySem.W PyProof.Rows
set_option maxHeartbeats 0 in
theorem PySem.Challenge.cw_curveseat_k72_through_holds : PySem.Challenge.rw_curveseat_k72_through.Holds := by
  w_on; o_law; k_head; (case hw => w_witness2)
  k_fill
  refine Cv.walk (l := PySem.Challenge.rw_curveseat_k72_through) (k := 6) (x := "_law_script") (CX := L2.CX0) (sp := fun K => (Cv.spLaw K)) rfl rfl ⟨rfl, by decide, by decide⟩ (fun w h Y => PySem.W.kIn_of Y) ?F (fun K H a ns h1 h2 h3 => ⟨a, ns, rfl, h3, h1, fun _ => rfl⟩) (fun _ _ _ _ z => z)
  case F =>
    intro w mg fa h KX G hmg
    refine' Cv.all_mk KX G hmg ?a0 ?l0 ?c0 ?k0 ?a1 ?l1 ?c1 ?k1 ?a2 ?l2 ?c2 ?k2 ?a3 ?l3 ?c3 ?k3 ?a4 ?l4 ?c4 ?k4 ?a5 ?l5 ?c5 ?k5 ?a6 ?l6 ?c6 ?k6 ?a7 ?l7 ?c7 ?k7 ?a8 ?l8 ?c8 ?k8 ?a9 ?l9 ?c9 ?k9 ?a10 ?l10 ?c10 ?k10 ?a11 ?l11 ?c11 ?k11 ?a12 ?l12 ?c12 ?k12 ?a13 ?l13 ?c13 ?k13 ?a14 ?l14 ?c14 ?k14 ?a15 ?l15 ?c15 ?k15 ?a16 ?l16 ?c16 ?k16 ?a17 ?l17 ?c17 ?k17 ?a18 ?l18 ?c18 ?k18 ?a19 ?l19 ?c19 ?k19 ?a20 ?l20 ?c20 ?k20 ?a21 ?l21 ?c21 ?k21 ?z_len ?z_abs ?z_range ?z_max ?z_min ?z_any ?z_all ?z_sum ?z_isinstance ?z_int ?z_bool ?z_tuple ?z_list ?z_str ?z_ValueError ?z_zip ?z_reversed ?z_enumerate ?z_sorted ?z_dict
    (case a0 => k_is)
    (case l0 => k_is)
    (case c0 => k_is)
    (case k0 => k_is)
    (case a1 => k_is)
    (case l1 => k_is)
    (case c1 => k_is)
    (case k1 => k_is)
    (case a2 => k_is)
    (case l2 => k_is)
    (case c2 => k_is)
    (case k2 => k_is)
    (case a3 => k_is)
    (case l3 => k_is)
    (case c3 => k_is)
    (case k3 => k_is)
    (case a4 => k_is)
    (case l4 => k_is)
    (case c4 => k_is)
    (case k4 => k_is)
    (case a5 => k_is)
    (case l5 => k_is)
    (case c5 => k_is)
    (case k5 => k_is)
    (case a6 => k_is)
    (case l6 => k_is)
    (case c6 => k_is)
    (case k6 => k_is)
    (case a7 => k_is)
    (case l7 => k_is)
    (case c7 => k_is)
    (case k7 => k_is)
    (case a8 => k_is)
    (case l8 => k_is)
    (case c8 => k_is)
    (case k8 => k_is)
    (case a9 => k_is)
    (case l9 => k_is)
    (case c9 => k_is)
    (case k9 => k_is)
    (case a10 => k_is)
    (case l10 => k_is)
    (case c10 => k_is)
    (case k10 => k_is)
    (case a11 => k_is)
    (case l11 => k_is)
    (case c11 => k_is)
    (case k11 => k_is)
    (case a12 => k_is)
    (case l12 => k_is)
    (case c12 => k_is)
    (case k12 => k_is)
    (case a13 => k_is)
    (case l13 => k_is)
    (case c13 => k_is)
    (case k13 => k_is)
    (case a14 => k_is)
    (case l14 => k_is)
    (case c14 => k_is)
    (case k14 => k_is)
    (case a15 => k_is)
    (case l15 => k_is)
    (case c15 => k_is)
    (case k15 => k_is)
    (case a16 => k_is)
    (case l16 => k_is)
    (case c16 => k_is)
    (case k16 => k_is)
    (case a17 => k_is)
    (case l17 => k_is)
    (case c17 => k_is)
    (case k17 => k_is)
    (case a18 => k_is)
    (case l18 => k_is)
    (case c18 => k_is)
    (case k18 => k_is)
    (case a19 => k_is)
    (case l19 => k_is)
    (case c19 => k_is)
    (case k19 => k_is)
    (case a20 => k_is)
    (case l20 => k_is)
    (case c20 => k_is)
    (case k20 => k_is)
    (case a21 => k_is)
    (case l21 => k_is)
    (case c21 => k_is)
    (case k21 => k_is)
    (case z_len => k_is)
    (case z_abs => k_is)
    (case z_range => k_is)
    (case z_max => k_is)
    (case z_min => k_is)
    (case z_any => k_is)
    (case z_all => k_is)
    (case z_sum => k_is)
    (case z_isinstance => k_is)
    (case z_int => k_is)
    (case z_bool => k_is)
    (case z_tuple => k_is)
    (case z_list => k_is)
    (case z_str => k_is)
    (case z_ValueError => k_is)
    (case z_zip => k_is)
    (case z_reversed => k_is)
    (case z_enumerate => k_is)
    (case z_sorted => k_is)
    (case z_dict => k_is)
#print axioms PySem.Challenge.cw_curveseat_k72_through_holds
